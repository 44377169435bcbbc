import PyProof.Rows.All
import Wide.All
import OpenK.AllK
import Wide.FinOn
import HandS.ForMost
import HandS.Wide
import HandS.IsInst
import HandS.TupMul
import HandS.TupAny
import HandS.TupLe
import HandS.Deep
import HandS.Conv
import HandS.Sort
import HandS.Style
import HandS.AnyAll
import PyProof.ReprRoads
import HandS.Nested
import KE.KDictKeyed
import PyProof.ListStr
import PyProof.StrOps2
import HandS.StrMore
import HandS.Zip
import HandS.NamedTupSort
import HandS.SortRule
import HandS.SortInts
import HandS.Lambda
import HandS.Walk
import HandS.Dict
import HandS.Iter
import HandS.Zip0
import PyProof.EnumMake
import PyProof.Draws
import KE.KDictDisplayH
import HandS.DictComp
import HandS.EndBits
import PyProof.StrLawsRepr
import PySem.Challenge.RW_seamlots_k04_parting_words
section
set_option Elab.async false
set_option linter.all false
set_option maxRecDepth 100000
set_option maxHeartbeats 1000000
/-! DL, part a: plain data over the tracked heap. A value stands for a datum; what may still change is told apart by a set N of addresses. -/
namespace DL
open PySem PySem.Spec PyProof.Rows L2

abbrev D := PyData
abbrev AS := Addr → Prop
abbrev Fg := PySem.W.Frag

/-- what the code of a made function is -/
structure CodeT where
  name : Str
  qual : Str
  params : Arguments
  body : FuncBody
  scope : Scope
  fr : List Str
/-- the code objects whose tables may grow, and their tables; a weak table tells no names; the names by place; which code stands for which number -/
class Tabs where
  l : List (Addr × Addr)
  weak : Addr → Bool
  nm : Nat → Nat → Str
  chk : Nat → CodeT → Prop
variable [Tabs]
def TabOk (H : Hp) (b : Addr) : Prop := GxR.TabG H b ∧ (Tabs.weak b = false → NdefX.TabN H b Tabs.nm)
/-- a tuple of the written part -/
def KT (K : Fg) (a : Addr) (xs : List V) : Prop :=
  ∃ (o : Obj) (its : Array Value) (n : Nat), K.lookup a = some o ∧ o.cls = .type "tuple" ∧
    o.data = .seq its n ∧ its.size ≤ sizeLine ∧ Vals xs its.toList
/-- read at a, and a is not among N -/
def LsR (N : AS) (H : Hp) (a : Addr) (xs : List V) : Prop := ¬ N a ∧ H a = some (.lst xs)
def TpR (K : Fg) (N : AS) (H : Hp) (a : Addr) (xs : List V) : Prop := (¬ N a ∧ Rd H a (.tup xs)) ∨ KT K a xs
theorem LsR.sq {K : Fg} {N : AS} {H : Hp} {a : Addr} {xs : List V} (h : LsR N H a xs) : SqL K H a xs := .of h.2
theorem TpR.sq {K : Fg} {N : AS} {H : Hp} {a : Addr} {xs : List V} (h : TpR K N H a xs) : SqT K H a xs := h.imp (·.2) id

mutual
/-- the value v stands for the datum d, and no list or tuple of it stands at an address of N -/
inductive DR (K : Fg) (N : AS) (H : Hp) : V → D → Prop
  | non : DR K N H .non .none
  | bl (b : Bool) : DR K N H (.bl b) (.bool b)
  | int (i : Int) : DR K N H (.int i) (.int i)
  | str (x : Str) : DR K N H (.str x) (.str x)
  | lst {a : Addr} {xs : List V} {ds : List D} : LsR N H a xs → DRs K N H xs ds → DR K N H (.ref a) (.list ds)
  | tup {a : Addr} {xs : List V} {ds : List D} : TpR K N H a xs → DRs K N H xs ds → DR K N H (.ref a) (.tuple ds)
inductive DRs (K : Fg) (N : AS) (H : Hp) : List V → List D → Prop
  | nil : DRs K N H [] []
  | cons {v : V} {vs : List V} {d : D} {ds : List D} : DR K N H v d → DRs K N H vs ds → DRs K N H (v :: vs) (d :: ds)
end

theorem TabOk.of {H H' : Hp} {b : Addr} (q : TabOk H b) (hb : H' b = H b) (k : ∀ c φ, H c = some (.ext φ) → H' c = some (.ext φ)) : TabOk H' b := by
  obtain ⟨⟨ps, e, t⟩, n⟩ := q
  refine ⟨⟨ps, hb.trans e, t⟩, fun w => ?_⟩
  obtain ⟨ps', h1, h2, h3⟩ := n w
  refine ⟨ps', hb.trans h1, h2, fun pos cv hc => ?_⟩
  obtain ⟨c, e1, e2⟩ := h3 pos cv hc
  exact ⟨c, e1, k c _ e2⟩
/-- all but the addresses of m and the tables is kept; tables stay tables -/
structure Ext (m : AS) (H H' : Hp) : Prop where
  k : ∀ b o, H b = some o → ¬ m b → (∀ ps, o ≠ .tbl ps) → H' b = some o
  t : ∀ b, TabOk H b → TabOk H' b
  d : ∀ b, H' b = none → H b = none
theorem Ext.refl (m : AS) (H : Hp) : Ext m H H := ⟨fun _ _ h _ _ => h, fun _ h => h, fun _ h => h⟩
theorem Ext.trans {m : AS} {H H1 H2 : Hp} (a : Ext m H H1) (b : Ext m H1 H2) : Ext m H H2 :=
  ⟨fun c o h n t => b.k c o (a.k c o h n t) n t, fun c h => b.t c (a.t c h), fun c h => a.d c (b.d c h)⟩
theorem Ext.mono {m m' : AS} {H H1 : Hp} (a : Ext m H H1) (h : ∀ b, m b → m' b) : Ext m' H H1 :=
  ⟨fun c o q n t => a.k c o q (fun z => n (h c z)) t, a.t, a.d⟩
theorem tab_upd {H : Hp} {p : Addr} {o : HO} (h : ∀ ps, H p ≠ some (.tbl ps)) (hx : ∀ φ, H p ≠ some (.ext φ)) (b : Addr) (q : TabOk H b) : TabOk (upd H p o) b := by
  have nb : b ≠ p := fun z => by
    obtain ⟨ps, e, _⟩ := q.1
    exact h ps (z ▸ e)
  exact q.of (upd_ne nb) fun c φ e => (upd_ne (fun z : c = p => hx φ (z ▸ e))).trans e
theorem upd_no {H : Hp} {p : Addr} {o : HO} (b : Addr) (h : upd H p o b = none) : H b = none := by
  unfold upd at h
  split at h
  · cases h
  · exact h
theorem Ext.new {m : AS} {H : Hp} {p : Addr} {o : HO} (h : H p = none) : Ext m H (upd H p o) :=
  ⟨fun b u e _ _ => (upd_ne (ne_of_none e h)).trans e, tab_upd (fun ps z => by rw [h] at z; cases z) (fun ps z => by rw [h] at z; cases z), upd_no⟩
theorem Ext.put {m : AS} {H : Hp} {p : Addr} {o : HO} {xs : List V} (h : m p) (e : H p = some (.lst xs)) : Ext m H (upd H p o) :=
  ⟨fun b u e n _ => (upd_ne (fun z : b = p => n (z ▸ h))).trans e, tab_upd (fun ps z => by rw [e] at z; cases z) (fun ps z => by rw [e] at z; cases z), upd_no⟩
theorem Ext.rd {m : AS} {H H' : Hp} {a : Addr} {u : HO} (e : Ext m H H') (n : ¬ m a) (t : ∀ ps, u ≠ .tbl ps) (r : Rd H a u) : Rd H' a u := by
  rcases r with r | ⟨o, r⟩
  · exact .inl (e.k a u r n t)
  · exact .inr ⟨o, e.k a _ r n (fun ps z => nomatch z)⟩

section
variable {K : Fg} {N N' m : AS} {H H' : Hp}
mutual
theorem DR.trans (hl : ∀ a xs, LsR N H a xs → LsR N' H' a xs) (ht : ∀ a xs, TpR K N H a xs → TpR K N' H' a xs) : ∀ {d : D} {v : V}, DR K N H v d → DR K N' H' v d
  | .none, _, .non => .non
  | .bool _, _, .bl b => .bl b
  | .int _, _, .int i => .int i
  | .str _, _, .str x => .str x
  | .list _, _, .lst a b => .lst (hl _ _ a) (DRs.trans hl ht b)
  | .tuple _, _, .tup a b => .tup (ht _ _ a) (DRs.trans hl ht b)
theorem DRs.trans (hl : ∀ a xs, LsR N H a xs → LsR N' H' a xs) (ht : ∀ a xs, TpR K N H a xs → TpR K N' H' a xs) : ∀ {ds : List D} {vs : List V}, DRs K N H vs ds → DRs K N' H' vs ds
  | [], _, .nil => .nil
  | _ :: _, _, .cons a b => .cons (DR.trans hl ht a) (DRs.trans hl ht b)
end
theorem LsR.mono (h : ∀ a, N' a → N a) (a : Addr) (xs : List V) (q : LsR N H a xs) : LsR N' H a xs := ⟨fun y => q.1 (h a y), q.2⟩
theorem TpR.mono (h : ∀ a, N' a → N a) (a : Addr) (xs : List V) (q : TpR K N H a xs) : TpR K N' H a xs := q.imp (fun z => ⟨fun y => z.1 (h a y), z.2⟩) id
theorem DR.mono (h : ∀ a, N' a → N a) {v : V} {d : D} (q : DR K N H v d) : DR K N' H v d := q.trans (LsR.mono h) (TpR.mono h)
theorem DRs.mono (h : ∀ a, N' a → N a) {v : List V} {d : List D} (q : DRs K N H v d) : DRs K N' H v d := q.trans (LsR.mono h) (TpR.mono h)
theorem LsR.ext (e : Ext m H H') (h : ∀ a, m a → N a) (a : Addr) (xs : List V) (q : LsR N H a xs) : LsR N H' a xs :=
  ⟨q.1, e.k _ _ q.2 (fun y => q.1 (h a y)) (fun _ => nofun)⟩
theorem TpR.ext (e : Ext m H H') (h : ∀ a, m a → N a) (a : Addr) (xs : List V) (q : TpR K N H a xs) : TpR K N H' a xs :=
  q.imp (fun z => ⟨z.1, e.rd (fun y => z.1 (h a y)) (fun _ => nofun) z.2⟩) id
theorem DR.ext (e : Ext m H H') (h : ∀ a, m a → N a) {v : V} {d : D} (q : DR K N H v d) : DR K N H' v d := q.trans (LsR.ext e h) (TpR.ext e h)
theorem DRs.ext (e : Ext m H H') (h : ∀ a, m a → N a) {v : List V} {d : List D} (q : DRs K N H v d) : DRs K N H' v d := q.trans (LsR.ext e h) (TpR.ext e h)
theorem Rd.there {a : Addr} {u : HO} (r : Rd H a u) : ∃ o, H a = some o := by
  rcases r with r | ⟨o, r⟩ <;> exact ⟨_, r⟩
theorem rd_ne {p a : Addr} {u : HO} (hp : H p = none) (r : Rd H a u) : a ≠ p := fun e => by
  obtain ⟨o, q⟩ := Rd.there r
  rw [e, hp] at q
  cases q
theorem LsR.grow {p : Addr} (hp : H p = none) (a : Addr) (xs : List V) (q : LsR N H a xs) : LsR (fun a => N a ∨ a = p) H a xs :=
  ⟨fun w => w.elim q.1 (ne_of_none q.2 hp), q.2⟩
theorem TpR.grow {p : Addr} (hp : H p = none) (a : Addr) (xs : List V) (q : TpR K N H a xs) : TpR K (fun a => N a ∨ a = p) H a xs :=
  q.imp (fun y => ⟨fun w => w.elim y.1 (rd_ne hp y.2), y.2⟩) id
theorem DR.grow {p : Addr} (hp : H p = none) {v : V} {d : D} (q : DR K N H v d) : DR K (fun a => N a ∨ a = p) H v d := q.trans (LsR.grow hp) (TpR.grow hp)
theorem DRs.grow {p : Addr} (hp : H p = none) {v : List V} {d : List D} (q : DRs K N H v d) : DRs K (fun a => N a ∨ a = p) H v d := q.trans (LsR.grow hp) (TpR.grow hp)
mutual
theorem DR.dp : ∀ {d : D} {v : V}, DR K N H v d → Dp K H v d
  | .none, _, .non => .non
  | .bool _, _, .bl b => .bl b
  | .int _, _, .int i => .int i
  | .str _, _, .str x => .str x
  | .list _, _, .lst a b => .lst a.sq (DRs.dp b)
  | .tuple _, _, .tup a b => .tup a.sq (DRs.dp b)
theorem DRs.dp : ∀ {ds : List D} {vs : List V}, DRs K N H vs ds → DpAll K H vs ds
  | [], _, .nil => .nil
  | _ :: _, _, .cons a b => .cons (DR.dp a) (DRs.dp b)
end
theorem DRs.length : ∀ {ds : List D} {vs : List V}, DRs K N H vs ds → vs.length = ds.length
  | [], _, .nil => rfl
  | _ :: _, _, .cons _ b => by rw [List.length_cons, List.length_cons, DRs.length b]
theorem DRs.get : ∀ {ds : List D} {vs : List V} {i : Nat} {d : D}, DRs K N H vs ds → ds[i]? = some d → ∃ v, vs[i]? = some v ∧ DR K N H v d
  | _ :: _, _, 0, _, .cons a _, e => by simp at e; subst e; exact ⟨_, rfl, a⟩
  | _ :: _, _, i + 1, _, .cons _ b, e => by
    obtain ⟨v, h1, h2⟩ := DRs.get (i := i) b (by simpa using e)
    exact ⟨v, by simpa using h1, h2⟩
theorem DRs.get' {ds : List D} {vs : List V} {i : Nat} {v : V} (q : DRs K N H vs ds) (e : vs[i]? = some v) : ∃ d, ds[i]? = some d ∧ DR K N H v d := by
  obtain ⟨h, _⟩ := List.getElem?_eq_some_iff.mp e
  have h2 : i < ds.length := by rw [← q.length]; exact h
  obtain ⟨w, h3, h4⟩ := q.get (List.getElem?_eq_getElem h2)
  rw [e] at h3
  cases h3
  exact ⟨_, List.getElem?_eq_getElem h2, h4⟩
theorem DRs.append : ∀ {ds es : List D} {vs ws : List V}, DRs K N H vs ds → DRs K N H ws es → DRs K N H (vs ++ ws) (ds ++ es)
  | [], _, _, _, .nil, q => q
  | _ :: _, _, _, _, .cons a b, q => .cons a (DRs.append b q)
theorem DRs.take : ∀ {ds : List D} {vs : List V} (n : Nat), DRs K N H vs ds → DRs K N H (vs.take n) (ds.take n)
  | _, _, 0, _ => .nil
  | [], _, _ + 1, .nil => .nil
  | _ :: _, _, n + 1, .cons a b => .cons a (DRs.take n b)
theorem DRs.drop : ∀ {ds : List D} {vs : List V} (n : Nat), DRs K N H vs ds → DRs K N H (vs.drop n) (ds.drop n)
  | _, _, 0, q => q
  | [], _, _ + 1, .nil => .nil
  | _ :: _, _, n + 1, .cons _ b => DRs.drop n b
theorem DRs.reverse : ∀ {ds : List D} {vs : List V}, DRs K N H vs ds → DRs K N H vs.reverse ds.reverse
  | [], _, .nil => .nil
  | _ :: _, _, .cons a b => by
    rw [List.reverse_cons, List.reverse_cons]
    exact DRs.append (DRs.reverse b) (.cons a .nil)
theorem DRs.set : ∀ {ds : List D} {vs : List V} {v : V} {d : D} (n : Nat), DRs K N H vs ds → DR K N H v d → DRs K N H (vs.set n v) (ds.set n d)
  | [], _, _, _, _, .nil, _ => .nil
  | _ :: _, _, _, _, 0, .cons _ b, q => .cons q b
  | _ :: _, _, _, _, n + 1, .cons a b, q => .cons a (DRs.set n b q)
theorem DRs.rep : ∀ {ds : List D} {vs : List V} (k : Nat), DRs K N H vs ds → DRs K N H (List.replicate k vs).flatten (List.replicate k ds).flatten
  | _, _, 0, _ => .nil
  | _, _, k + 1, q => by
    rw [List.replicate_succ, List.replicate_succ, List.flatten_cons, List.flatten_cons]
    exact q.append (DRs.rep k q)
theorem DR.none_inv {v : V} (q : DR K N H v .none) : v = .non := by cases q; rfl
theorem DR.bool_inv {v : V} {b : Bool} (q : DR K N H v (.bool b)) : v = .bl b := by cases q; rfl
theorem DR.int_inv {v : V} {i : Int} (q : DR K N H v (.int i)) : v = .int i := by cases q; rfl
theorem DR.str_inv {v : V} {x : Str} (q : DR K N H v (.str x)) : v = .str x := by cases q; rfl
theorem DR.list_inv {v : V} {ds : List D} (q : DR K N H v (.list ds)) : ∃ a xs, v = .ref a ∧ LsR N H a xs ∧ DRs K N H xs ds := by cases q; exact ⟨_, _, rfl, ‹_›, ‹_›⟩
theorem DR.tuple_inv {v : V} {ds : List D} (q : DR K N H v (.tuple ds)) : ∃ a xs, v = .ref a ∧ TpR K N H a xs ∧ DRs K N H xs ds := by cases q; exact ⟨_, _, rfl, ‹_›, ‹_›⟩
theorem DR.dict_inv {v : V} {ds} (q : DR K N H v (.dict ds)) : False := by cases q
end

/-- v is read as d; a list at the top may be one that still changes -/
inductive TR (K : Fg) (N : AS) (H : Hp) : V → D → Prop
  | d {v : V} {d : D} : DR K N H v d → TR K N H v d
  | l {a : Addr} {xs : List V} {ds : List D} : H a = some (.lst xs) → DRs K N H xs ds → TR K N H (.ref a) (.list ds)
section
variable {K : Fg} {N N' m : AS} {H H' : Hp}
theorem TR.list {v : V} {ds : List D} (q : TR K N H v (.list ds)) : ∃ a xs, v = .ref a ∧ H a = some (.lst xs) ∧ DRs K N H xs ds := by
  cases q with
  | d q => obtain ⟨a, xs, e, h1, h2⟩ := q.list_inv; exact ⟨a, xs, e, h1.2, h2⟩
  | l h1 h2 => exact ⟨_, _, rfl, h1, h2⟩
theorem TR.tuple {v : V} {ds : List D} (q : TR K N H v (.tuple ds)) : ∃ a xs, v = .ref a ∧ SqT K H a xs ∧ DRs K N H xs ds := by
  cases q with
  | d q => obtain ⟨a, xs, e, h1, h2⟩ := q.tuple_inv; exact ⟨a, xs, e, h1.sq, h2⟩
theorem TR.tupD {v : V} {ds : List D} (q : TR K N H v (.tuple ds)) : DR K N H v (.tuple ds) := by cases q; assumption
theorem TR.int {v : V} {i : Int} (q : TR K N H v (.int i)) : v = .int i := by cases q with | d q => exact q.int_inv
theorem TR.bool {v : V} {i : Bool} (q : TR K N H v (.bool i)) : v = .bl i := by cases q with | d q => exact q.bool_inv
theorem TR.str {v : V} {i : Str} (q : TR K N H v (.str i)) : v = .str i := by cases q with | d q => exact q.str_inv
theorem TR.none {v : V} (q : TR K N H v .none) : v = .non := by cases q with | d q => exact q.none_inv
theorem TR.dict {v : V} {ds} (q : TR K N H v (.dict ds)) : False := by cases q with | d q => exact q.dict_inv
theorem TR.dp {v : V} {d : D} (q : TR K N H v d) : Dp K H v d := by
  cases q with
  | d q => exact q.dp
  | l h1 h2 => exact .lst (.of h1) h2.dp
theorem TR.mono (h : ∀ a, N' a → N a) {v : V} {d : D} (q : TR K N H v d) : TR K N' H v d := by
  cases q with
  | d q => exact .d (q.mono h)
  | l h1 h2 => exact .l h1 (h2.mono h)
theorem TR.ext (e : Ext m H H') (h : ∀ a, m a → N a) {v : V} {d : D} (ht : ∀ a xs, v = .ref a → H a = some (.lst xs) → ¬ m a ∨ DR K N H v d) (q : TR K N H v d) : TR K N H' v d := by
  cases q with
  | d q => exact .d (q.ext e h)
  | l h1 h2 =>
    rcases ht _ _ rfl h1 with z | z
    · exact .l (e.k _ _ h1 z fun _ => nofun) (h2.ext e h)
    · exact .d (z.ext e h)
end
end DL
end
section
set_option Elab.async false
set_option linter.all false
set_option maxRecDepth 100000
set_option autoImplicit false
set_option maxHeartbeats 1000000
/-! DL, part b: the state of a frame: names hold data, or lists of their own that still change; one list (the pen) is shared by all frames. -/
namespace DL
open PySem PySem.Spec PyProof.Rows L2

variable [Tabs]
/-- the script: a list of ints that is never written -/
def ScR (K : Fg) (m : AS) (H : Hp) (a : Addr) (ns : List Int) : Prop :=
  (¬ m a ∧ ∃ ob, H a = some (.frz ob (.lst (ns.map V.int)))) ∨
  ∃ (o : Obj) (its : Array Value) (n : Nat), K.lookup a = some o ∧ o.cls = .type "list" ∧ o.dict = none ∧
    o.data = .seq its n ∧ its.size ≤ sizeLine ∧ Vals (ns.map V.int) its.toList
theorem ScR.ext {K : Fg} {m : AS} {H H' : Hp} {a : Addr} {ns : List Int} (e : Ext m H H') (q : ScR K m H a ns) : ScR K m H' a ns :=
  q.imp (fun ⟨h1, ob, h2⟩ => ⟨h1, ob, e.k _ _ h2 h1 fun _ => nofun⟩) id
theorem ScR.sq {K : Fg} {m : AS} {H : Hp} {a : Addr} {ns : List Int} (q : ScR K m H a ns) : SqL K H a (ns.map V.int) :=
  q.imp (fun ⟨_, ob, h2⟩ => .inr ⟨ob, h2⟩) id
def TabsIn (H : Hp) : Prop := ∀ q, q ∈ Tabs.l → TabOk H q.2
/-- what a made function has of its maker: data, or made functions -/
inductive Cv where
  | d (x : D)
  | fn (k : Nat) (cs : List Cv)
/-- what a name holds -/
inductive Sv where
  | d (x : D)
  | own (xs : List D)
  | scr (ns : List Int)
  | pen
  | fn (k : Nat) (cs : List Cv)
  | ofn (k : Nat) (js : List Nat)
  | dic (t : Bool) (kvs : List (D × D))
/-- what an expression gives: a datum; a new list that nobody else holds; the own list of the i-th name; the pen; a made function; a new dict; a name's own dict -/
inductive R where
  | d (x : D)
  | fr (xs : List D)
  | bo (i : Nat) (xs : List D)
  | scr (ns : List Int)
  | pen
  | fn (k : Nat) (cs : List Cv)
  | nfn (k : Nat) (cs : List Cv)
  | fd (t : Bool) (kvs : List (D × D))
  | bd (i : Nat) (t : Bool) (kvs : List (D × D))
structure G where
  env : List (Option Sv)
  pen : Option (List D)

def pm (pa : Addr) (p : Option (List D)) : AS := fun a => p.isSome = true ∧ a = pa
/-- a list or a dict of its own -/
def ownB : Sv → Bool
  | .own _ => true
  | .dic _ _ => true
  | _ => false
def Own (σ : L2.St) (g : G) (i : Nat) (a : Addr) : Prop := ∃ sv, g.env[i]? = some (some sv) ∧ ownB sv = true ∧ σ[i]? = some (some (V.ref a))
theorem own_l {σ : L2.St} {g : G} {i : Nat} {a : Addr} {xs : List D} (h : g.env[i]? = some (some (.own xs))) (q : σ[i]? = some (some (V.ref a))) : Own σ g i a := ⟨_, h, rfl, q⟩
theorem own_d {σ : L2.St} {g : G} {i : Nat} {a : Addr} {t : Bool} {xs : List (D × D)} (h : g.env[i]? = some (some (.dic t xs))) (q : σ[i]? = some (some (V.ref a))) : Own σ g i a := ⟨_, h, rfl, q⟩
/-- the addresses that may still change: those that are told (T), the pen, the names' own lists -/
def Nv (pa : Addr) (T : AS) (σ : L2.St) (g : G) : AS := fun a => T a ∨ pm pa g.pen a ∨ ∃ i, Own σ g i a

/-! ### made functions -/
/-- the frame: its cells, its names, the program, the world; where its own functions may stand; whether this is its own block -/
structure Fm where
  cl : List (Str × Addr)
  N : List Str
  P : Program
  w : World
  fs : List Nat
  on : Bool
  sc : Scope
/-- a name that is a cell -/
def Fm.vc (F : Fm) (y : Str) : Prop := F.sc.names.lookup y = some .cell ∨ F.sc.names.lookup y = some .free
def CodeT.fd (C : CodeT) (cl : List (Str × Addr)) (c : Addr) (doc pm ctv : Value) : FuncData :=
  { name := C.name, qualname := C.qual, params := C.params, body := C.body, scope := C.scope, globals := mainGlobals, closure := cl, defaults := .none, kwdefaults := .none, doc := doc, pyModule := pm, annotations := none, code := .ref c, closureTuple := ctv, builtins := builtinsNs }
/-- the object at f is the function of this code, with these cells -/
def FnV (f : Addr) (C : CodeT) (cl : List (Str × Addr)) (c : Addr) : HO := .ext fun h => ∃ (od : Option Addr) (sl : Array (Option Value)) (doc pm ctv : Value), h.get? f = some (⟨.type "function", od, .func (C.fd cl c doc pm ctv), sl⟩ : Obj)
/-- the object at a is just o -/
def CellO (a : Addr) (o : Obj) : HO := .ext fun h => h.get? a = some o
def isCl (cl : List (Str × Addr)) (b : Addr) : Prop := ∃ y, cl.lookup y = some b
section
variable (K : Fg) (N : AS) (H : Hp)
mutual
/-- the value v stands for what was captured, or for the made function; Cr says what a cell holds -/
inductive CvR : (Addr → V → Prop) → V → Cv → Prop
  | d {Cr : Addr → V → Prop} {v : V} {x : D} : DR K N H v x → CvR Cr v (.d x)
  | fn {Cr : Addr → V → Prop} {f c : Addr} {k : Nat} {C : CodeT} {cl : List (Str × Addr)} {ws : List V} {cs : List Cv} : Tabs.chk k C → ¬ N f → H f = some (FnV f C cl c) → ¬ N c → H c = some (LamX.CodeO c C.qual) →
      (∀ x y a, cl.lookup x = some a → cl.lookup y = some a → x = y) → (∀ y a, cl.lookup y = some a → y ∈ C.fr) →
      (∀ (i : Nat) (y : Str), C.fr[i]? = some y → ∃ (a : Addr) (w : V), cl.lookup y = some a ∧ ws[i]? = some w ∧ Cr a w) → CvRs (fun a w => Cr a w ∧ ¬ isCl cl a) ws cs → CvR Cr (.ref f) (.fn k cs)
inductive CvRs : (Addr → V → Prop) → List V → List Cv → Prop
  | nil {Cr : Addr → V → Prop} : CvRs Cr [] []
  | cons {Cr : Addr → V → Prop} {v : V} {vs : List V} {c : Cv} {cs : List Cv} : CvR Cr v c → CvRs Cr vs cs → CvRs Cr (v :: vs) (c :: cs)
end
end
section
variable {K : Fg} {N N' m : AS} {H H' : Hp} {Cr Cr' : Addr → V → Prop}
mutual
theorem CvR.trans {Cr Cr' : Addr → V → Prop} (hd : ∀ v d, DR K N H v d → DR K N' H' v d) (hx : ∀ a φ, ¬ N a → H a = some (.ext φ) → ¬ N' a ∧ H' a = some (.ext φ)) (hc : ∀ a w, Cr a w → Cr' a w) : ∀ {c : Cv} {v : V}, CvR K N H Cr v c → CvR K N' H' Cr' v c
  | _, _, .d q => .d (hd _ _ q)
  | _, _, .fn h1 h2 h3 h4 h5 h6 h7 h8 h9 =>
    .fn h1 (hx _ _ h2 h3).1 (hx _ _ h2 h3).2 (hx _ _ h4 h5).1 (hx _ _ h4 h5).2 h6 h7 (fun i y e => let ⟨a, w, e1, e2, e3⟩ := h8 i y e; ⟨a, w, e1, e2, hc _ _ e3⟩) (CvRs.trans hd hx (fun a w z => ⟨hc a w z.1, z.2⟩) h9)
theorem CvRs.trans {Cr Cr' : Addr → V → Prop} (hd : ∀ v d, DR K N H v d → DR K N' H' v d) (hx : ∀ a φ, ¬ N a → H a = some (.ext φ) → ¬ N' a ∧ H' a = some (.ext φ)) (hc : ∀ a w, Cr a w → Cr' a w) : ∀ {c : List Cv} {v : List V}, CvRs K N H Cr v c → CvRs K N' H' Cr' v c
  | _, _, .nil => .nil
  | _, _, .cons a b => .cons (CvR.trans hd hx hc a) (CvRs.trans hd hx hc b)
end
mutual
theorem CvR.mv2 {Cr Cr' : Addr → V → Prop} (hd : ∀ v d, DR K N H v d → DR K N H' v d) (hf : ∀ (f : Addr) (C : CodeT) (cl : List (Str × Addr)) (c : Addr), H f = some (FnV f C cl c) → H' f = some (FnV f C cl c)) (hq : ∀ (c : Addr) (q : Str), H c = some (LamX.CodeO c q) → H' c = some (LamX.CodeO c q)) (hc : ∀ a w, Cr a w → Cr' a w) : ∀ {c : Cv} {v : V}, CvR K N H Cr v c → CvR K N H' Cr' v c
  | _, _, .d q => .d (hd _ _ q)
  | _, _, .fn h1 h2 h3 h4 h5 h6 h7 h8 h9 =>
    .fn h1 h2 (hf _ _ _ _ h3) h4 (hq _ _ h5) h6 h7 (fun i y e => let ⟨a, w, e1, e2, e3⟩ := h8 i y e; ⟨a, w, e1, e2, hc _ _ e3⟩) (CvRs.mv2 hd hf hq (fun a w z => ⟨hc a w z.1, z.2⟩) h9)
theorem CvRs.mv2 {Cr Cr' : Addr → V → Prop} (hd : ∀ v d, DR K N H v d → DR K N H' v d) (hf : ∀ (f : Addr) (C : CodeT) (cl : List (Str × Addr)) (c : Addr), H f = some (FnV f C cl c) → H' f = some (FnV f C cl c)) (hq : ∀ (c : Addr) (q : Str), H c = some (LamX.CodeO c q) → H' c = some (LamX.CodeO c q)) (hc : ∀ a w, Cr a w → Cr' a w) : ∀ {c : List Cv} {v : List V}, CvRs K N H Cr v c → CvRs K N H' Cr' v c
  | _, _, .nil => .nil
  | _, _, .cons a b => .cons (CvR.mv2 hd hf hq hc a) (CvRs.mv2 hd hf hq hc b)
end
/-- a cell that is tracked -/
def crH (N : AS) (H : Hp) (a : Addr) (w : V) : Prop := ¬ N a ∧ ∃ (o : Obj) (u : Value), H a = some (CellO a o) ∧ o.data = .cell (some u) ∧ RelV w u
/-- a cell: tracked, or one of the frame's own, of a name that has its value -/
def crV (F : Fm) (N : AS) (σ : L2.St) (H : Hp) (a : Addr) (w : V) : Prop := crH N H a w ∨ (F.on = true ∧ ∃ (y : Str) (j : Nat), F.cl.lookup y = some a ∧ F.N[j]? = some y ∧ σ[j]? = some (some w) ∧ F.vc y)
/-- one of the frame's own cells -/
def crO (F : Fm) (σ : L2.St) (a : Addr) (w : V) : Prop := F.on = true ∧ ∃ (y : Str) (j : Nat), F.cl.lookup y = some a ∧ F.N[j]? = some y ∧ σ[j]? = some (some w) ∧ F.vc y
theorem CvR.mono (h : ∀ a, N' a → N a) (hc : ∀ a w, Cr a w → Cr' a w) {v : V} {c : Cv} (q : CvR K N H Cr v c) : CvR K N' H Cr' v c := q.trans (fun _ _ q => q.mono h) (fun a φ n e => ⟨fun z => n (h a z), e⟩) hc
theorem CvR.ext (e : Ext m H H') (h : ∀ a, m a → N a) (hc : ∀ a w, Cr a w → Cr' a w) {v : V} {c : Cv} (q : CvR K N H Cr v c) : CvR K N H' Cr' v c :=
  q.trans (fun _ _ q => q.ext e h) (fun a φ n z => ⟨n, e.k _ _ z (fun y => n (h a y)) (fun _ => nofun)⟩) hc
theorem crH.mono (h : ∀ a, N' a → N a) {a : Addr} {w : V} (q : crH N H a w) : crH N' H a w := ⟨fun z => q.1 (h a z), q.2⟩
theorem crH.ext (e : Ext m H H') (h : ∀ a, m a → N a) {a : Addr} {w : V} (q : crH N H a w) : crH N H' a w := by
  obtain ⟨n, o, u, h1, h2, h3⟩ := q
  exact ⟨n, o, u, e.k _ _ h1 (fun y => n (h a y)) (fun _ => nofun), h2, h3⟩
theorem crV.mono {F : Fm} {σ : L2.St} (h : ∀ a, N' a → N a) {a : Addr} {w : V} (q : crV F N σ H a w) : crV F N' σ H a w := q.imp (crH.mono h) id
theorem crV.ext {F : Fm} {σ : L2.St} (e : Ext m H H') (h : ∀ a, m a → N a) {a : Addr} {w : V} (q : crV F N σ H a w) : crV F N σ H' a w := q.imp (crH.ext e h) id
/-- a function that was made in this frame, of the names at js -/
def OFn (F : Fm) (N : AS) (H : Hp) (v : V) (k : Nat) (js : List Nat) : Prop := ∃ (f c : Addr) (C : CodeT) (cl : List (Str × Addr)), v = .ref f ∧ Tabs.chk k C ∧ ¬ N f ∧ H f = some (FnV f C cl c) ∧ ¬ N c ∧ H c = some (LamX.CodeO c C.qual) ∧
  (∀ x y a, cl.lookup x = some a → cl.lookup y = some a → x = y) ∧ (∀ y a, cl.lookup y = some a → y ∈ C.fr) ∧ C.fr.length = js.length ∧
  ∀ (i : Nat) (y : Str), C.fr[i]? = some y → ∃ (j : Nat) (a : Addr), js[i]? = some j ∧ F.N[j]? = some y ∧ F.cl.lookup y = some a ∧ cl.lookup y = some a ∧ F.vc y
theorem OFn.trans {F : Fm} {v : V} {k : Nat} {js : List Nat} (hx : ∀ a φ, ¬ N a → H a = some (.ext φ) → ¬ N' a ∧ H' a = some (.ext φ)) (q : OFn F N H v k js) : OFn F N' H' v k js := by
  obtain ⟨f, c, C, cl, e, h1, h2, h3, h4, h5, r⟩ := q
  exact ⟨f, c, C, cl, e, h1, (hx _ _ h2 h3).1, (hx _ _ h2 h3).2, (hx _ _ h4 h5).1, (hx _ _ h4 h5).2, r⟩
end
/-! ### dicts -/
mutual
/-- what a key is -/
def nkD : D → Option NestedKey
  | .none => some .none
  | .bool b => some (.num (if b then 1 else 0))
  | .int i => some (.num i)
  | .str x => some (.text x)
  | .tuple ds => (nkDs ds).map .tup
  | .list _ => none
  | .dict _ => none
def nkDs : List D → Option (List NestedKey)
  | [] => some []
  | d :: ds => match nkD d, nkDs ds with
    | some k, some ks => some (k :: ks)
    | _, _ => none
end
structure Ent where
  k : NestedKey
  kv : V
  v : V
def leafK : NestedKey → Prop
  | .tup _ => False
  | _ => True
/-- a dict's object, and what its entries stand for -/
structure DE where
  o : Obj
  es : List Ent
/-- the entries of a dict, tuples (t) or none of them tuples, in the object at a -/
def DicO (P : Program) (w : World) (t : Bool) (a : Addr) (q : DE) : HO := .ext fun h => h.get? a = some q.o ∧ (a == sysModules) = false ∧ q.es.length ≤ sizeLine ∧ (q.es.map (·.k)).Nodup ∧
  if t = true then ∃ xs : List (NestedKey × Addr × Value), Paired (fun (e : Ent) (x : NestedKey × Addr × Value) => e.k = x.1 ∧ e.kv = .ref x.2.1 ∧ RelV e.v x.2.2) q.es xs ∧
      ∃ (eps : Array DictEntry) (ep : Nat), q.o.ExactDict ∧ q.o.data = .dict eps ep ∧ eps.toList = xs.map (entryOfKey (nestedKind P w))
  else False
theorem dic_ne_code (P : Program) (w : World) (t : Bool) (a : Addr) (es : DE) (q : Str) : DicO P w t a es ≠ LamX.CodeO a q := fun h => by
  unfold DicO LamX.CodeO at h
  have e := HO.ext.inj h
  let X : Obj := { cls := .none, data := .fields #[.none, .str q 0] }
  have hg : (⟨Array.replicate (a + 1) X, {}⟩ : Heap).get? a = some X := by
    unfold Heap.get?
    simp only [Array.getElem?_replicate]
    rw [if_pos (Nat.lt_succ_self a)]
  have z := (congrFun e (⟨Array.replicate (a + 1) X, {}⟩ : Heap)).mpr ⟨X, _, 0, hg, rfl, rfl⟩
  obtain ⟨h1, _, _, _, z⟩ := z
  cases t with
  | false => exact z
  | true =>
    obtain ⟨xs, _, eps, ep, _, h2, _⟩ := (if_pos (rfl : true = true) ▸ z : _)
    rw [hg] at h1
    have h1' := Option.some.inj h1
    rw [← h1'] at h2
    cases h2
/-- neither a table nor a code object -/
def TOk (a : Addr) (o : HO) : Prop := (∀ ps, o ≠ .tbl ps) ∧ ∀ q, o ≠ LamX.CodeO a q
theorem tok_lst (a : Addr) (xs : List V) : TOk a (.lst xs) := ⟨fun _ => nofun, fun q h => by unfold LamX.CodeO at h; cases h⟩
theorem tok_dic (P : Program) (w : World) (t : Bool) (a : Addr) (es : DE) : TOk a (DicO P w t a es) := ⟨fun _ => nofun, fun q h => dic_ne_code P w t a es q h⟩
theorem TabOk.of2 {H H' : Hp} {b : Addr} (q : TabOk H b) (hb : H' b = H b) (k : ∀ c q, H c = some (LamX.CodeO c q) → H' c = some (LamX.CodeO c q)) : TabOk H' b := by
  obtain ⟨⟨ps, e, t⟩, n⟩ := q
  refine ⟨⟨ps, hb.trans e, t⟩, fun w => ?_⟩
  obtain ⟨ps', h1, h2, h3⟩ := n w
  refine ⟨ps', hb.trans h1, h2, fun pos cv hc => ?_⟩
  obtain ⟨c, e1, e2⟩ := h3 pos cv hc
  exact ⟨c, e1, k c _ e2⟩
theorem tab_updX {H : Hp} {p : Addr} {o u : HO} (e : H p = some u) (t : TOk p u) (b : Addr) (q : TabOk H b) : TabOk (upd H p o) b := by
  have nb : b ≠ p := fun z => by
    obtain ⟨ps, e', _⟩ := q.1
    rw [z, e] at e'
    exact t.1 ps (Option.some.inj e')
  refine q.of2 (upd_ne nb) fun c q e2 => (upd_ne fun z : c = p => ?_).trans e2
  subst z
  rw [e] at e2
  exact t.2 q (Option.some.inj e2)
theorem Ext.putX {m : AS} {H : Hp} {p : Addr} {o u : HO} (h : m p) (e : H p = some u) (t : TOk p u) : Ext m H (upd H p o) :=
  ⟨fun b u' e' n _ => (upd_ne (fun z : b = p => n (z ▸ h))).trans e', tab_updX e t, upd_no⟩
theorem Ext.skipX {m : AS} {H H1 : Hp} {q : Addr} {o u : HO} (e : Ext m H H1) (h : H q = none) (h1 : H1 q = some u) (t : TOk q u) : Ext m H (upd H1 q o) :=
  ⟨fun b u q1 q2 q3 => (upd_ne (fun z : b = q => by rw [z, h] at q1; cases q1)).trans (e.k b u q1 q2 q3), fun b z => tab_updX h1 t b (e.t b z), fun b z => e.d b (upd_no b z)⟩
/-- the entries stand for these pairs -/
inductive Ents (K : Fg) (N : AS) (H : Hp) : List Ent → List (D × D) → Prop
  | nil : Ents K N H [] []
  | cons {e : Ent} {es : List Ent} {kd vd : D} {kvs : List (D × D)} : (nkD kd = some e.k ∧ e.k.depth ≤ 8) → DR K N H e.kv kd → DR K N H e.v vd → Ents K N H es kvs → Ents K N H (e :: es) ((kd, vd) :: kvs)
theorem Ents.trans {K : Fg} {N N' : AS} {H H' : Hp} (hd : ∀ v d, DR K N H v d → DR K N' H' v d) : ∀ {es : List Ent} {kvs : List (D × D)}, Ents K N H es kvs → Ents K N' H' es kvs
  | _, _, .nil => .nil
  | _, _, .cons a b c d => .cons a (hd _ _ b) (hd _ _ c) (Ents.trans hd d)
def EntR (K : Fg) (N : AS) (H : Hp) (q : DE) (kvs : List (D × D)) : Prop := Ents K N H q.es kvs
theorem EntR.trans {K : Fg} {N N' : AS} {H H' : Hp} (hd : ∀ v d, DR K N H v d → DR K N' H' v d) {es : DE} {kvs : List (D × D)} (q : EntR K N H es kvs) : EntR K N' H' es kvs := Ents.trans hd q
theorem EntR.mono {K : Fg} {N N' : AS} {H : Hp} (h : ∀ a, N' a → N a) {es : DE} {kvs : List (D × D)} (q : EntR K N H es kvs) : EntR K N' H es kvs := q.trans fun _ _ z => z.mono h
theorem EntR.ext {K : Fg} {N m : AS} {H H' : Hp} (e : Ext m H H') (h : ∀ a, m a → N a) {es : DE} {kvs : List (D × D)} (q : EntR K N H es kvs) : EntR K N H' es kvs := q.trans fun _ _ z => z.ext e h
theorem EntR.grow {K : Fg} {N : AS} {H : Hp} {p : Addr} (hp : H p = none) {es : DE} {kvs : List (D × D)} (q : EntR K N H es kvs) : EntR K (fun a => N a ∨ a = p) H es kvs := q.trans fun _ _ z => z.grow hp

def SvR (F : Fm) (K : Fg) (pa : Addr) (T N : AS) (H0 H : Hp) (pen : Option (List D)) (v : V) : Sv → Prop
  | .d x => DR K N H v x
  | .own xs => ∃ a vs, v = .ref a ∧ H a = some (.lst vs) ∧ DRs K N H vs xs ∧ H0 a = none ∧ ¬ T a ∧ ¬ pm pa pen a
  | .scr ns => ∃ a, v = .ref a ∧ ScR K (pm pa pen) H a ns
  | .pen => v = .ref pa ∧ pen.isSome = true
  | .fn k cs => CvR K N H (crH N H) v (.fn k cs)
  | .ofn k js => OFn F N H v k js
  | .dic t kvs => ∃ a es, v = .ref a ∧ H a = some (DicO F.P F.w t a es) ∧ EntR K N H es kvs ∧ H0 a = none ∧ ¬ T a ∧ ¬ pm pa pen a
theorem crH.mv {N N' : AS} {H H' : Hp} (hx : ∀ a φ, ¬ N a → H a = some (.ext φ) → ¬ N' a ∧ H' a = some (.ext φ)) (a : Addr) (w : V) (q : crH N H a w) : crH N' H' a w := by
  obtain ⟨n, o, u, h1, h2, h3⟩ := q
  exact ⟨(hx _ _ n h1).1, o, u, (hx _ _ n h1).2, h2, h3⟩
theorem SvR.mv {F : Fm} {K : Fg} {pa : Addr} {T T' N N' : AS} {H0 H H' : Hp} {pen pen' : Option (List D)} {v : V} {sv : Sv} (q : SvR F K pa T N H0 H pen v sv)
    (hd : ∀ v d, DR K N H v d → DR K N' H' v d) (hds : ∀ v d, DRs K N H v d → DRs K N' H' v d) (k : ∀ a o, H a = some o → ¬ pm pa pen a → (∀ ps, o ≠ .tbl ps) → H' a = some o)
    (hx : ∀ a φ, ¬ N a → H a = some (.ext φ) → ¬ N' a ∧ H' a = some (.ext φ)) (hT : ∀ a o, H a = some o → ¬ T a → ¬ T' a) (hp : pm pa pen' = pm pa pen) (hps : pen'.isSome = pen.isSome) (hs : ∀ a ns, ScR K (pm pa pen) H a ns → ScR K (pm pa pen) H' a ns) :
    SvR F K pa T' N' H0 H' pen' v sv := by
  cases sv with
  | d x => exact hd _ _ q
  | own xs => obtain ⟨a, vs, e2, e3, e4, e5, e6, e7⟩ := q; exact ⟨a, vs, e2, k _ _ e3 e7 (fun _ => nofun), hds _ _ e4, e5, hT _ _ e3 e6, by rw [hp]; exact e7⟩
  | scr ns => obtain ⟨a, h1, h2⟩ := q; exact ⟨a, h1, by rw [hp]; exact hs _ _ h2⟩
  | pen => exact ⟨q.1, by rw [hps]; exact q.2⟩
  | fn n cs => exact CvR.trans hd hx (crH.mv hx) q
  | ofn n js => exact OFn.trans hx q
  | dic t kvs => obtain ⟨a, es, e2, e3, e4, e5, e6, e7⟩ := q; exact ⟨a, es, e2, k _ _ e3 e7 (fun _ => nofun), e4.trans hd, e5, hT _ _ e3 e6, by rw [hp]; exact e7⟩
theorem SvR.go {F : Fm} {K : Fg} {pa : Addr} {T T' N N' : AS} {H0 H H' : Hp} {pen pen' : Option (List D)} {v : V} {sv : Sv} (q : SvR F K pa T N H0 H pen v sv)
    (e : Ext (pm pa pen) H H') (hm : ∀ a, pm pa pen a → N a) (hN : ∀ a, N' a → N a) (hT : ∀ a, T' a → T a) (hps : pen'.isSome = pen.isSome) : SvR F K pa T' N' H0 H' pen' v sv :=
  q.mv (fun _ _ z => (z.ext e hm).mono hN) (fun _ _ z => (z.ext e hm).mono hN) (fun a o h n t => e.k a o h n t) (fun a φ n z => ⟨fun y => n (hN a y), e.k _ _ z (fun y => n (hm a y)) (fun _ => nofun)⟩)
    (fun a _ _ n z => n (hT a z)) (by unfold pm; rw [hps]) hps fun _ _ z => z.ext e
structure Rel (F : Fm) (K : Fg) (pa : Addr) (T : AS) (H0 : Hp) (σ : L2.St) (H : Hp) (g : G) : Prop where
  len : σ.length = g.env.length
  sl : ∀ (i : Nat) (sv : Sv), g.env[i]? = some (some sv) → ∃ v, σ[i]? = some (some v) ∧ SvR F K pa T (Nv pa T σ g) H0 H g.pen v sv
  ap : ∀ (i j : Nat) (a : Addr), Own σ g i a → Own σ g j a → i = j
  pn : ∀ xs, g.pen = some xs → ¬ T pa ∧ ∃ vs, H pa = some (.lst vs) ∧ DRs K (Nv pa T σ g) H vs xs
  td : ∀ a, T a → ∃ o, H a = some o ∧ TOk a o
  x0 : Ext (pm pa g.pen) H0 H
  tb : TabsIn H0
  fo : ∀ i k js, g.env[i]? = some (some (.ofn k js)) → i ∈ F.fs
theorem Rel.tab {F : Fm} {K : Fg} {pa : Addr} {T : AS} {H0 : Hp} {σ : L2.St} {H : Hp} {g : G} (r : Rel F K pa T H0 σ H g) : TabsIn H := fun q h => r.x0.t _ (r.tb q h)

section
variable {F : Fm} {K : Fg} {pa : Addr} {T T' : AS} {H0 σH H H' : Hp} {σ : L2.St} {g g' : G}
theorem Rel.mono (r : Rel F K pa T H0 σ H g) (h : ∀ a, T' a → T a) : Rel F K pa T' H0 σ H g := by
  have hn : ∀ a, Nv pa T' σ g a → Nv pa T σ g a := fun a z => z.imp (h a) id
  refine ⟨r.len, fun i sv e => ?_, r.ap, fun xs e => ?_, fun a q => r.td a (h a q), r.x0, r.tb, r.fo⟩
  · obtain ⟨v, e1, q⟩ := r.sl i sv e
    exact ⟨v, e1, q.go (.refl _ _) (fun a z => .inr (.inl z)) hn h rfl⟩
  · obtain ⟨a, vs, b, c⟩ := r.pn xs e
    exact ⟨fun z => a (h pa z), vs, b, c.mono hn⟩
/-- every address that may still change holds something -/
theorem Rel.nv (r : Rel F K pa T H0 σ H g) (a : Addr) (h : Nv pa T σ g a) : ∃ o, H a = some o ∧ TOk a o := by
  rcases h with h | ⟨h, e⟩ | ⟨i, sv, e1, eo, e2⟩
  · exact r.td a h
  · obtain ⟨xs, e'⟩ := Option.isSome_iff_exists.mp h
    obtain ⟨_, vs, b, _⟩ := r.pn xs e'
    rw [e]
    exact ⟨_, b, tok_lst _ _⟩
  · obtain ⟨v, e3, q⟩ := r.sl i _ e1
    rw [e2] at e3
    cases e3
    cases sv with
    | own xs => obtain ⟨b, vs, e4, e5, _⟩ := q; cases e4; exact ⟨_, e5, tok_lst _ _⟩
    | dic t xs => obtain ⟨b, vs, e4, e5, _⟩ := q; cases e4; exact ⟨_, e5, tok_dic _ _ _ _ _⟩
    | _ => cases eo
theorem Rel.fresh (r : Rel F K pa T H0 σ H g) {p : Addr} (h : H p = none) : ¬ Nv pa T σ g p := fun z => by
  obtain ⟨o, e, _⟩ := r.nv p z
  rw [h] at e
  cases e
/-- the tracked heap has changed at nothing but the pen's own address, and that is told -/
theorem Rel.ext (r : Rel F K pa T H0 σ H g) (e : Ext (pm pa g.pen) H H') (hp : ∀ xs, g.pen = some xs → ∃ vs, H' pa = some (.lst vs) ∧ DRs K (Nv pa T σ g) H' vs xs) : Rel F K pa T H0 σ H' g := by
  have hm : ∀ a, pm pa g.pen a → Nv pa T σ g a := fun a z => .inr (.inl z)
  refine ⟨r.len, fun i sv q => ?_, r.ap, fun xs q => ⟨(r.pn xs q).1, hp xs q⟩, fun a q => ?_, r.x0.trans e, r.tb, r.fo⟩
  · obtain ⟨v, e1, z⟩ := r.sl i sv q
    exact ⟨v, e1, z.go e hm (fun _ z => z) (fun _ z => z) rfl⟩
  · obtain ⟨o, z, nt⟩ := r.td a q
    refine ⟨o, e.k a o z (fun hpm => ?_) nt.1, nt⟩
    obtain ⟨xs, e'⟩ := Option.isSome_iff_exists.mp hpm.1
    exact (r.pn xs e').1 (hpm.2 ▸ q)
end

/-! ### what an expression leaves -/
def ownT (T : AS) (v : V) : R → AS
  | .fr _ => fun a => T a ∨ v = .ref a
  | .fd _ _ => fun a => T a ∨ v = .ref a
  | _ => T
def VR (F : Fm) (K : Fg) (pa : Addr) (T : AS) (σ : L2.St) (H H' : Hp) (g' : G) (v : V) : R → Prop
  | .d x => DR K (Nv pa T σ g') H' v x
  | .fr xs => ∃ p vs, v = .ref p ∧ H p = none ∧ H' p = some (.lst vs) ∧ DRs K (fun a => Nv pa T σ g' a ∨ a = p) H' vs xs ∧ ¬ T p
  | .bo i xs => ∃ a, v = .ref a ∧ σ[i]? = some (some (.ref a)) ∧ g'.env[i]? = some (some (.own xs))
  | .scr ns => ∃ a, v = .ref a ∧ ScR K (pm pa g'.pen) H' a ns
  | .pen => v = .ref pa ∧ g'.pen.isSome = true
  | .fn k cs => CvR K (Nv pa T σ g') H' (crV F (Nv pa T σ g') σ H') v (.fn k cs)
  | .nfn k cs => CvR K (Nv pa T σ g') H' (crV F (Nv pa T σ g') σ H') v (.fn k cs) ∧ ((∀ c, c ∈ cs → ∃ d, c = .d d) → CvR K (Nv pa T σ g') H' (crO F σ) v (.fn k cs))
  | .fd t kvs => ∃ p es, v = .ref p ∧ H p = none ∧ H' p = some (DicO F.P F.w t p es) ∧ EntR K (fun a => Nv pa T σ g' a ∨ a = p) H' es kvs ∧ ¬ T p
  | .bd i t kvs => ∃ a, v = .ref a ∧ σ[i]? = some (some (.ref a)) ∧ g'.env[i]? = some (some (.dic t kvs))
structure PostE (F : Fm) (K : Fg) (pa : Addr) (T : AS) (H0 : Hp) (σ : L2.St) (H : Hp) (g : G) (v : V) (H' : Hp) (r : R) (g' : G) : Prop where
  ext : Ext (pm pa g.pen) H H'
  rel : Rel F K pa (ownT T v r) H0 σ H' g'
  vr : VR F K pa T σ H H' g' v r
  pen : g'.pen.isSome = g.pen.isSome
  sub : ∀ a, Nv pa T σ g' a → Nv pa T σ g a
/-- .. after the result is kept as a datum -/
structure PostK (F : Fm) (K : Fg) (pa : Addr) (T : AS) (H0 : Hp) (σ : L2.St) (H : Hp) (g : G) (v : V) (H' : Hp) (x : D) (g' : G) : Prop where
  ext : Ext (pm pa g.pen) H H'
  rel : Rel F K pa T H0 σ H' g'
  dr : DR K (Nv pa T σ g') H' v x
  pen : g'.pen.isSome = g.pen.isSome
  sub : ∀ a, Nv pa T σ g' a → Nv pa T σ g a

def keepR : R → G → Option (D × G)
  | .d x, g => some (x, g)
  | .fr xs, g => some (.list xs, g)
  | .bo i xs, g => some (.list xs, { g with env := g.env.set i (some (.d (.list xs))) })
  | _, _ => none
def rdR : R → Option D
  | .d x => some x
  | .fr xs => some (.list xs)
  | .bo _ xs => some (.list xs)
  | _ => none
theorem pm_eq {pa : Addr} {p q : Option (List D)} (h : p.isSome = q.isSome) : pm pa p = pm pa q := by
  unfold pm
  rw [h]
section
variable {F : Fm} {K : Fg} {pa : Addr} {T T' : AS} {H0 H H' H'' : Hp} {σ : L2.St} {g g' g'' : G} {v : V} {r : R} {x : D}
theorem ownT_of (T : AS) (v : V) (r : R) (a : Addr) (h : T a) : ownT T v r a := by
  cases r <;> first | exact .inl h | exact h
theorem Rel.own (r : Rel F K pa T H0 σ H g) {i : Nat} {xs : List D} (e : g.env[i]? = some (some (.own xs))) :
    ∃ a vs, σ[i]? = some (some (.ref a)) ∧ H a = some (.lst vs) ∧ DRs K (Nv pa T σ g) H vs xs ∧ H0 a = none ∧ ¬ T a ∧ ¬ pm pa g.pen a := by
  obtain ⟨v, e1, a, vs, rfl, h⟩ := r.sl i _ e
  exact ⟨a, vs, e1, h⟩
theorem Rel.dic (r : Rel F K pa T H0 σ H g) {i : Nat} {t : Bool} {kvs : List (D × D)} (e : g.env[i]? = some (some (.dic t kvs))) :
    ∃ a es, σ[i]? = some (some (.ref a)) ∧ H a = some (DicO F.P F.w t a es) ∧ EntR K (Nv pa T σ g) H es kvs ∧ H0 a = none ∧ ¬ T a ∧ ¬ pm pa g.pen a := by
  obtain ⟨v, e1, a, es, rfl, h⟩ := r.sl i _ e
  exact ⟨a, es, e1, h⟩
theorem Rel.ownA (r : Rel F K pa T H0 σ H g) {i : Nat} {a : Addr} (h : Own σ g i a) : (∃ o, H a = some o ∧ TOk a o) ∧ H0 a = none ∧ ¬ T a ∧ ¬ pm pa g.pen a := by
  obtain ⟨sv, e1, eo, e2⟩ := h
  obtain ⟨v, e3, q⟩ := r.sl i _ e1
  rw [e2] at e3
  cases e3
  cases sv with
  | own xs => obtain ⟨b, vs, e4, e5, _, e6⟩ := q; cases e4; exact ⟨⟨_, e5, tok_lst _ _⟩, e6⟩
  | dic t xs => obtain ⟨b, vs, e4, e5, _, e6⟩ := q; cases e4; exact ⟨⟨_, e5, tok_dic _ _ _ _ _⟩, e6⟩
  | _ => cases eo
/-- a name's own list is frozen -/
theorem Rel.freeze (r : Rel F K pa T H0 σ H g) {i : Nat} {xs : List D} (e : g.env[i]? = some (some (.own xs))) {a : Addr} (ea : σ[i]? = some (some (.ref a))) :
    Rel F K pa T H0 σ H { g with env := g.env.set i (some (.d (.list xs))) } ∧
    DR K (Nv pa T σ { g with env := g.env.set i (some (.d (.list xs))) }) H (.ref a) (.list xs) ∧
    (∀ b, Nv pa T σ { g with env := g.env.set i (some (.d (.list xs))) } b → Nv pa T σ g b) := by
  have hi : i < g.env.length := (List.getElem?_eq_some_iff.mp e).1
  have back : ∀ j b, Own σ { g with env := g.env.set i (some (.d (.list xs))) } j b → j ≠ i ∧ Own σ g j b := by
    rintro j b ⟨sv, h1, ho, h2⟩
    have h1' : (g.env.set i (some (.d (.list xs))))[j]? = some (some sv) := h1
    by_cases hj : i = j
    · subst hj
      rw [List.getElem?_set_self hi] at h1'
      cases h1'
      cases ho
    · rw [List.getElem?_set_ne hj] at h1'
      exact ⟨fun z => hj z.symm, sv, h1', ho, h2⟩
  have sub : ∀ b, Nv pa T σ { g with env := g.env.set i (some (.d (.list xs))) } b → Nv pa T σ g b := fun b h =>
    h.imp id fun h => h.imp id fun ⟨j, h⟩ => ⟨j, (back j b h).2⟩
  obtain ⟨a', vs, e1, e2, e3, e4, e5, e6⟩ := r.own e
  rw [ea] at e1
  cases e1
  have dr : DR K (Nv pa T σ { g with env := g.env.set i (some (.d (.list xs))) }) H (.ref a) (.list xs) := by
    refine .lst ⟨fun z => ?_, e2⟩ (e3.mono sub)
    rcases z with z | z | ⟨j, z⟩
    · exact e5 z
    · exact e6 z
    · obtain ⟨h1, h2⟩ := back j a z
      exact h1 (r.ap j i a h2 (own_l e ea))
  refine ⟨⟨by simpa using r.len, fun j sv h => ?_, fun j k b h1 h2 => r.ap j k b (back j b h1).2 (back k b h2).2, fun ys h => ?_, r.td, r.x0, r.tb, fun j k js h => ?_⟩, dr, sub⟩
  · have h' : (g.env.set i (some (.d (.list xs))))[j]? = some (some sv) := h
    by_cases hj : i = j
    · subst hj
      rw [List.getElem?_set_self hi] at h'
      cases h'
      exact ⟨_, ea, dr⟩
    · rw [List.getElem?_set_ne hj] at h'
      obtain ⟨v, h1, h2⟩ := r.sl j sv h'
      exact ⟨v, h1, h2.go (.refl _ _) (fun a z => .inr (.inl z)) sub (fun _ z => z) rfl⟩
  · obtain ⟨q1, vs, q2, q3⟩ := r.pn ys h
    exact ⟨q1, vs, q2, q3.mono sub⟩
  · have h' : (g.env.set i (some (.d (.list xs))))[j]? = some (some (.ofn k js)) := h
    by_cases hj : i = j
    · subst hj
      rw [List.getElem?_set_self hi] at h'
      cases h'
    · rw [List.getElem?_set_ne hj] at h'
      exact r.fo j k js h'
theorem Rel.not_nv (h : Rel F K pa (fun a => T a ∨ v = .ref a) H0 σ H' g') {p : Addr} (e : v = .ref p) (nt : ¬ T p) : ¬ Nv pa T σ g' p := by
  subst e
  rintro (z | z | ⟨j, z⟩)
  · exact nt z
  · obtain ⟨xs, e'⟩ := Option.isSome_iff_exists.mp z.1
    exact (h.pn xs e').1 (.inr (by rw [z.2]))
  · exact (h.ownA z).2.2.1 (.inr rfl)
theorem PostE.keep (p : PostE F K pa T H0 σ H g v H' r g') (h : keepR r g' = some (x, g'')) : PostK F K pa T H0 σ H g v H' x g'' := by
  cases r with
  | d y =>
    cases h
    exact ⟨p.ext, p.rel, p.vr, p.pen, p.sub⟩
  | fr xs =>
    cases h
    obtain ⟨q, vs, e1, e2, e3, e4, e5⟩ := p.vr
    refine ⟨p.ext, p.rel.mono fun a h => .inl h, ?_, p.pen, p.sub⟩
    have nn := Rel.not_nv p.rel e1 e5
    subst e1
    exact .lst ⟨nn, e3⟩ (e4.mono fun a z => .inl z)
  | bo i xs =>
    cases h
    obtain ⟨a, e1, e2, e3⟩ := p.vr
    obtain ⟨f1, f2, f3⟩ := p.rel.freeze e3 e2
    subst e1
    exact ⟨p.ext, f1, f2, p.pen, fun b z => p.sub b (f3 b z)⟩
  | _ => cases h
/-- what was read stays readable while nothing but the pen changes -/
theorem PostE.read (p : PostE F K pa T H0 σ H g v H' r g') (h : rdR r = some x) (e : Ext (pm pa g'.pen) H' H'') {N : AS} (hN : ∀ a, N a → Nv pa T σ g' a) : TR K N H'' v x := by
  have hm : ∀ a, pm pa g'.pen a → Nv pa T σ g' a := fun a z => .inr (.inl z)
  cases r with
  | d y =>
    cases h
    exact .d ((DR.ext e hm p.vr).mono hN)
  | fr xs =>
    cases h
    obtain ⟨q, vs, e1, e2, e3, e4, e5⟩ := p.vr
    have nn := Rel.not_nv p.rel e1 e5
    subst e1
    exact .l (e.k _ _ e3 (fun z => nn (hm _ z)) fun _ => nofun) ((DRs.ext e (fun a z => .inl (hm a z)) e4).mono fun a z => .inl (hN a z))
  | bo i xs =>
    cases h
    obtain ⟨a, e1, e2, e3⟩ := p.vr
    subst e1
    obtain ⟨a', vs, q1, q2, q3, q4, q5, q6⟩ := p.rel.own e3
    rw [e2] at q1
    cases q1
    exact .l (e.k _ _ q2 q6 fun _ => nofun) ((DRs.ext e hm q3).mono hN)
  | _ => cases h
theorem Nv.mono (h : ∀ a, T a → T' a) (a : Addr) (q : Nv pa T σ g a) : Nv pa T' σ g a := q.imp (h a) id
/-- a datum that is laid anew, the rest as it was -/
theorem Rel.lay (r : Rel F K pa T H0 σ H g) {p : Addr} {o : HO} (h : H p = none) : Rel F K pa T H0 σ (upd H p o) g :=
  r.ext (.new h) fun xs e => by
    obtain ⟨_, vs, q2, q3⟩ := r.pn xs e
    exact ⟨vs, (upd_ne (ne_of_none q2 h)).trans q2, DRs.ext (m := pm pa g.pen) (.new h) (fun a z => .inr (.inl z)) q3⟩
/-- .. and watched from now on -/
theorem Rel.watch (r : Rel F K pa T H0 σ H g) {p : Addr} {o : HO} (h : H p = none) (ho : TOk p o) : Rel F K pa (fun a => T a ∨ a = p) H0 σ (upd H p o) g := by
  have e : Ext (pm pa g.pen) H (upd H p o) := .new h
  have hm : ∀ a, pm pa g.pen a → Nv pa T σ g a := fun a z => .inr (.inl z)
  have hn : ∀ a, Nv pa (fun a => T a ∨ a = p) σ g a → Nv pa T σ g a ∨ a = p := by
    rintro a ((z | z) | z)
    · exact .inl (.inl z)
    · exact .inr z
    · exact .inl (.inr z)
  have up : ∀ {v d}, DR K (Nv pa T σ g) H v d → DR K (Nv pa (fun a => T a ∨ a = p) σ g) (upd H p o) v d := fun {v d} q =>
    (DR.ext (N := fun a => Nv pa T σ g a ∨ a = p) e (fun a z => .inl (hm a z)) (q.grow h)).mono hn
  have ups : ∀ {v d}, DRs K (Nv pa T σ g) H v d → DRs K (Nv pa (fun a => T a ∨ a = p) σ g) (upd H p o) v d := fun {v d} q =>
    (DRs.ext (N := fun a => Nv pa T σ g a ∨ a = p) e (fun a z => .inl (hm a z)) (q.grow h)).mono hn
  refine ⟨r.len, fun i sv q => ?_, r.ap, fun xs q => ?_, fun a q => ?_, r.x0.trans e, r.tb, r.fo⟩
  · obtain ⟨v, e1, z⟩ := r.sl i sv q
    have hx : ∀ a φ, ¬ Nv pa T σ g a → H a = some (.ext φ) → ¬ Nv pa (fun a => T a ∨ a = p) σ g a ∧ upd H p o a = some (.ext φ) := fun a φ n z =>
      ⟨fun y => (hn a y).elim n (ne_of_none z h), (upd_ne (ne_of_none z h)).trans z⟩
    exact ⟨v, e1, z.mv (fun _ _ => up) (fun _ _ => ups) (fun a u z _ _ => (upd_ne (ne_of_none z h)).trans z) hx (fun a u z n w => w.elim n (ne_of_none z h)) rfl rfl fun _ _ z => z.ext e⟩
  · obtain ⟨q1, vs, q2, q3⟩ := r.pn xs q
    exact ⟨fun w => w.elim q1 (ne_of_none q2 h), vs, (upd_ne (ne_of_none q2 h)).trans q2, ups q3⟩
  · rcases q with q | q
    · obtain ⟨u, z, nt⟩ := r.td a q
      exact ⟨u, (upd_ne (ne_of_none z h)).trans z, nt⟩
    · subst q
      exact ⟨o, upd_same, ho⟩
end
/-- a list made anew is the result -/
theorem PostE.newL {F : Fm} {K : Fg} {pa : Addr} {T : AS} {H0 H H1 : Hp} {σ : L2.St} {g g1 : G} {vs : List V} {ds : List D} {p : Addr}
    (ext : Ext (pm pa g.pen) H H1) (rel : Rel F K pa T H0 σ H1 g1) (pen : g1.pen.isSome = g.pen.isSome) (sub : ∀ a, Nv pa T σ g1 a → Nv pa T σ g a)
    (hp : H1 p = none) (dr : DRs K (Nv pa T σ g1) H1 vs ds) : PostE F K pa T H0 σ H g (.ref p) (upd H1 p (.lst vs)) (.fr ds) g1 := by
  refine ⟨ext.trans (.new hp), (rel.watch (o := .lst vs) hp (tok_lst _ _)).mono fun a z => z.imp id fun z => (V.ref.inj z).symm, ⟨p, vs, rfl, ext.d p hp, upd_same, DRs.ext (m := pm pa g1.pen) (.new hp) (fun a z => .inl (.inr (.inl z))) (dr.grow hp), fun z => rel.fresh hp (.inl z)⟩, pen, sub⟩
/-- a tuple made anew -/
theorem PostE.newT {F : Fm} {K : Fg} {pa : Addr} {T : AS} {H0 H H1 : Hp} {σ : L2.St} {g g1 : G} {vs : List V} {ds : List D} {p : Addr}
    (ext : Ext (pm pa g.pen) H H1) (rel : Rel F K pa T H0 σ H1 g1) (pen : g1.pen.isSome = g.pen.isSome) (sub : ∀ a, Nv pa T σ g1 a → Nv pa T σ g a)
    (hp : H1 p = none) (dr : DRs K (Nv pa T σ g1) H1 vs ds) : PostE F K pa T H0 σ H g (.ref p) (upd H1 p (.tup vs)) (.d (.tuple ds)) g1 :=
  ⟨ext.trans (.new hp), rel.lay hp, .tup (.inl ⟨rel.fresh hp, .of upd_same⟩) (DRs.ext (m := pm pa g1.pen) (.new hp) (fun a z => .inr (.inl z)) dr), pen, sub⟩
end DL
end
section
set_option Elab.async false
set_option linter.all false
set_option maxRecDepth 100000
set_option autoImplicit false
set_option maxHeartbeats 4000000
/-! DL, part c0: rules that were still to be written: a tuple turned round, a tuple taken any number of times. -/
namespace DL
open PySem PySem.Spec PyProof.Rows L2 HT
section
variable {prog : Program} {w : World} {A : Around} {E : Value → Shared → Prop} {s : Shared}
theorem places_back (n : Nat) : Builtin.Slice.slicePlaces ((n : Int) - 1) (-1) (-1) = n := by
  unfold Builtin.Slice.slicePlaces
  rw [if_neg (by omega)]
  by_cases h : (n : Int) - 1 > -1
  · rw [if_pos h]
    have e : ((n : Int) - 1 - -1 - 1) / (- -1) = (n : Int) - 1 := by
      have : (- -1 : Int) = 1 := by decide
      rw [this, Int.ediv_one]
      omega
    rw [e]
    omega
  · rw [if_neg h]
    have : n = 0 := by omega
    subst this
    rfl
theorem applied_back {sl : Addr} {vl vu vs : Value} {n : Nat} {Q : Int × Int × Nat → Shared → Prop} (hs : s.heap.IsSliceOf sl vl vu vs) (pl : IsPart vl none) (pu : IsPart vu none) (ps : IsPart vs (some (-1))) (h : Q ((n : Int) - 1, -1, n) s) :
    wpAny (model prog w) A (Builtin.Slice.sliceApplied (.ref sl) (pure (n : Int))) Q E s := by
  obtain ⟨rec, at_, _, flds⟩ := hs
  unfold Builtin.Slice.sliceApplied Builtin.Slice.sliceFields
  have f0 : ∀ {Q' : Value × Value × Value → Shared → Prop}, Q' (vl, vu, vs) s → wpAny (model prog w) A (do return (← field (.ref sl) 0, ← field (.ref sl) 1, ← field (.ref sl) 2)) Q' E s := fun {Q'} q =>
    wpAny_bind (wpAny_field at_ flds (x := vl) rfl (wpAny_bind (wpAny_field at_ flds (x := vu) rfl (wpAny_bind (wpAny_field at_ flds (x := vs) rfl (wpAny_pure q))))))
  refine wpAny_bind (f0 ?_)
  refine wpAny_bind (slicePart_ ps ?_)
  show wpAny _ _ (if ((-1 : Int) == 0) = true then _ else _) _ _ s
  rw [if_neg (by decide)]
  refine wpAny_bind (slicePart_ pl (wpAny_bind (slicePart_ pu (wpAny_bind (wpAny_pure ?_)))))
  show wpAny _ _ (pure (((n : Int) - 1), (-1 : Int), Builtin.Slice.slicePlaces ((n : Int) - 1) (-1) (-1))) _ _ s
  rw [places_back]
  exact wpAny_pure h
theorem back_pick (xs : List Value) : ((List.range xs.length).filterMap fun (k : Nat) => xs.toArray[(((xs.length : Nat) : Int) - 1 + (k : Int) * (-1)).toNat]?) = xs.reverse := by
  have e : ∀ k, k < xs.length → xs.toArray[(((xs.length : Nat) : Int) - 1 + (k : Int) * (-1)).toNat]? = xs.reverse[k]? := fun k hk => by
    rw [List.getElem?_toArray, List.getElem?_reverse hk]
    congr 1
    omega
  have g : ∀ (ys : List Value) (f : Nat → Option Value) (m : Nat), m ≤ ys.length → (∀ k, k < m → f k = ys[k]?) → (List.range m).filterMap f = ys.take m := by
    intro ys f m
    induction m with
    | zero => intro _ _; simp
    | succ m ih =>
      intro h1 h2
      rw [List.range_succ, List.filterMap_append, ih (by omega) fun k hk => h2 k (by omega)]
      have : f m = some ys[m] := by rw [h2 m (by omega)]; exact List.getElem?_eq_getElem (by omega)
      rw [List.filterMap_cons, this, List.take_add_one, List.getElem?_eq_getElem (show m < ys.length by omega)]
      rfl
  have q := g xs.reverse _ xs.length (by rw [List.length_reverse]; exact Nat.le_refl _) e
  rw [q, ← List.length_reverse (as := xs), List.take_length]
theorem getItem_tuple_back {t sl : Addr} {xs : List Value} {vl vu vs : Value} {Q : Value → Shared → Prop} (ht : IsTup s.heap t xs.toArray) (hs : s.heap.IsSliceOf sl vl vu vs) (pl : IsPart vl none) (pu : IsPart vu none) (ps : IsPart vs (some (-1)))
    (h : Q (.ref s.heap.objs.size) { s with heap := s.heap.push { cls := .type "tuple", data := .seq xs.reverse.toArray } }) (hsz : xs.length ≤ sizeLine) : wpAny (model prog w) A (getItem (.ref t) (.ref sl)) Q E s := by
  have isS : s.TypeIs (.ref sl) "slice" := let ⟨os, hos, hcs, _⟩ := hs; ⟨os, hos, hcs⟩
  have fits : sizeOk (.seq xs.reverse.toArray) := by
    show xs.reverse.toArray.size ≤ sizeLine
    rw [List.size_toArray, List.length_reverse]
    exact hsz
  unfold getItem
  refine wpAny_holding (wpAny_bind (wpAny_sequenceKey ht.typeIs (by decide) ?_))
  refine wpAny_bind (wpAny_callSpecial?_slot (name := Str.ofString "__getitem__") ht.typeIs PyProof.Rows.slot_tuple_getitem (wpAny_call_entry PyProof.Rows.slot_tuple_getitem ht.typeIs entry_tuple_getitem ?_ (args_tuple_getitem _ _)))
  show wpAny _ _ (Builtin.Tuple.tupleItemsOf (.ref t) >>= _) _ _ s
  refine wpAny_bind (tupleItemsOf_ ht (wpAny_bind (wpAny_typeOf isS ?_)))
  rw [if_pos (by decide), List.size_toArray]
  refine wpAny_bind (applied_back hs pl pu ps ?_)
  show wpAny _ _ (if ((((xs.length : Nat) : Int) - 1 == 0 && (-1 : Int) == 1 && xs.length == xs.length) = true) then _ else _) _ _ s
  have no : ¬ ((((xs.length : Nat) : Int) - 1 == 0 && (-1 : Int) == 1 && xs.length == xs.length) = true) := fun q => by
    rw [Bool.and_eq_true, Bool.and_eq_true] at q
    exact absurd q.1.2 (by decide)
  rw [if_neg no, back_pick]
  first
    | exact wpAny_bind (m := Builtin.Tuple.tupleExact _) (wpAny_newObj_type (wpAny_pure ⟨_, rfl, wpAny_pure h⟩) fits)
    | exact wpAny_bind (m := Builtin.Tuple.tupleExact _) (wpAny_newObj_type (wpAny_bind (wpAny_pure (wpAny_pure ⟨_, rfl, wpAny_pure h⟩))) fits)
    | exact wpAny_bind (wpAny_bind (m := Builtin.Tuple.tupleExact _) (wpAny_newObj_type (wpAny_pure (wpAny_pure ⟨_, rfl, wpAny_pure h⟩)) fits))
    | exact wpAny_bind (wpAny_bind (m := Builtin.Tuple.tupleExact _) (wpAny_newObj_type (wpAny_pure ⟨_, rfl, wpAny_pure h⟩) fits))
end
section
variable {X : Cx}
/-- e[::-1] of a tuple -/
theorem pe_revT {e : Expr} {te : TE} {k : Nat} {p1 p2 p3 pos : Pos} (he : PE X e te) : PE X (.Subscript e (.Slice none none (some (.UnaryOp .USub (.Constant (.int 1) k p1) p2)) p3) pos)
    (fun σ H Q => te σ H fun x H1 => ∃ a xs, x = .ref a ∧ SqT X.K H1 a xs ∧ ∀ p, H1 p = none → Q (.ref p) (upd H1 p (.tup xs.reverse))) := by
  refine ⟨fun pins s σ H Q I h => ?_⟩
  refine Subscript_ (thn (he.run pins s σ H _ I h) fun v s1 ⟨x, H1, I1, r1, a, xs, ex, hx, q⟩ => ?_)
  subst ex
  cases r1
  have minus : PO X (some (.UnaryOp .USub (.Constant (.int 1) k p1) p2)) (tPart (tUn (rU fun i => .int (-i)) (tC (.int 1)))) := po_some (pe_un un_neg pe_int)
  refine wpAny_Slice (thn (po_none.run pins s1 σ H1 (fun o H2 => o = none ∧ H2 = H1) I1 ⟨rfl, rfl⟩) fun vl s2 ⟨_, _, I2, pl, z1, z2⟩ => ?_)
  subst z1 z2
  refine thn (po_none.run pins s2 σ _ (fun o H3 => o = none ∧ H3 = _) I2 ⟨rfl, rfl⟩) fun vu s3 ⟨_, _, I3, pu, z1, z2⟩ => ?_
  subst z1 z2
  refine thn (minus.run pins s3 σ _ (fun o H4 => o = some (-1) ∧ H4 = _) I3 ⟨1, rfl, -1, rfl, rfl, rfl⟩) fun vs s4 ⟨_, H4, I4, ps, z1, z2⟩ => ?_
  subst z1 z2
  have I5 : Inv X pins σ H4 { s4 with heap := s4.heap.push { cls := .type "slice", data := .fields #[vl, vu, vs] } } := I4.kept (t' := s4.toks) fun b ob q => Heap.get?_push_of_some _ q
  obtain ⟨its, r, ht, hz⟩ := I5.tuple hx
  show wpAny (model X.prog X.w) X.A (subscriptTail e (.Slice none none (some (.UnaryOp .USub (.Constant (.int 1) k p1) p2)) p3) (.ref a) (.ref s4.heap.objs.size)) (EP X pins σ Q) X.xe { s4 with heap := s4.heap.push { cls := .type "slice", data := .fields #[vl, vu, vs] } }
  refine tail_any (ops := [.ref a, .ref s4.heap.objs.size]) ht.typeIs PyProof.Rows.slot_tuple_getitem.lookup ?_ (by with_unfolding_all rfl)
  refine getItem_tuple_back ht (Heap.IsSliceOf.new _ vl vu vs) pl pu ps ?_ (by rw [← r.length]; exact hz)
  refine ⟨.ref _, _, I5.laid (t' := s4.toks) (o := .tup xs.reverse) (fun b ob q => Heap.get?_push_of_some _ q) (Nat.le_refl _) ?_, rfl, q _ (I5.hok.fresh (Nat.le_refl _))⟩
  exact ⟨by rw [List.length_reverse]; exact hz, _, r.reverse, IsTup.new _ _⟩

/-! ### tuple * int where the tuple itself, or the empty one, comes out -/
theorem tuple_mul_same (l : Addr) (items : Array Value) (n : Nat) (dd : Option Addr) (sl : Array (Option Value)) (u : Tok) :
    Meets (Builtin.«tuple.__mul__» ⟨[.ref l, .int 1 u], []⟩) (fun _ R s => s.heap.get? l = some { cls := .type "tuple", dict := dd, data := .seq items n, slots := sl } ∧ R (.ok (.ret (Value.ref l))) { s with toks := s.toks }) :=
  .of_wp fun prog w A R s h => by
    obtain ⟨hp, g, d, tk, os⟩ := s
    obtain ⟨hl, h⟩ := h
    have f1 := AutoSeq1.idx_int
    have c1 : (items.isEmpty || (1 : Int) == 1) = true := by rw [show ((1 : Int) == 1) = true from rfl, Bool.or_true]
    wp_walk using wpAny_loadPart' hl
    exact ⟨_, rfl, h⟩
theorem tuple_mul_none (l : Addr) (items : Array Value) (n : Nat) (dd : Option Addr) (sl : Array (Option Value)) (x : Int) (u : Tok) (c0 : (decide (x < -(2 ^ 63)) || decide (x ≥ 2 ^ 63)) = false) (c1 : (items.isEmpty || x == 1) = false) (c2 : (decide (x ≤ 0) || items.isEmpty) = true) :
    Meets (Builtin.«tuple.__mul__» ⟨[.ref l, .int x u], []⟩) (fun _ R s => s.heap.get? l = some { cls := .type "tuple", dict := dd, data := .seq items n, slots := sl } ∧
      R (.ok (.ret (Value.ref s.heap.objs.size))) { s with heap := s.heap.push { cls := Value.type "tuple", data := Data.seq #[] }, toks := s.toks }) :=
  .of_wp fun prog w A R s h => by
    obtain ⟨hp, g, d, tk, os⟩ := s
    obtain ⟨hl, h⟩ := h
    have f1 := AutoSeq1.idx_int
    have hz : (#[] : Array Value).size ≤ sizeLine := Nat.zero_le _
    wp_walk using wpAny_loadPart' hl
    repeat (first
      | (refine wpAny_ite_false (by rw [c0]; exact Bool.false_ne_true) ?_ <;> wp_walk using wpAny_loadPart' hl)
      | (refine wpAny_ite_false (decide_eq_false (by rw [c0]; exact Bool.false_ne_true)) ?_; wp_walk using wpAny_loadPart' hl)
      | (refine wpAny_ite_false (decide_eq_false (by rw [c1]; exact Bool.false_ne_true)) ?_; wp_walk using wpAny_loadPart' hl)
      | (refine wpAny_ite_true (decide_eq_true c2) ?_; wp_walk using wpAny_loadPart' hl)
      | (refine wpAny_ite_false (decide_eq_false (Nat.not_lt.mpr hz)) ?_; wp_walk using wpAny_loadPart' hl))
    exact ⟨_, rfl, h⟩
def rRepA (K : PySem.W.Frag) : R2 := fun x y H Q => ∃ l k xs, x = .ref l ∧ y = .int k ∧ SqT K H l xs ∧ xs ≠ [] ∧ -(2 ^ 60) ≤ k ∧ k ≤ 1000 ∧ xs.length ≤ 1000 ∧ (k = 1 → Q (.ref l) H) ∧ (k ≠ 1 → ∀ p, H p = none → Q (.ref p) (upd H p (.tup (List.replicate k.toNat xs).flatten)))
theorem op_repA : OpR X (binaryOp .Mult) (rRepA X.K) := by
  intro pins s σ H x y v u Q I rx ry h
  obtain ⟨l, k, xs, rfl, rfl, hT, hne, h0, h1, hz, q1, q2⟩ := h
  by_cases hk2 : 2 ≤ k
  · exact op_repT pins s σ H _ _ v u Q I rx ry ⟨l, k, xs, rfl, rfl, hT, hne, hk2, h1, hz, q2 (by omega)⟩
  cases rx
  obtain ⟨t, rfl⟩ := ry
  obtain ⟨its, r, ⟨⟨cls, dd, data, sl⟩, ho, hc, n, hd⟩, hs⟩ := I.tuple hT
  simp only at hc hd
  subst hc hd
  have nE : its.toArray.isEmpty = false := by
    cases its with
    | nil => cases r; exact absurd rfl hne
    | cons a b => rfl
  have road : ∀ {Q' : Value → Shared → Prop}, (wpAny (model X.prog X.w) X.A (call (.builtin "tuple.__mul__") [.ref l, .int k t]) Q' X.xe s) → wpAny (model X.prog X.w) X.A (binaryOp .Mult (.ref l) (.int k t)) Q' X.xe s := fun {Q'} q =>
    wpAny_binaryOp_repeat_ref (T := "tuple") (U := "int") (by decide) ⟨_, ho, rfl⟩ (fun s' => typeIs_int s' k t) noFill_tuple_mul F.fills_int_mul F.slot_int_rmul repeat_tuple F.slot_int_index.lookup
      (call_meets F.slot_int_rmul (typeIs_int s k t) F.entry_int_rmul (F.args_int_rmul_2 _ _) (int_rmul_tuple k t l its.toArray n dd sl) ⟨ho, rfl, ⟨_, ho, rfl⟩, q⟩)
  refine road ?_
  by_cases e1 : k = 1
  · subst e1
    exact call_meets F.slot_tuple_mul ⟨_, ho, rfl⟩ F.entry_tuple_mul (F.args_tuple_mul_2 _ _) (tuple_mul_same l its.toArray n dd sl t) ⟨ho, .ref l, H, I, rfl, q1 rfl⟩
  · have k0 : k ≤ 0 := by omega
    have c0 : (decide (k < -(2 ^ 63)) || decide (k ≥ 2 ^ 63)) = false := by
      rw [decide_eq_false (by omega), decide_eq_false (by omega)]; rfl
    have c1 : (its.toArray.isEmpty || k == 1) = false := by
      rw [nE, Bool.false_or]
      exact beq_eq_false_iff_ne.mpr e1
    have c2 : (decide (k ≤ 0) || its.toArray.isEmpty) = true := by rw [decide_eq_true k0]; rfl
    have ek : k.toNat = 0 := by omega
    refine call_meets F.slot_tuple_mul ⟨_, ho, rfl⟩ F.entry_tuple_mul (F.args_tuple_mul_2 _ _) (tuple_mul_none l its.toArray n dd sl k t c0 c1 c2) ⟨ho, ?_⟩
    refine ⟨.ref s.heap.objs.size, upd H s.heap.objs.size (.tup (List.replicate k.toNat xs).flatten), I.laid (t' := s.toks) (fun b ob q => Heap.get?_push_of_some _ q) (Nat.le_refl _) ?_, rfl, q2 e1 _ (I.hok.fresh (Nat.le_refl _))⟩
    rw [ek]
    exact ⟨Nat.zero_le _, [], .nil, IsTup.new _ _⟩
end
section
variable {X : Cx}
/-- a text of one sign or more, twice or more -/
def repS (z : Str) (k : Nat) : Str := ⟨(List.replicate k z.cps).foldl (· ++ ·) #[]⟩
theorem fold_size (c : Array Nat) : ∀ (k : Nat) (a : Array Nat), ((List.replicate k c).foldl (· ++ ·) a).size = a.size + k * c.size
  | 0, a => by simp
  | k + 1, a => by
    rw [List.replicate_succ, List.foldl_cons, fold_size c k, Array.size_append, Nat.succ_mul]
    omega
theorem op_mulS : OpR X (binaryOp .Mult) (fun x y H Q => ∃ (z : Str) (k : Int), x = .str z ∧ y = .int k ∧ 2 ≤ k ∧ k ≤ 1000 ∧ 1 ≤ z.length ∧ z.length ≤ 1000 ∧ Q (.str (repS z k.toNat)) H) := by
  intro pins s σ H x y v u Q I rx ry h
  obtain ⟨z, k, rfl, rfl, k1, k2, z1, z2, q⟩ := h
  obtain ⟨t, rfl⟩ := rx
  obtain ⟨t', rfl⟩ := ry
  have nz : (k == 1 || z.length == 0) = false := by
    have a1 : ¬ k = 1 := by omega
    have a2 : ¬ z.length = 0 := by omega
    rw [beq_false_of_ne a1, beq_false_of_ne a2]
    rfl
  have big : z.length * k.toNat ≤ 1000000 := Nat.le_trans (Nat.mul_le_mul z2 (show k.toNat ≤ 1000 by omega)) (by decide)
  refine PySem.P.mul_str ?_ (fun _ _ => ?_) (fun _ _ => ?_) ?_
  · rw [decide_eq_false (show ¬ k < -(2 ^ 63 : Int) by omega), decide_eq_false (show ¬ k ≥ 2 ^ 63 by omega)]
    rfl
  · have : (1000 : Int) ≤ (2 ^ 63 - 1) / k := (Int.le_ediv_iff_mul_le (by omega)).mpr (by omega)
    omega
  · have e : PySem.Builtin.Str.tooLong (z.length * k.toNat) = decide (z.length * k.toNat > sizeLine) := rfl
    rw [e, decide_eq_false]
    rw [sizeLine_eq]
    omega
  · rw [if_neg (show ¬ k < 1 by omega), if_neg (by rw [nz]; exact Bool.false_ne_true)]
    refine ⟨?_, ⟨.str (repS z k.toNat), H, I.tok _, ⟨_, rfl⟩, q⟩⟩
    show (repS z k.toNat).cps.size ≤ sizeLine
    unfold repS
    rw [fold_size, sizeLine_eq]
    have : z.cps.size = z.length := rfl
    rw [this, Nat.mul_comm]
    simp only [Array.size_empty]
    omega
theorem vals_signs : ∀ (l : List Nat) (us : List Value), us.length = l.length → (∀ (j : Nat) (u : Value), us[j]? = some u → ∃ c : Nat, l[j]? = some c ∧ RelV (V.str ⟨#[c]⟩) u) → Vals (l.map fun c => V.str ⟨#[c]⟩) us
  | [], [], _, _ => .nil
  | c :: l, u :: us, hl, h => by
    obtain ⟨c', e, r⟩ := h 0 u rfl
    cases e
    exact .cons r (vals_signs l us (by simpa using hl) fun j v hv => h (j + 1) v hv)
  | [], _ :: _, hl, _ => by cases hl
  | _ :: _, [], hl, _ => by cases hl
/-- the signs of a text, laid in a list -/
theorem call_list_txt (hc : X.calm = true) : CallR X (.type "list") (fun xs H Q => ∃ z : Str, xs = [.str z] ∧ z.length ≤ sizeLine ∧ ∀ l, H l = none → Q (.ref l) (upd H l (.lst (z.cps.toList.map fun c => V.str ⟨#[c]⟩)))) := by
  intro pins s σ H xs us Q I r h
  obtain ⟨z, rfl, hz, q⟩ := h
  obtain ⟨u, rfl, rx⟩ := vals1 r
  obtain ⟨t, rfl⟩ := rx
  refine call_list_str (I.ok.hd hc) z t (hn := hz) fun h' tk acc' c' kp e items => ?_
  refine ⟨.ref s.heap.objs.size, _, I.laid (t' := tk) kp (Nat.le_refl _) (show ObjOk X.prog X.w _ h' _ (.lst (z.cps.toList.map fun c => V.str ⟨#[c]⟩)) from ⟨?_, acc'.toList, c', ?_, by simpa using e⟩), rfl, q _ (I.hok.fresh (Nat.le_refl _))⟩
  · rw [List.length_map]
    simpa using (show z.cps.size ≤ sizeLine from hz)
  · refine vals_signs z.cps.toList acc'.toList (by simpa using items.1) fun j v hv => ?_
    obtain ⟨c, u, e1, rfl⟩ := items.2 j v (by simpa using hv)
    exact ⟨c, by simpa using e1, ⟨_, rfl⟩⟩
end
end DL
end
section
set_option Elab.async false
set_option linter.all false
set_option maxRecDepth 100000
set_option autoImplicit false
set_option maxHeartbeats 4000000
/-! DL, part c1: sorted of a list of tuples of ints, of which the first one is empty. -/
namespace DL
open PySem PySem.Spec PyProof.Rows L2 PySem.W
/-- v is a tuple that holds these numbers -/
def TupV (h : Heap) (v : Value) (ns : List Int) : Prop :=
  ∃ (a : Addr) (dd : Option Addr) (items : Array Value) (n : Nat) (sl : Array (Option Value)), v = .ref a ∧ h.get? a = some { cls := .type "tuple", dict := dd, data := .seq items n, slots := sl } ∧ IntsAre items.toList ns
theorem TupV.keeps {h h' : Heap} {v : Value} {ns : List Int} (x : TupV h v ns) (k : ∀ b o, v = .ref b → h.get? b = some o → h'.get? b = some o) : TupV h' v ns := by
  obtain ⟨a, dd, items, n, sl, e, g, i⟩ := x
  exact ⟨a, dd, items, n, sl, e, k _ _ e g, i⟩
theorem TupV.type {M : Model} {h : Heap} {v : Value} {ns : List Int} (x : TupV h v ns) : Looks M h (typeOf v) (.type "tuple") := by
  obtain ⟨a, dd, items, n, sl, rfl, g, i⟩ := x
  exact (Looks.ld g).andThen .now
section
variable {prog : Program} {w : World} {A : Around} {E : Value → Shared → Prop} {s : Shared}
theorem looks_eq {M : Model} {h : Heap} {α : Type} {m : Sem α} {a : α} (e : m = pure a) : Looks M h m a := by rw [e]; exact .now
theorem ask_less {a b : Addr} {dd dd2 : Option Addr} {xs ys : Array Value} {n n2 : Nat} {sl sl2 : Array (Option Value)} {ns ms : List Int} {Q : Value → Shared → Prop}
    (ga : s.heap.get? a = some { cls := .type "tuple", dict := dd, data := .seq xs n, slots := sl }) (gb : s.heap.get? b = some { cls := .type "tuple", dict := dd2, data := .seq ys n2, slots := sl2 })
    (ia : IntsAre xs.toList ns) (ib : IntsAre ys.toList ms) (iv : Looks (model prog w) s.heap (isInstance (.ref a) (.type "tuple")) true) (iu : ∀ M : Model, Looks M s.heap (isInstance (.ref b) (.type "tuple")) true)
    (h : Q (.bool (HT.lexLt ns ms)) s) : wpAny (model prog w) A (call (.builtin "tuple.__lt__") [.ref a, .ref b]) Q E s := by
  have step := NtL.nt_lt_ints a b (.type "tuple") (.type "tuple") xs ys n n2 dd dd2 sl sl2 ns ms ia ib prog w
  refine wpAny_call (codeAny_call_builtin PySem.F.slot_tuple_lt.plain PySem.F.entry_tuple_lt (@check_slot (model prog w) _ _ _ "tuple.__lt__" "tuple" "__lt__" (.ref a) [.ref b] [] _ (by decide +kernel) (by decide +kernel) iv (PySem.F.args_tuple_lt_2 _ _) ?_))
  refine wpAny_mono (step _ (wants Q E) s ⟨ga, gb, iu, h⟩) (fun fin s' q => ?_) fun _ _ z => z
  cases fin with
  | done f => exact q
  | again c => exact q
theorem less_tup {v u : Value} {ns ms : List Int} {Q : Bool → Shared → Prop} (hu : A.units < cLine) (hv : TupV s.heap v ns) (hw : TupV s.heap u ms) (h : Q (HT.lexLt ns ms) s) : wpAny (model prog w) A (keyLt' oneType' v u) Q E s := by
  have tv : Looks (model prog w) s.heap (typeOf v) (.type "tuple") := hv.type
  have sp : Looks (model prog w) s.heap (specialOf v "__lt__") (some (.builtin "tuple.__lt__")) := tv.andThen (looks_eq PySem.F.slot_tuple_lt.lookup)
  have sub : isSubtype (.type "tuple") (.type "tuple") = pure true := by rw [isSubtype_type]; kernel_rfl
  have iv : Looks (model prog w) s.heap (isInstance v (.type "tuple")) true := tv.andThen (looks_eq sub)
  have iu : ∀ M : Model, Looks M s.heap (isInstance u (.type "tuple")) true := fun M => (hw.type (M := M)).andThen (looks_eq sub)
  obtain ⟨a, dd, items, n, sl, rfl, ga, ia⟩ := hv
  obtain ⟨b, dd2, items2, n2, sl2, rfl, gb, ib⟩ := hw
  rw [keyLt'_oneType, oneLt'_eq]
  simp only [if_true]
  refine wpAny_bind (wpAny_cRoomFor hu ?_)
  refine wpAny_bind (NtL.csib (E := E) sp (PySem.F.slot_tuple_lt.bind _) (ask_less ga gb ia ib iv iu ?_))
  exact wpAny_truthy_bool h
end
section
variable {prog : Program} {w : World} {A : Around} {s : Shared} {E : Value → Shared → Prop}
theorem firsts_tup : ∀ (vs : List Value) {k : Value → List Int} {Q : List (Option Value) → Shared → Prop}, (∀ v ∈ vs, TupV s.heap v (k v)) → (∀ fs : List (Option Value), fs.length = vs.length → (∀ v r, vs = v :: r → k v = [] → ∃ fr, fs = none :: fr) → Q fs s) → wpAny (model prog w) A (vs.mapM firstOfTuple') Q E s
  | [], k, Q, _, h => by
    rw [List.mapM_nil]
    exact wpAny_pure (h [] rfl fun v r e => by cases e)
  | v :: vs, k, Q, hv, h => by
    rw [List.mapM_cons]
    have h0 := hv v List.mem_cons_self
    have t0 := h0.type (M := model prog w)
    obtain ⟨a, dd, items, n, sl, rfl, g, i⟩ := h0
    refine wpAny_bind ?_
    rw [kas_first_eq]
    refine wpAny_bind (t0.here ?_)
    rw [if_neg (by decide +kernel)]
    refine wpAny_bind (wpAny_listItems g rfl ?_)
    refine wpAny_pure ?_
    refine wpAny_bind (firsts_tup vs (k := k) (fun u hu => hv u (List.mem_cons_of_mem _ hu)) fun fs hl _ => wpAny_pure ?_)
    refine h _ (by rw [List.length_cons, List.length_cons, hl]) fun v' r e ek => ?_
    cases e
    rw [ek] at i
    have : items = #[] := by
      cases items with
      | mk l => cases l with
        | nil => rfl
        | cons _ _ => cases i
    subst this
    exact ⟨fs, rfl⟩
theorem kind_tup {vs : List Value} {k : Value → List Int} {v0 : Value} {rest : List Value} {Q : SortKind → Shared → Prop} (e : vs = v0 :: rest) (hk : k v0 = []) (hv : ∀ v ∈ vs, TupV s.heap v (k v)) (h : Q oneType' s) : wpAny (model prog w) A (keyKind' vs.toArray) Q E s := by
  rw [keyKind'_eq, List.mapM_toArray, map_eq_pure_bind]
  refine wpAny_bind (wpAny_bind (firsts_tup vs hv fun fs hl hf => wpAny_pure ?_))
  obtain ⟨fr, rfl⟩ := hf v0 rest e hk
  rw [if_neg (by simp), if_neg (by simp)]
  rw [oneTypeOnly'_eq, List.mapM_toArray, map_eq_pure_bind]
  refine wpAny_bind (wpAny_bind (wpAny_bind (kas_mapM (r := Value.type "tuple") _ (fun v hm Q' hq => ((hv v hm).type).here hq) (wpAny_pure ?_))))
  subst e
  have hall : ((List.map (fun _ => Value.type "tuple") (v0 :: rest)).toArray.all fun x => x == Value.type "tuple") = true := by
    simp only [List.all_toArray, List.all_map, List.all_eq_true]
    intro _ _
    show (Value.type "tuple" == Value.type "tuple") = true
    decide +kernel
  have h0 : (List.map (fun _ => Value.type "tuple") (v0 :: rest)).toArray[0]? = some (Value.type "tuple") := by simp
  rw [h0]
  simp only [hall, if_true]
  exact wpAny_pure (wpAny_pure h)
end
theorem ints_vals : ∀ {ns : List Int} {us : List Value}, Vals (ns.map V.int) us → IntsAre us ns
  | [], us, r => by
    rw [List.map_nil] at r
    cases r
    exact .nil
  | n :: ns, us, r => by
    rw [List.map_cons] at r
    cases r with
    | cons h q =>
      obtain ⟨t, rfl⟩ := h
      exact .cons n t (ints_vals q)
/-- sorted(xs), xs tuples of ints, the first of them empty: a new list, in order -/
theorem cr_sortedTup {X : Cx} (hu : X.A.units + 65 < cLine) : CallR X (.builtin "sorted") (fun vs H Q => ∃ (a : Addr) (xs : List V) (k : V → List Int), vs = [V.ref a] ∧ SqL X.K H a xs ∧ (∀ x ∈ xs, ∃ t, x = V.ref t ∧ SqT X.K H t ((k x).map V.int)) ∧
    (∃ x0 rest, xs = x0 :: rest ∧ k x0 = []) ∧ ∀ ys p, SrtO.Srtd (fun x y => HT.lexLt (k x) (k y)) ys → ys.Perm xs → H p = none → Q (.ref p) (upd H p (.lst ys))) := by
  intro pins s σ H vs us Q I r h
  obtain ⟨a, xs, k, rfl, hs, hx, ⟨x0, rest, e0, k0⟩, q⟩ := h
  obtain ⟨its, rv, hl, hz⟩ := I.list hs
  obtain ⟨u, rfl, ru⟩ := vals1 r
  obtain rfl : u = Value.ref a := ru
  obtain ⟨e1, e2⟩ := refs_back rv fun x m => by
    obtain ⟨t, e, _⟩ := hx x m
    exact ⟨t, e⟩
  have tups : ∀ v ∈ its, TupV s.heap v (k (backV v)) := fun v hv => by
    obtain ⟨t, rfl⟩ := e2 v hv
    have hm : V.ref t ∈ xs := by rw [e1]; exact List.mem_map.mpr ⟨_, hv, rfl⟩
    obtain ⟨t', e, ht⟩ := hx _ hm
    cases e
    obtain ⟨its2, r2, ⟨⟨cls, dd, data, sl⟩, ho, hc, n, hd⟩, _⟩ := I.tuple ht
    simp only at hc hd
    subst hc hd
    exact ⟨t, dd, its2.toArray, n, sl, rfl, ho, by
      have z := ints_vals r2
      simpa using (show IntsAre its2 (k (backV (Value.ref t))) from z)⟩
  have front : ∃ v0 r0, its = v0 :: r0 ∧ k (backV v0) = [] := by
    cases its with
    | nil => rw [e1] at e0; cases e0
    | cons v0 r0 =>
      rw [e1, List.map_cons] at e0
      cases e0
      exact ⟨v0, r0, rfl, k0⟩
  obtain ⟨v0, r0, ef, kf⟩ := front
  refine SrtO.sorted_ord (ltv := fun v u => HT.lexLt (k (backV v)) (k (backV u))) (NtL.swo_lexL fun u => k (backV u)) hl.isList (by rw [← rv.length]; exact hz) (fun h2 h1 a1 ha kk => ?_) fun out ord stb => ?_
  · intro h' keep
    have here : ∀ v ∈ its, TupV h' v (k (backV v)) := fun v hm => (tups v hm).keeps fun b o _ g => keep b o (kk b o g).1 (kk b o g).2
    refine ⟨oneType', fun Qk Ek hq => ?_, fun p q hp hq => ?_⟩
    · exact kind_tup (s := { s with heap := h' }) (k := fun v => k (backV v)) ef kf here hq
    · exact less_tup (s := { s with heap := h' }) (Q := fun r s' => s' = { s with heap := h' } ∧ r = HT.lexLt (k (backV p.1)) (k (backV q.1))) (E := fun _ _ => False) (by have e1 : X.A.in1.in1.units = X.A.units + 1 + 1 := rfl; omega) (here p.1 hp) (here q.1 hq) ⟨rfl, rfl⟩
  · have h3 : ∀ u ∈ out, ∃ a, u = Value.ref a := fun u hm => e2 u (stb.perm.mem_iff.mp hm)
    have hp : (out.map backV).Perm xs := by rw [e1]; exact stb.perm.map backV
    obtain ⟨n, hn⟩ := sortedAll_at s.heap its out.toArray
    refine ⟨.ref (s.heap.objs.size + 1), upd H (s.heap.objs.size + 1) (.lst (out.map backV)), I.laid (t' := s.toks) (fun b o e => sortedAll_old e) (Nat.le_succ _) ⟨?_, out, n, vals_back h3, hn⟩, rfl, q _ _ (SrtO.srtd_map ord) hp (I.hok.fresh (Nat.le_succ _))⟩
    rw [hp.length_eq]
    exact hz
end DL
end
section
set_option Elab.async false
set_option linter.all false
set_option maxRecDepth 100000
set_option autoImplicit false
set_option maxHeartbeats 4000000
/-! DL, part c2: that list by data. -/
namespace DL
open PySem PySem.Spec PyProof.Rows L2
variable [Tabs]
def tupD (ns : List Int) : D := .tuple (ns.map .int)
def leT (a b : List Int) : Bool := !HT.lexLt b a
def sortL (L : List (List Int)) : List (List Int) := L.mergeSort leT
theorem lex_anti : ∀ {a b : List Int}, HT.lexLt a b = false → HT.lexLt b a = false → a = b
  | [], [], _, _ => rfl
  | [], _ :: _, h, _ => by cases h
  | _ :: _, [], _, h => by cases h
  | x :: xs, y :: ys, h1, h2 => by
    rw [HT.lexLt_cons] at h1 h2
    by_cases e : x = y
    · subst e
      rw [if_pos rfl] at h1 h2
      rw [lex_anti h1 h2]
    · rw [if_neg e] at h1
      rw [if_neg (fun z => e z.symm)] at h2
      have a1 := of_decide_eq_false h1
      have a2 := of_decide_eq_false h2
      omega
theorem swo_T : SrtO.Swo HT.lexLt := NtL.swo_lexL (fun v : List Int => v)
theorem sorted_uniq : ∀ {l m : List (List Int)}, l.Pairwise (fun a b => HT.lexLt b a = false) → m.Pairwise (fun a b => HT.lexLt b a = false) → l.Perm m → l = m
  | [], m, _, _, h => (List.Perm.eq_nil h.symm).symm
  | x :: l, [], _, _, h => absurd h.length_eq (by simp)
  | x :: l, y :: m, hl, hm, h => by
    obtain ⟨l1, l2⟩ := List.pairwise_cons.mp hl
    obtain ⟨m1, m2⟩ := List.pairwise_cons.mp hm
    have e : x = y := by
      rcases List.mem_cons.mp (h.mem_iff.mp (List.mem_cons_self (a := x) (l := l))) with e | hx
      · exact e
      · rcases List.mem_cons.mp (h.mem_iff.mpr (List.mem_cons_self (a := y) (l := m))) with e | hy
        · exact e.symm
        · exact lex_anti (m1 x hx) (l1 y hy)
    subst e
    rw [sorted_uniq l2 m2 h.cons_inv]
theorem sortL_perm (L : List (List Int)) : (sortL L).Perm L := List.mergeSort_perm L leT
theorem sortL_asc (L : List (List Int)) : (sortL L).Pairwise (fun a b => HT.lexLt b a = false) := by
  have h := List.pairwise_mergeSort (le := leT) (fun a b c h1 h2 => by
    unfold leT at *
    have a1 : HT.lexLt b a = false := by simpa using h1
    have a2 : HT.lexLt c b = false := by simpa using h2
    have := swo_T.tr _ _ _ a1 a2
    simpa using this) (fun a b => by
    unfold leT
    cases q : HT.lexLt b a with
    | false => rfl
    | true =>
      rw [swo_T.asym _ _ q]
      rfl) L
  exact h.imp fun {a b} z => by
    unfold leT at z
    simpa using z
theorem ints_DRs {K : Fg} {N : AS} {H : Hp} : ∀ {ns : List Int} {xs : List V}, DRs K N H xs (ns.map .int) → xs = ns.map V.int
  | [], _, .nil => rfl
  | n :: ns, _, .cons a b => by rw [a.int_inv, ints_DRs b]; rfl
theorem ints_fun : ∀ {us : List Value} {ns ms : List Int}, IntsAre us ns → IntsAre us ms → ns = ms
  | [], [], [], _, _ => rfl
  | _ :: us, n :: ns, m :: ms, a, b => by
    cases a with
    | cons _ t h => cases b with
      | cons _ _ h' => rw [ints_fun h h']
  | [], _ :: _, _, a, _ => by cases a
  | [], [], _ :: _, _, b => by cases b
  | _ :: _, [], _, a, _ => by cases a
  | _ :: _, _ :: _, [], _, b => by cases b
theorem tup_uniq {X : Cx} {pins : List (Addr × Obj)} {σ : L2.St} {H : Hp} {s : Shared} (I : Inv X pins σ H s) {N N' : AS} {v : V} {ns ms : List Int} (h1 : DR X.K N H v (tupD ns)) (h2 : DR X.K N' H v (tupD ms)) : ns = ms := by
  obtain ⟨a, xs, rfl, t1, d1⟩ := h1.tuple_inv
  obtain ⟨a', ys, e, t2, d2⟩ := h2.tuple_inv
  cases e
  have q1 := t1.sq
  have q2 := t2.sq
  rw [ints_DRs d1] at q1
  rw [ints_DRs d2] at q2
  obtain ⟨i1, r1, ⟨o1, g1, _, n1, f1⟩, _⟩ := I.tuple q1
  obtain ⟨i2, r2, ⟨o2, g2, _, n2, f2⟩, _⟩ := I.tuple q2
  rw [g1] at g2
  cases g2
  rw [f1] at f2
  have e : i1 = i2 := by
    have := (Data.seq.inj f2).1
    simpa using congrArg Array.toList this
  subst e
  exact ints_fun (ints_vals r1) (ints_vals r2)
theorem drs_map {K : Fg} {N : AS} {H : Hp} {k : V → List Int} : ∀ {ys : List V}, (∀ y ∈ ys, DR K N H y (tupD (k y))) → DRs K N H ys ((ys.map k).map tupD)
  | [], _ => .nil
  | y :: ys, h => .cons (h y List.mem_cons_self) (drs_map fun z hz => h z (List.mem_cons_of_mem _ hz))
theorem drs_keys {K : Fg} {N : AS} {H : Hp} {k : V → List Int} (hk : ∀ v ns, DR K N H v (tupD ns) → k v = ns) : ∀ {L : List (List Int)} {xs : List V}, DRs K N H xs (L.map tupD) → xs.map k = L ∧ ∀ x ∈ xs, DR K N H x (tupD (k x))
  | [], _, .nil => ⟨rfl, fun x h => nomatch h⟩
  | l :: L, _, .cons a b => by
    obtain ⟨h1, h2⟩ := drs_keys hk b
    have e := hk _ _ a
    refine ⟨by rw [List.map_cons, e, h1], fun x hx => ?_⟩
    rcases List.mem_cons.mp hx with rfl | hx
    · rw [e]; exact a
    · exact h2 x hx
/-- sorted of a list of tuples of ints of which the first is empty, by data -/
theorem cr_sortD {X : Cx} (hu : X.A.units + 65 < cLine) : CallR X (.builtin "sorted") (fun vs H Q => ∃ (a : Addr) (N : AS) (xs : List V) (L : List (List Int)), vs = [V.ref a] ∧ SqL X.K H a xs ∧ DRs X.K N H xs (([] :: L).map tupD) ∧
    ∀ ys p, DRs X.K N H ys ((sortL ([] :: L)).map tupD) → H p = none → Q (.ref p) (upd H p (.lst ys))) := by
  classical
  intro pins s σ H vs us Q I r h
  obtain ⟨a, N, xs, L, rfl, hs, hd, q⟩ := h
  have hk : ∃ k : V → List Int, ∀ v ns, DR X.K N H v (tupD ns) → k v = ns := by
    refine ⟨fun v => if h : ∃ ns, DR X.K N H v (tupD ns) then h.choose else [], fun v ns hv => ?_⟩
    have ex : ∃ ns, DR X.K N H v (tupD ns) := ⟨ns, hv⟩
    show (if h : ∃ ns, DR X.K N H v (tupD ns) then h.choose else []) = ns
    rw [dif_pos ex]
    exact tup_uniq I ex.choose_spec hv
  obtain ⟨k, hk⟩ := hk
  obtain ⟨e1, e2⟩ := drs_keys hk hd
  refine cr_sortedTup hu pins s σ H [V.ref a] us Q I r ⟨a, xs, k, rfl, hs, fun x hx => ?_, ?_, fun ys p ord perm hp => q ys p ?_ hp⟩
  · obtain ⟨t, zs, rfl, t1, d1⟩ := (e2 x hx).tuple_inv
    refine ⟨t, rfl, ?_⟩
    have := t1.sq
    rw [ints_DRs d1] at this
    exact this
  · cases xs with
    | nil => cases e1
    | cons x0 rest =>
      rw [List.map_cons] at e1
      exact ⟨x0, rest, rfl, (List.cons.inj e1).1⟩
  · have m1 : (ys.map k).Perm (sortL ([] :: L)) := by
      have := perm.map k
      rw [e1] at this
      exact this.trans (sortL_perm _).symm
    have m2 : (ys.map k).Pairwise (fun a b => HT.lexLt b a = false) := List.pairwise_map.mpr ord
    have m3 : ys.map k = sortL ([] :: L) := sorted_uniq m2 (sortL_asc _) m1
    rw [← m3]
    exact drs_map fun y hy => e2 y (perm.mem_iff.mp hy)
end DL
end
section
set_option Elab.async false
set_option linter.all false
set_option maxRecDepth 100000
set_option autoImplicit false
set_option maxHeartbeats 1000000
/-! DL, part c3: sorted of a tuple of ints. -/
namespace DL
open PySem PySem.Spec PyProof.Rows L2
section
variable {prog : Program} {w : World} {A : Around} {E : Value → Shared → Prop} {s : Shared}
/-- what a tuple has, collected -/
theorem collect_tupleX {l : Addr} {vs : List Value} {Q : List Value → Shared → Prop} (hl : IsTup s.heap l vs.toArray)
    (h : Q vs { s with heap := (s.heap.push (seqObj "list" #[] 0)).update s.heap.objs.size (Obj.mapSeq (· ++ vs.toArray)) }) (hsz : vs.length ≤ sizeLine) :
    wpAny (model prog w) A (collect (.ref l)) Q E s := by
  obtain ⟨o, ho, hc, n, hd⟩ := id hl
  unfold collect
  refine wpAny_bind (wpAny_runValue (codeAny_builtin entry_proto_collect' ?_))
  show wpAny _ _ (do again (.builtin "list.__iadd__" ⟨[← newList [], .ref l], []⟩)) _ _ s
  refine wpAny_bind (wpAny_newList (wpAny_pure ⟨Code.quiet_builtin _ (by decide +kernel), codeAny_builtin entry_list_iadd' ?_⟩))
  show wpAny _ _ (Builtin.List.listExtendWith (.ref s.heap.objs.size) (.ref l) (.ref s.heap.objs.size)) _ _ { s with heap := s.heap.push (seqObj "list" #[] 0) }
  unfold Builtin.List.listExtendWith
  have ho' : (s.heap.push (seqObj "list" #[] 0)).get? l = some o := Heap.get?_push_of_some _ ho
  refine wpAny_bind (wpAny_typeOf (T := "tuple") ⟨o, ho', hc⟩ ?_)
  have ht : (Value.type "tuple" == Value.type "tuple") = true := by rfl
  rw [if_pos (by rw [ht]; simp)]
  refine wpAny_bind (listItems_at ho' hd ?_)
  refine wpAny_bind (listItems_at (xs := #[]) (n := 0) (Heap.get?_push_size _ rfl) rfl ?_)
  rw [if_neg (by simp)]
  refine wpAny_bind (listUpdate_at (xs := #[]) (n := 0) (Heap.get?_push_size _ rfl) rfl ?_ (Nat.zero_le _) (by show (#[] ++ vs.toArray).size ≤ sizeLine + 1; simp only [Array.size_append, List.size_toArray, List.length_nil]; omega))
  refine wpAny_pure ?_
  show wpAny (model prog w) A (do
      let o ← load s.heap.objs.size
      match o.data with
      | .seq xs _ => pure xs.toList
      | _ => unsupported "internal:collect") Q E { s with heap := (s.heap.push (seqObj "list" #[] 0)).update s.heap.objs.size (Obj.mapSeq (· ++ vs.toArray)) }
  refine wpAny_bind (wpAny_load (get?_update_seq (Heap.get?_push_size _ rfl) _) ?_)
  show wpAny _ _ (pure ((#[] : Array Value) ++ vs.toArray).toList) Q E _
  rw [show ((#[] : Array Value) ++ vs.toArray).toList = vs by simp]
  exact wpAny_pure h
end
/-! ### ints in their order -/
def insI (x : Int) : List Int → List Int
  | [] => [x]
  | y :: ys => if x ≤ y then x :: y :: ys else y :: insI x ys
def sortI : List Int → List Int
  | [] => []
  | x :: xs => insI x (sortI xs)
theorem insI_perm (x : Int) : ∀ l : List Int, (insI x l).Perm (x :: l)
  | [] => .refl _
  | y :: ys => by
    unfold insI
    split
    · exact .refl _
    · exact ((insI_perm x ys).cons y).trans (.swap x y ys)
theorem sortI_perm : ∀ l : List Int, (sortI l).Perm l
  | [] => .refl _
  | x :: xs => (insI_perm x (sortI xs)).trans ((sortI_perm xs).cons x)
theorem insI_asc (x : Int) : ∀ {l : List Int}, l.Pairwise (· ≤ ·) → (insI x l).Pairwise (· ≤ ·)
  | [], _ => by unfold insI; simp
  | y :: ys, h => by
    obtain ⟨h1, h2⟩ := List.pairwise_cons.mp h
    unfold insI
    split
    · rename_i hx
      refine List.pairwise_cons.mpr ⟨fun z hz => ?_, h⟩
      rcases List.mem_cons.mp hz with rfl | hz
      · exact hx
      · exact Int.le_trans hx (h1 z hz)
    · rename_i hx
      refine List.pairwise_cons.mpr ⟨fun z hz => ?_, insI_asc x h2⟩
      rcases List.mem_cons.mp ((insI_perm x ys).mem_iff.mp hz) with rfl | hz
      · omega
      · exact h1 z hz
theorem sortI_asc : ∀ l : List Int, (sortI l).Pairwise (· ≤ ·)
  | [] => .nil
  | x :: xs => insI_asc x (sortI_asc xs)
theorem asc_uniq : ∀ {l r : List Int}, l.Pairwise (· ≤ ·) → r.Pairwise (· ≤ ·) → l.Perm r → l = r
  | [], r, _, _, p => (List.nil_perm.mp p).symm
  | x :: l, [], _, _, p => absurd p.symm (by intro z; have := List.nil_perm.mp z; cases this)
  | x :: l, y :: r, h1, h2, p => by
    obtain ⟨a1, a2⟩ := List.pairwise_cons.mp h1
    obtain ⟨b1, b2⟩ := List.pairwise_cons.mp h2
    have e : x = y := by
      have m1 : x ∈ y :: r := p.mem_iff.mp List.mem_cons_self
      have m2 : y ∈ x :: l := p.mem_iff.mpr List.mem_cons_self
      rcases List.mem_cons.mp m1 with e | e
      · exact e
      · rcases List.mem_cons.mp m2 with e2 | e2
        · exact e2.symm
        · have := b1 x e
          have := a1 y e2
          omega
    subst e
    rw [asc_uniq a2 b2 (List.Perm.cons_inv p)]
theorem sortI_uniq {l ns : List Int} (h : l.Pairwise (· ≤ ·)) (p : l.Perm ns) : l = sortI ns := asc_uniq h (sortI_asc ns) (p.trans (sortI_perm ns).symm)
section
variable {X : Cx}
/-- sorted of a list or a tuple of ints -/
theorem cr_sortIX : CallR X (.builtin "sorted") (fun vs H Q => ∃ (a : Addr) (ns : List Int), vs = [V.ref a] ∧ (SqL X.K H a (ns.map V.int) ∨ SqT X.K H a (ns.map V.int)) ∧ ∀ p, H p = none → Q (.ref p) (upd H p (.lst ((sortI ns).map V.int)))) := by
  intro pins s σ H vs us Q I r h
  obtain ⟨a, ns, rfl, hs, q⟩ := h
  rcases hs with hs | hs
  · refine cr_sortedI pins s σ H [V.ref a] us Q I r ⟨a, ns, rfl, hs, fun ns' p perm asc hp => ?_⟩
    rw [sortI_uniq asc perm]
    exact q p hp
  · obtain ⟨its, rv, hl, hz⟩ := I.tuple hs
    rw [Vals.ref1 r]
    have hi := rv.ints
    have hz' : its.length ≤ sizeLine := by rw [← rv.length]; exact hz
    refine Calls.call_function_entry kind_sorted plain_sorted entry_sorted (args_sorted1 _) ?_
    unfold Builtin.«sorted»
    refine wpAny_bind (m := checkCount "sorted" 1 1 _) (wpAny_pure ?_)
    refine wpAny_bind (collect_tupleX hl ?_ hz')
    refine wpAny_bind (wpAny_newList ?_ hz')
    generalize hh : (s.heap.push (seqObj "list" #[] 0)).update s.heap.objs.size (Obj.mapSeq (· ++ its.toArray)) = h1
    have hsz : h1.objs.size = s.heap.objs.size + 1 := by rw [← hh, Heap.size_update, size_push']
    have hoL : (h1.push (seqObj "list" its.toArray 0)).get? (s.heap.objs.size + 1) = some (seqObj "list" its.toArray 0) := by rw [← hsz]; exact Heap.get?_push_size _ rfl
    show wpAny _ _ _ _ _ { s with heap := h1.push (seqObj "list" its.toArray 0) }
    rw [hsz]
    refine wpAny_bind (wpAny_holding (wpAny_call_entry slot_list_sort ⟨_, hoL, rfl⟩ entry_list_sort (SrtO.list_sort_ord SrtO.swo_int hoL hz' (fun h2 => SrtO.ints_sortable hi h2) fun out k1 k2 => ⟨_, rfl, ?_⟩) (args_list_sort _)))
    refine wpAny_pure ⟨_, rfl, ?_⟩
    obtain ⟨j1, j2, j3⟩ := SrtO.ints_out hi k1 k2
    obtain ⟨ep, he'⟩ := PyProof.Rows.sortedAll_at s.heap its out.toArray
    have hlen : ((out.map SrtO.iv).map V.int).length ≤ sizeLine := by
      rw [List.length_map, j2.length_eq]
      rw [List.length_map] at hz
      exact hz
    have J : Inv X pins σ (upd H (s.heap.objs.size + 1) (.lst ((out.map SrtO.iv).map V.int))) { s with heap := sortedAll s.heap its out.toArray } :=
      I.laid (t' := s.toks) (fun _ _ => PyProof.Rows.sortedAll_old) (Nat.le_succ _) ⟨hlen, out, ep, vals_of_ints j1, he'⟩
    have fin := q _ (I.hok.fresh (Nat.le_succ s.heap.objs.size))
    rw [← sortI_uniq j3 j2] at fin
    subst hh
    exact ⟨.ref _, _, J, rfl, fin⟩
end
end DL
end
section
set_option Elab.async false
set_option linter.all false
set_option maxRecDepth 100000
set_option autoImplicit false
set_option maxHeartbeats 1000000
/-! DL, part c: a small language over data, and what its words mean. -/
namespace DL
open PySem PySem.Spec PyProof.Rows L2

inductive Bi where
  | len | int | repr | list | tuple | all | any | min | max | sorted | isin (t : String)
  deriving DecidableEq
inductive Ik where
  | seq | rng | enu | zip | dic
  deriving DecidableEq
inductive Tg where
  | one (i : Nat)
  | many (is : List Nat)
  deriving DecidableEq
inductive IE where
  | slot (i : Nat)
  | cst (d : D)
  | tup (es : List IE)
  | lst (es : List IE)
  | bin (op : Operator) (a b : IE)
  | neg (a : IE)
  | notE (a : IE)
  | bop (isAnd : Bool) (a b : IE)
  | cmp (op : CmpOp) (a b : IE)
  | chn (op op' : CmpOp) (a b c : IE)
  | ife (t a b : IE)
  | call (f : Nat) (es : List IE)
  | bi1 (b : Bi) (a : IE)
  | bi2 (b : Bi) (a c : IE)
  | rngL (isTup : Bool) (es : List IE)
  | idx (a i : IE)
  | slc (a : IE) (lo hi : Option IE)
  | rev (a : IE)
  | idxS (a b : IE)
  | join (a b : IE)
  | lc (elt : IE) (tg : Tg) (ik : Ik) (its : List IE) (cond : Option IE) (own : List Nat)
  | allG (elt : IE) (i : Nat) (it : IE)
  | lam (k : Nat) (js : List Nat)
  | callS (i : Nat) (es : List IE)
  | dnew (t : Bool) (kv : Option (IE × IE))
  | dcomp (t : Bool) (k v : IE) (i : Nat) (it : IE)
  | dget (i : Nat) (k : IE)
  | din (neg : Bool) (i : Nat) (k : IE)
  | dlen (i : Nat)
inductive IS where
  | set (i : Nat) (e : IE)
  | own (i : Nat) (e : IE)
  | pen (i : Nat) (e : IE)
  | unp (is : List Nat) (e : IE)
  | par (i j : Nat) (oi oj : Bool) (a b : IE)
  | app (i : Nat) (e : IE)
  | sto (i : Nat) (k e : IE)
  | exp (e : IE)
  | iff (t : IE) (a b : List IS)
  | for_ (tg : Tg) (ik : Ik) (its : List IE) (body : List IS)
  | ret (e : IE)
  | nev
  | ndef (i k : Nat) (js : List Nat)
  | whl (t : IE) (body : List IS)
  | dput (i : Nat) (k v : IE)
  | aug (i : Nat) (e : IE)
inductive Fl where
  | nx
  | ret (r : R)

def szL : Nat := 16777216
theorem szL_eq : szL = sizeLine := by rw [sizeLine_eq]; rfl

/-! ### what the words do with data -/
def truD : D → Option Bool
  | .none => some false
  | .bool b => some b
  | .int i => some (i != 0)
  | .str x => if x.length ≤ szL then some ((x.length : Int) != 0) else none
  | .list xs => some (!xs.isEmpty)
  | .tuple xs => some (!xs.isEmpty)
  | .dict _ => none
def binD (op : Operator) (x y : D) : Option R :=
  match op, x, y with
  | .Add, .int i, .int j => some (.d (.int (i + j)))
  | .Add, .str a, .str b => if a.length + b.length ≤ szL then some (.d (.str (a ++ b))) else none
  | .Add, .list xs, .list ys => if xs.length + ys.length ≤ szL then some (.fr (xs ++ ys)) else none
  | .Add, .tuple xs, .tuple ys => if xs.length + ys.length ≤ szL then some (.d (.tuple (xs ++ ys))) else none
  | .Sub, .int i, .int j => some (.d (.int (i - j)))
  | .Mult, .int i, .int j => if i.natAbs.log2 + j.natAbs.log2 < 1000000 then some (.d (.int (i * j))) else none
  | .Mult, .list xs, .int k => if -(2 ^ 63) ≤ k ∧ k < 2 ^ 63 ∧ xs.length * k.toNat ≤ szL then some (.fr (List.replicate k.toNat xs).flatten) else none
  | .Mult, .tuple xs, .int k => if xs ≠ [] ∧ -(2 ^ 60) ≤ k ∧ k ≤ 1000 ∧ xs.length ≤ 1000 then some (.d (.tuple (List.replicate k.toNat xs).flatten)) else none
  | .Mult, .str z, .int k => if 2 ≤ k ∧ k ≤ 1000 ∧ 1 ≤ z.length ∧ z.length ≤ 1000 then some (.d (.str (repS z k.toNat))) else none
  | .Mod, .int i, .int j => if 0 < j then some (.d (.int (i % j))) else none
  | .FloorDiv, .int i, .int j => if 0 < j ∧ j.natAbs.log2 < 9000 then some (.d (.int (i / j))) else none
  | .Pow, .int i, .int j => if 0 ≤ j ∧ j ≤ 1000000 ∧ i.natAbs < 2 ^ 64 then some (.d (.int (i ^ j.toNat))) else none
  | _, _, _ => none
def flatD : D → Bool
  | .none | .bool _ | .int _ | .str _ => true
  | _ => false
def eqD (x y : D) : Option Bool :=
  match x, y with
  | .int i, .int j => some (decide (i = j))
  | .bool i, .bool j => some (decide (i = j))
  | .str i, .str j => some (decide (i = j))
  | .none, .none => some true
  | .none, .int _ | .none, .bool _ | .none, .str _ | .int _, .none | .bool _, .none | .str _, .none => some false
  | .int _, .str _ | .str _, .int _ | .bool _, .str _ | .str _, .bool _ => some false
  | x, y => if SeqAt.shaped x = true ∧ SeqAt.shaped y = true then some (PyData.eqv x y) else none
/-- a text of one sign -/
def sgn (x : Str) : Option Nat :=
  match x.cps.toList with
  | [c] => some c
  | _ => none
theorem sgn_eq {x : Str} {c : Nat} (h : sgn x = some c) : x = ⟨#[c]⟩ := by
  obtain ⟨cps⟩ := x
  unfold sgn at h
  split at h
  · rename_i c' e
    cases h
    congr 1
    exact Array.toList_inj.mp (by rw [e])
  · cases h
def isNone : D → Bool
  | .none => true
  | _ => false
def inD (x y : D) : Option Bool :=
  match y with
  | .str z => (match x with
    | .str a => (sgn a).map fun c => decide (c ∈ z.cps.toList)
    | _ => none)
  | .list ds => if flatD x && ds.all flatD then some (ds.any fun z => PyData.eqv z x)
      else if SeqAt.shaped x = true ∧ SeqAt.shaped (.list ds) = true then some (ds.any fun z => PyData.eqv z x) else none
  | .tuple ds => if flatD x && ds.all flatD then some (ds.any fun z => PyData.eqv z x) else none
  | _ => none
def cmpD (op : CmpOp) (x y : D) : Option Bool :=
  match op with
  | .Eq => eqD x y
  | .NotEq => (eqD x y).map (!·)
  | .In => inD x y
  | .NotIn => (inD x y).map (!·)
  | .Is => match y with
    | .none => some (isNone x)
    | .bool b => (match x with | .bool a => some (decide (a = b)) | _ => none)
    | _ => none
  | .IsNot => match y with
    | .none => some (!isNone x)
    | .bool b => (match x with | .bool a => some (!decide (a = b)) | _ => none)
    | _ => none
  | .Lt => match x, y with | .int i, .int j => some (decide (i < j)) | _, _ => none
  | .LtE => match x, y with | .int i, .int j => some (decide (i ≤ j)) | _, _ => none
  | .Gt => match x, y with | .int i, .int j => some (decide (j < i)) | _, _ => none
  | .GtE => match x, y with | .int i, .int j => some (decide (j ≤ i)) | _, _ => none
def isinD (t : String) : D → Option Bool
  | .none => if t = "int" ∨ t = "bool" ∨ t = "str" ∨ t = "list" ∨ t = "tuple" then some false else none
  | .bool _ => if t = "int" ∨ t = "bool" then some true else if t = "str" ∨ t = "list" ∨ t = "tuple" then some false else none
  | .int _ => if t = "int" then some true else if t = "bool" ∨ t = "str" ∨ t = "list" ∨ t = "tuple" then some false else none
  | .str _ => if t = "str" then some true else if t = "bool" ∨ t = "int" ∨ t = "list" ∨ t = "tuple" then some false else none
  | .list _ => if t = "list" then some true else if t = "bool" ∨ t = "str" ∨ t = "int" ∨ t = "tuple" then some false else none
  | .tuple _ => if t = "tuple" then some true else if t = "bool" ∨ t = "str" ∨ t = "list" ∨ t = "int" then some false else none
  | .dict _ => none
/-- all of them bools -/
def boolsD : List D → Option (List Bool)
  | [] => some []
  | .bool b :: ds => (boolsD ds).map (b :: ·)
  | _ :: _ => none
def strsD : List D → Option (List Str)
  | [] => some []
  | .str b :: ds => (strsD ds).map (b :: ·)
  | _ :: _ => none
def signs (z : Str) : List D := z.cps.toList.map fun c => .str ⟨#[c]⟩
def intsD : List D → Option (List Int)
  | [] => some []
  | .int i :: r => (intsD r).map (i :: ·)
  | _ :: _ => none
def tupsD : List D → Option (List (List Int))
  | [] => some []
  | .tuple ds :: r => (match intsD ds, tupsD r with
    | some ns, some L => some (ns :: L)
    | _, _ => none)
  | _ :: _ => none
def bi1D (b : Bi) (x : D) : Option R :=
  match b, x with
  | .len, .list ds => some (.d (.int ds.length))
  | .len, .tuple ds => some (.d (.int ds.length))
  | .len, .str z => if z.length ≤ szL then some (.d (.int z.length)) else none
  | .int, .int i => some (.d (.int i))
  | .int, .bool k => some (.d (.int (if k then 1 else 0)))
  | .repr, d => if d.showable = true ∧ d.hasDict = false ∧ d.depth ≤ 60 ∧ d.shown.length ≤ szL then some (.d (.str d.shown)) else none
  | .list, .list ds => some (.fr ds)
  | .list, .tuple ds => some (.fr ds)
  | .list, .str z => if z.length ≤ szL then some (.fr (signs z)) else none
  | .tuple, .list ds => some (.d (.tuple ds))
  | .tuple, .tuple ds => some (.d (.tuple ds))
  | .all, .list ds => (boolsD ds).map fun bs => .d (.bool (bs.all id))
  | .any, .list ds => (boolsD ds).map fun bs => .d (.bool (bs.any id))
  | .sorted, .list ds => (match tupsD ds with
    | some ([] :: L) => some (.fr ((sortL ([] :: L)).map tupD))
    | _ => (match intsD ds with
      | some ns => some (.fr ((sortI ns).map PyData.int))
      | none => none))
  | .sorted, .tuple ds => (match intsD ds with
    | some ns => some (.fr ((sortI ns).map PyData.int))
    | none => none)
  | .isin t, d => (isinD t d).map fun b => .d (.bool b)
  | _, _ => none
def bi2D (b : Bi) (x y : D) : Option R :=
  match b, x, y with
  | .min, .int i, .int j => some (.d (.int (if j < i then j else i)))
  | .max, .int i, .int j => some (.d (.int (if j > i then j else i)))
  | _, _, _ => none
def idxD (x y : D) : Option D :=
  match x, y with
  | .list ds, .int i => atI ds i
  | .tuple ds, .int i => atI ds i
  | .str z, .int i => if z.length ≤ szL then (atI z.cps.toList i).map fun c => .str ⟨#[c]⟩ else none
  | _, _ => none
def cutD (xs : List D) (lo hi : Option Int) : List D := (xs.drop (HT.sIx xs.length 0 lo)).take (HT.sIx xs.length xs.length hi - HT.sIx xs.length 0 lo)
def slcD (x : D) (lo hi : Option Int) : Option R :=
  match x with
  | .list ds => some (.fr (cutD ds lo hi))
  | .tuple ds => some (.d (.tuple (cutD ds lo hi)))
  | .str z => if z.length ≤ szL then some (.d (.str (cutS z lo hi))) else none
  | _ => none
def partD : Option D → Option (Option Int)
  | none => some none
  | some (.int i) => some (some i)
  | _ => none
/-- what a walk meets -/
def seqD : D → Option (List D)
  | .list ds => some ds
  | .tuple ds => some ds
  | .str z => some (signs z)
  | _ => none
def rngD : List D → Option (List D)
  | [.int j] => if -(2 ^ 62) ≤ j ∧ j < 2 ^ 62 then some ((List.range j.toNat).map fun (i : Nat) => .int (0 + (i : Int))) else none
  | [.int i, .int j] => if -(2 ^ 62) ≤ i ∧ i < 2 ^ 62 ∧ -(2 ^ 62) ≤ j ∧ j < 2 ^ 62 then some ((List.range (j - i).toNat).map fun (k : Nat) => .int (i + (k : Int))) else none
  | [.int a, .int b, .int (-1)] => if -(2 ^ 60) ≤ a ∧ a < 2 ^ 60 ∧ -(2 ^ 60) ≤ b ∧ b < 2 ^ 60 then some ((List.range (a - b).toNat).map fun (k : Nat) => .int (a + (k : Int) * (-1))) else none
  | _ => none
def enuD (ds : List D) : List D := ds.zipIdx.map fun p => .tuple [.int (p.2 : Int), p.1]
def zipD (xs ys : List D) : List D := (xs.zip ys).map fun p => .tuple [p.1, p.2]

/-! ### dicts -/
def isTupD : D → Bool
  | .tuple _ => true
  | _ => false
/-- a key of this sort of dict -/
def keyD (t : Bool) (k : D) : Option NestedKey := if isTupD k = t then (match nkD k with
  | some n => if n.depth ≤ 8 then some n else none
  | none => none) else none
theorem keyD_of {t : Bool} {k : D} {n : NestedKey} (h : keyD t k = some n) : isTupD k = t ∧ nkD k = some n ∧ n.depth ≤ 8 := by
  unfold keyD at h
  by_cases e : isTupD k = t
  · rw [if_pos e] at h
    split at h
    · rename_i n' e2
      by_cases d : n'.depth ≤ 8
      · rw [if_pos d] at h
        cases h
        exact ⟨e, e2, d⟩
      · rw [if_neg d] at h
        cases h
    · cases h
  · rw [if_neg e] at h
    cases h
def dfind (kvs : List (D × D)) (k : NestedKey) : Option D := match kvs with
  | [] => none
  | (kd, v) :: r => if nkD kd = some k then some v else dfind r k
def dstore (kvs : List (D × D)) (kd : D) (k : NestedKey) (v : D) : List (D × D) :=
  if (dfind kvs k).isSome then kvs.map fun p => if nkD p.1 = some k then (p.1, v) else p else kvs ++ [(kd, v)]
def ddKeys (kvs : List (D × D)) : List D := kvs.map (·.1)
/-! ### the run -/
structure FnD where
  name : Str
  ps : Nat
  n : Nat
  body : List IS
  fr : Option Nat
structure Ev where
  e : IE → G → Option (R × G)
  t : IE → G → Option (Bool × G)
  c : Nat → List Sv → Option (List D) → Option (R × Option (List D))
  ss : List IS → G → Option (Fl × G)
  k : Nat → List Cv → List Sv → Option (List D) → Option (R × Option (List D))
/-- the names whose cells are reached through a name -/
def reachG : Nat → G → Nat → List Nat
  | 0, _, _ => []
  | n + 1, g, j => match g.env[j]? with
    | some (some (.ofn _ js)) => js ++ (js.map (reachG n g)).flatten
    | _ => []
/-- no cell is captured twice -/
def apartG (n : Nat) (g : G) (js : List Nat) : Bool := (js.map (reachG n g)).flatten.all fun i => !decide (i ∈ js)
/-- what a made function gets of a name: its value now -/
def capG : Nat → G → Nat → Option Cv
  | 0, _, _ => none
  | n + 1, g, j => match g.env[j]? with
    | some (some (.d x)) => some (.d x)
    | some (some (.fn k cs)) => some (.fn k cs)
    | some (some (.ofn k js)) => if apartG n g js = true then (js.mapM fun i => capG n g i).map fun cs => .fn k cs else none
    | _ => none
def capsG (n : Nat) (g : G) (js : List Nat) : Option (List Cv) := if apartG n g js = true then js.mapM fun i => capG n g i else none
def fnAt (g : G) (i : Nat) : Option (Nat × List Cv) := match capG 5 g i with
  | some (.fn k cs) => some (k, cs)
  | _ => none
def cvD : Cv → Bool
  | .d _ => true
  | .fn _ _ => false
def cvS : Cv → Sv
  | .d x => .d x
  | .fn k cs => .fn k cs
def evDs (ev : Ev) : List IE → G → Option (List D × G)
  | [], g => some ([], g)
  | e :: es, g => match ev.e e g with
    | none => none
    | some (r, g1) => match keepR r g1 with
      | none => none
      | some (d, g2) => match evDs ev es g2 with
        | none => none
        | some (ds, g3) => some (d :: ds, g3)
def keepS : R → G → Option (Sv × G)
  | .pen, g => some (.pen, g)
  | .scr ns, g => some (.scr ns, g)
  | .fn k cs, g => some (.fn k cs, g)
  | .nfn k cs, g => some (.fn k cs, g)
  | r, g => (keepR r g).map fun (d, g1) => (.d d, g1)
def evAs (ev : Ev) : List IE → G → Option (List Sv × G)
  | [], g => some ([], g)
  | e :: es, g => match ev.e e g with
    | none => none
    | some (r, g1) => match keepS r g1 with
      | none => none
      | some (d, g2) => match evAs ev es g2 with
        | none => none
        | some (ds, g3) => some (d :: ds, g3)
def rd1 (ev : Ev) (a : IE) (g : G) : Option (D × G) :=
  match ev.e a g with
  | none => none
  | some (r, g1) => (rdR r).map fun x => (x, g1)
def rd2 (ev : Ev) (a b : IE) (g : G) : Option (D × D × G) :=
  match ev.e a g with
  | none => none
  | some (r1, g1) => match ev.e b g1 with
    | none => none
    | some (r2, g2) => match rdR r1, rdR r2 with
      | some x, some y => some (x, y, g2)
      | _, _ => none
def evP (ev : Ev) : Option IE → G → Option (Option D × G)
  | none, g => some (none, g)
  | some e, g => (rd1 ev e g).map fun (x, g1) => (some x, g1)
def wipeE (env : List (Option Sv)) : List Nat → List (Option Sv)
  | [] => env
  | v :: vs => (wipeE env vs).set v none
def setD (g : G) (i : Nat) (x : D) : G := { g with env := g.env.set i (some (.d x)) }
def setDs (g : G) : List Nat → List D → Option G
  | [], [] => some g
  | i :: is, d :: ds => setDs (setD g i d) is ds
  | _, _ => none
def asgT (tg : Tg) (x : D) (g : G) : Option G :=
  match tg, x with
  | .one i, x => some (setD g i x)
  | .many is, .tuple ds => setDs g is ds
  | _, _ => none
def kp1 (ev : Ev) (a : IE) (g : G) : Option (D × G) :=
  match ev.e a g with
  | none => none
  | some (r, g1) => keepR r g1
def itsD (ev : Ev) (ik : Ik) (its : List IE) (g : G) : Option (List D × G) :=
  match ik, its with
  | .seq, [e] => match kp1 ev e g with
    | none => none
    | some (x, g1) => (seqD x).map fun ds => (ds, g1)
  | .rng, es => match evDs ev es g with
    | none => none
    | some (ds, g1) => (rngD ds).map fun ds => (ds, g1)
  | .enu, [e] => match kp1 ev e g with
    | some (.list ds, g1) => some (enuD ds, g1)
    | some (.tuple ds, g1) => some (enuD ds, g1)
    | _ => none
  | .zip, [a, b] => match evDs ev [a, b] g with
    | some ([.list xs, .list ys], g1) => some (zipD xs ys, g1)
    | some ([.tuple xs, .tuple ys], g1) => some (zipD xs ys, g1)
    | _ => none
  | .dic, [.slot i] => match g.env[i]? with
    | some (some (.dic _ kvs)) => some (ddKeys kvs, g)
    | _ => none
  | _, _ => none
def evLc (ev : Ev) (elt : IE) (tg : Tg) (cond : Option IE) (own : List Nat) : List D → List D → G → Option (List D × G)
  | [], acc, g => some (acc, { g with env := wipeE g.env own })
  | x :: xs, acc, g => match asgT tg x { g with env := wipeE g.env own } with
    | none => none
    | some g1 => match (match cond with | none => some (true, g1) | some c => ev.t c g1) with
      | none => none
      | some (true, g2) => match ev.e elt g2 with
        | none => none
        | some (r, g3) => match keepR r g3 with
          | none => none
          | some (d, g4) => if acc.length < szL then evLc ev elt tg cond own xs (acc ++ [d]) g4 else none
      | some (false, g2) => evLc ev elt tg cond own xs acc g2
def evDc (ev : Ev) (t : Bool) (k v : IE) (i : Nat) : List D → List (D × D) → G → Option (List (D × D) × G)
  | [], acc, g => some (acc, { g with env := wipeE g.env [i] })
  | x :: xs, acc, g => match evDs ev [k, v] (setD { g with env := wipeE g.env [i] } i x) with
    | some ([kd, vd], g1) => (match keyD t kd with
      | none => none
      | some kk => if acc.length < szL then evDc ev t k v i xs (dstore acc kd kk vd) g1 else none)
    | _ => none
def evFor (ev : Ev) (tg : Tg) (body : List IS) : List D → G → Option (Fl × G)
  | [], g => some (.nx, g)
  | x :: xs, g => match asgT tg x g with
    | none => none
    | some g1 => match ev.ss body g1 with
      | none => none
      | some (.nx, g2) => evFor ev tg body xs g2
      | some (.ret r, g2) => some (.ret r, g2)
def stE (ev : Ev) (ir : IE) (g : G) : Option (R × G) :=
  match ir with
  | .slot i => match g.env[i]? with
    | some (some (.d x)) => some (.d x, g)
    | some (some (.own xs)) => some (.bo i xs, g)
    | some (some (.scr xs)) => some (.scr xs, g)
    | some (some .pen) => if g.pen.isSome then some (.pen, g) else none
    | some (some (.dic t kvs)) => some (.bd i t kvs, g)
    | some (some (.fn k cs)) => some (.fn k cs, g)
    | some (some (.ofn _ _)) => (fnAt g i).map fun (k, cs) => (.fn k cs, g)
    | _ => none
  | .lam k js => (capsG 5 g js).map fun cs => (.nfn k cs, g)
  | .callS i es => match fnAt g i with
    | none => none
    | some _ => match evAs ev es g with
      | none => none
      | some (as, g1) => match fnAt g1 i with
        | none => none
        | some (k, cs) => (ev.k k cs as g1.pen).map fun (r, p) => (r, { g1 with pen := p })
  | .dnew t kv => match kv with
    | none => some (.fd t [], g)
    | some (a, b) => match evDs ev [a, b] g with
      | some ([x, y], g1) => (keyD t x).map fun _ => (.fd t [(x, y)], g1)
      | _ => none
  | .dget i k => match g.env[i]? with
    | some (some (.dic _ _)) => (match rd1 ev k g with
      | none => none
      | some (x, g1) => match g1.env[i]? with
        | some (some (.dic t kvs)) => (match keyD t x with
          | none => none
          | some kk => (dfind kvs kk).map fun v => (.d v, g1))
        | _ => none)
    | _ => none
  | .din neg i k => match rd1 ev k g with
    | none => none
    | some (x, g1) => match g1.env[i]? with
      | some (some (.dic t kvs)) => (keyD t x).map fun kk => (.d (.bool ((dfind kvs kk).isSome != neg)), g1)
      | _ => none
  | .dlen i => match g.env[i]? with
    | some (some (.dic _ kvs)) => some (.d (.int kvs.length), g)
    | _ => none
  | .dcomp t k v i it => match kp1 ev it g with
    | none => none
    | some (x, g1) => match seqD x with
      | none => none
      | some ds => (evDc ev t k v i ds [] g1).map fun (kvs, g2) => (.fd t kvs, g2)
  | .cst d => some (.d d, g)
  | .tup es => (evDs ev es g).map fun (ds, g1) => (.d (.tuple ds), g1)
  | .lst es => (evDs ev es g).map fun (ds, g1) => (.fr ds, g1)
  | .bin op a b => match rd2 ev a b g with
    | none => none
    | some (x, y, g1) => (binD op x y).map fun r => (r, g1)
  | .neg a => match rd1 ev a g with
    | some (.int i, g1) => some (.d (.int (-i)), g1)
    | _ => none
  | .notE a => match rd1 ev a g with
    | some (.bool b, g1) => some (.d (.bool (!b)), g1)
    | _ => none
  | .bop isAnd a b => match rd1 ev a g with
    | some (.bool c, g1) => if c = isAnd then ev.e b g1 else some (.d (.bool c), g1)
    | _ => none
  | .cmp op a b => match rd2 ev a b g with
    | none => none
    | some (x, y, g1) => (cmpD op x y).map fun r => (.d (.bool r), g1)
  | .chn op op' a b c => match rd2 ev a b g with
    | some (x, .int j, g1) => match cmpD op x (.int j) with
      | none => none
      | some false => some (.d (.bool false), g1)
      | some true => match rd1 ev c g1 with
        | none => none
        | some (z, g2) => (cmpD op' (.int j) z).map fun r => (.d (.bool r), g2)
    | _ => none
  | .ife t a b => match ev.t t g with
    | none => none
    | some (true, g1) => ev.e a g1
    | some (false, g1) => ev.e b g1
  | .call f es => match evAs ev es g with
    | none => none
    | some (as, g1) => (ev.c f as g1.pen).map fun (r, p) => (r, { g1 with pen := p })
  | .bi1 b a => match rd1 ev a g with
    | none => none
    | some (x, g1) => (bi1D b x).map fun r => (r, g1)
  | .bi2 b a c => match rd2 ev a c g with
    | none => none
    | some (x, y, g1) => (bi2D b x y).map fun r => (r, g1)
  | .rngL isTup es => match evDs ev es g with
    | none => none
    | some (ds, g1) => match rngD ds with
      | none => none
      | some xs => if xs.length ≤ szL then some (if isTup then .d (.tuple xs) else .fr xs, g1) else none
  | .idx a i => match ev.e a g with
    | none => none
    | some (r, g1) => match rd1 ev i g1 with
      | none => none
      | some (y, g2) => match r with
        | .pen => match g2.pen with
          | none => none
          | some xs => (idxD (.list xs) y).map fun d => (.d d, g2)
        | r => match rdR r with
          | none => none
          | some x => (idxD x y).map fun d => (.d d, g2)
  | .slc a lo hi => match ev.e a g with
    | none => none
    | some (r, g1) => match evP ev lo g1 with
      | none => none
      | some (l, g2) => match evP ev hi g2 with
        | none => none
        | some (h, g3) => match partD l, partD h with
          | some l, some h => match r with
            | .scr ns => some (.fr (cutD (ns.map PyData.int) l h), g3)
            | r => match rdR r with
              | none => none
              | some x => (slcD x l h).map fun r => (r, g3)
          | _, _ => none
  | .rev a => match rd1 ev a g with
    | some (.list xs, g1) => some (.fr xs.reverse, g1)
    | some (.tuple xs, g1) => some (.d (.tuple xs.reverse), g1)
    | _ => none
  | .idxS a b => match rd2 ev a b g with
    | some (.str x, .str y, g1) => (Txt.index0 x y).map fun i => (.d (.int (i : Int)), g1)
    | _ => none
  | .join a b => match rd2 ev a b g with
    | some (.str x, .list ds, g1) => match strsD ds with
      | none => none
      | some ys => if (ys.map (·.length)).sum + ys.length * x.length ≤ szL then some (.d (.str (Txt.join x ys)), g1) else none
    | _ => none
  | .lc elt tg ik its cond own => match itsD ev ik its g with
    | none => none
    | some (ds, g1) => (evLc ev elt tg cond own ds [] g1).map fun (acc, g2) => (.fr acc, g2)
  | .allG y i it => match y, rd1 ev it g with
    | .slot j, some (.str a, g1) => (match g1.env[j]? with
      | some (some (.d (.str z))) => some (.d (.bool (a.cps.toList.all fun ch => decide (ch ∈ z.cps.toList))), g1)
      | _ => none)
    | _, _ => none
def stT (ev : Ev) (ir : IE) (g : G) : Option (Bool × G) :=
  match ir with
  | .bop isAnd a b => match ev.t a g with
    | none => none
    | some (c, g1) => if c = isAnd then ev.t b g1 else some (c, g1)
  | .notE a => (ev.t a g).map fun (c, g1) => (!c, g1)
  | .cmp op a b => match stE ev (.cmp op a b) g with
    | some (.d (.bool r), g1) => some (r, g1)
    | _ => none
  | .chn op op' a b c => match stE ev (.chn op op' a b c) g with
    | some (.d (.bool r), g1) => some (r, g1)
    | _ => none
  | .din neg i k => match stE ev (.din neg i k) g with
    | some (.d (.bool r), g1) => some (r, g1)
    | _ => none
  | .ife _ _ _ => none
  | ir => match rd1 ev ir g with
    | none => none
    | some (x, g1) => (truD x).map fun b => (b, g1)
/-- so many turns at most -/
def whF : Nat := 1000000
def evWh (ev : Ev) (t : IE) (body : List IS) : Nat → G → Option (Fl × G)
  | 0, _ => none
  | n + 1, g => match ev.t t g with
    | none => none
    | some (false, g1) => some (.nx, g1)
    | some (true, g1) => match ev.ss body g1 with
      | none => none
      | some (.nx, g2) => evWh ev t body n g2
      | some (.ret r, g2) => some (.ret r, g2)
def setDic (g : G) (i : Nat) (t : Bool) (kvs : List (D × D)) : G := { g with env := g.env.set i (some (.dic t kvs)) }
def setOwn (g : G) (i : Nat) (xs : List D) : G := { g with env := g.env.set i (some (.own xs)) }
/-- kept as an own list, or as a datum -/
def keepO (o : Bool) (r : R) (g : G) : Option (Sv × G) :=
  match o, r with
  | true, .fr xs => some (.own xs, g)
  | true, .fd t kvs => some (.dic t kvs, g)
  | true, _ => none
  | false, r => (keepR r g).map fun (d, g1) => (.d d, g1)
def stS (ev : Ev) (s : IS) (g : G) : Option (Fl × G) :=
  match s with
  | .set i e => match stE ev e g with
    | none => none
    | some (r, g1) => (keepR r g1).map fun (d, g2) => (.nx, setD g2 i d)
  | .own i e => match stE ev e g with
    | some (.fr xs, g1) => some (.nx, setOwn g1 i xs)
    | some (.fd t kvs, g1) => some (.nx, setDic g1 i t kvs)
    | _ => none
  | .pen i e => match stE ev e g with
    | some (.fr xs, g1) => if g1.pen.isSome then none else some (.nx, { env := g1.env.set i (some .pen), pen := some xs })
    | _ => none
  | .unp is e => match ev.e e g with
    | none => none
    | some (r, g1) => match keepR r g1 with
      | some (.tuple ds, g2) => (setDs g2 is ds).map fun g3 => (.nx, g3)
      | _ => none
  | .par i j oi oj a b => match ev.e a g with
    | none => none
    | some (r1, g0) => match keepO oi r1 g0 with
      | none => none
      | some (s1, g1) => match ev.e b g1 with
        | none => none
        | some (r2, g2) => match keepO oj r2 g2 with
          | none => none
          | some (s2, g3) => some (.nx, { g3 with env := (g3.env.set i (some s1)).set j (some s2) })
  | .app i e => match g.env[i]? with
    | some (some (.own _)) => match ev.e e g with
      | none => none
      | some (r, g1) => match keepR r g1 with
        | none => none
        | some (d, g2) => match g2.env[i]? with
          | some (some (.own xs)) => if xs.length < szL then some (.nx, setOwn g2 i (xs ++ [d])) else none
          | _ => none
    | _ => none
  | .sto i k e => match ev.e e g with
    | none => none
    | some (r, g1) => match keepR r g1 with
      | none => none
      | some (d, g2) => match g2.env[i]? with
        | some (some _) => match rd1 ev k g2 with
          | some (.int j, g3) => match g3.env[i]? with
            | some (some (.own xs)) => (ixN xs.length j).map fun n => (.nx, setOwn g3 i (xs.set n d))
            | some (some .pen) => match g3.pen with
              | none => none
              | some xs => (ixN xs.length j).map fun n => (.nx, { g3 with pen := some (xs.set n d) })
            | _ => none
          | _ => none
        | _ => none
  | .exp e => (ev.e e g).map fun (_, g1) => (.nx, g1)
  | .iff t a b => match ev.t t g with
    | none => none
    | some (true, g1) => ev.ss a g1
    | some (false, g1) => ev.ss b g1
  | .for_ tg ik its body => match itsD ev ik its g with
    | none => none
    | some (ds, g1) => evFor ev tg body ds g1
  | .ret e => (ev.e e g).map fun (r, g1) => (.ret r, g1)
  | .nev => none
  | .aug i e => match g.env[i]? with
    | some (some (.d (.int a))) => (match rd1 ev e g with
      | some (.int b, g1) => some (.nx, setD g1 i (.int (a + b)))
      | _ => none)
    | _ => none
  | .ndef i k js => some (.nx, { g with env := g.env.set i (some (.ofn k js)) })
  | .whl t body => evWh ev t body whF g
  | .dput i k v => match ev.e v g with
    | none => none
    | some (r, g1) => match keepR r g1 with
      | none => none
      | some (d, g2) => match g2.env[i]? with
        | some (some (.dic _ _)) => (match kp1 ev k g2 with
          | none => none
          | some (x, g3) => (match g3.env[i]? with
            | some (some (.dic t kvs)) => (match keyD t x with
              | none => none
              | some kk => if kvs.length < szL then some (.nx, setDic g3 i t (dstore kvs x kk d)) else none)
            | _ => none))
        | _ => none
def stSs (ev : Ev) : List IS → G → Option (Fl × G)
  | [], g => some (.nx, g)
  | s :: ss, g => match stS ev s g with
    | none => none
    | some (.nx, g1) => ev.ss ss g1
    | some (.ret r, g1) => some (.ret r, g1)
/-- what a call gives; the pen is not made within it -/
def retC (p : Option (List D)) (r : R) (g : G) : Option (R × Option (List D)) :=
  if g.pen.isSome = p.isSome then (match r with
    | .bo _ xs => some (.fr xs, g.pen)
    | .bd _ t kvs => some (.fd t kvs, g.pen)
    | .nfn _ _ => none
    | .fn _ _ => none
    | r => some (r, g.pen)) else none
/-- does it end by making a function? -/
def lamLast : List IS → Bool
  | [.ret (.lam _ _)] => true
  | .set _ _ :: r => lamLast r
  | .own _ _ :: r => lamLast r
  | .unp _ _ :: r => lamLast r
  | .exp _ :: r => lamLast r
  | _ => false
/-- no made function -/
def svD : Sv → Bool
  | .fn _ _ => false
  | _ => true
def stC (tb : List FnD) (ev : Ev) (f : Nat) (as : List Sv) (p : Option (List D)) : Option (R × Option (List D)) :=
  match tb[f]? with
  | none => none
  | some fd => if as.length = fd.ps ∧ fd.fr = none then
      match ev.ss fd.body { env := as.map some ++ List.replicate (fd.n - fd.ps) none, pen := p } with
      | none => none
      | some (.nx, g) => retC p (.d .none) g
      | some (.ret (.nfn k cs), g) => if lamLast fd.body = true ∧ cs.all cvD = true ∧ g.pen.isSome = p.isSome then some (.fn k cs, g.pen) else none
      | some (.ret r, g) => retC p r g
    else none
def stK (tb : List FnD) (ev : Ev) (f : Nat) (cs : List Cv) (as : List Sv) (p : Option (List D)) : Option (R × Option (List D)) :=
  match tb[f]? with
  | none => none
  | some fd => if as.length = fd.ps ∧ fd.fr = some cs.length ∧ as.all svD = true then
      match ev.ss fd.body { env := as.map some ++ ((cs.map fun c => some (cvS c)) ++ List.replicate (fd.n - fd.ps - cs.length) none), pen := p } with
      | none => none
      | some (.nx, g) => retC p (.d .none) g
      | some (.ret r, g) => retC p r g
    else none
def ev (tb : List FnD) : Nat → Ev
  | 0 => ⟨fun _ _ => none, fun _ _ => none, fun _ _ _ => none, fun _ _ => none, fun _ _ _ _ => none⟩
  | n + 1 => ⟨stE (ev tb n), stT (ev tb n), stC tb (ev tb n), stSs (ev tb n), stK tb (ev tb n)⟩
end DL
end
section
set_option Elab.async false
set_option linter.all false
set_option maxRecDepth 100000
set_option autoImplicit false
set_option maxHeartbeats 4000000
/-! DL, part d0: dicts whose keys are tuples: their objects. -/
namespace DL
open PySem PySem.Spec PyProof.Rows L2
variable [Tabs]
section
variable {X : Cx} {pins : List (Addr × Obj)} {σ : L2.St} {H : Hp} {s : Shared} {N : AS}
mutual
theorem nk_is (I : Inv X pins σ H s) : ∀ {d : D} {v : V} {u : Value} {k : NestedKey}, DR X.K N H v d → nkD d = some k → RelV v u → NestedIs s.heap k u
  | .none, _, _, _, .non, e, r => by cases e; cases r; exact .none
  | .bool b, _, _, _, .bl _, e, r => by cases e; cases r; exact .bool rfl
  | .int i, _, _, _, .int _, e, r => by cases e; obtain ⟨t, rfl⟩ := r; exact .int i t
  | .str x, _, _, _, .str _, e, r => by cases e; obtain ⟨t, rfl⟩ := r; exact .text x t
  | .list _, _, _, _, _, e, _ => by cases e
  | .dict _, _, _, _, _, e, _ => by cases e
  | .tuple ds, _, u, k, .tup (a := a) h1 h2, e, r => by
    have e' : (nkDs ds).map NestedKey.tup = some k := e
    cases e1 : nkDs ds with
    | none => rw [e1] at e'; cases e'
    | some ks =>
      rw [e1] at e'
      cases e'
      obtain rfl : u = Value.ref a := r
      obtain ⟨its, rv, ⟨o, e2, e3, n, e4⟩, _⟩ := I.tuple h1.sq
      exact .tup e2 e3 e4 (nks_are I h2 e1 (by simpa using rv))
theorem nks_are (I : Inv X pins σ H s) : ∀ {ds : List D} {vs : List V} {us : List Value} {ks : List NestedKey}, DRs X.K N H vs ds → nkDs ds = some ks → Vals vs us → NestedAll s.heap ks us
  | [], _, _, _, .nil, e, r => by cases e; cases r; exact .nil
  | d :: ds, _, _, ks, .cons a b, e, r => by
    cases e1 : nkD d with
    | none => simp only [nkDs, e1] at e; cases e
    | some k =>
      cases e2 : nkDs ds with
      | none => simp only [nkDs, e1, e2] at e; cases e
      | some ks' =>
        simp only [nkDs, e1, e2] at e
        cases e
        cases r with
        | cons r1 r2 => exact .cons (nk_is I a e1 r1) (nks_are I b e2 r2)
end
abbrev EX (e : Ent) (x : NestedKey × Addr × Value) : Prop := e.k = x.1 ∧ e.kv = .ref x.2.1 ∧ RelV e.v x.2.2
theorem ents_is (I : Inv X pins σ H s) : ∀ {es : List Ent} {kvs : List (D × D)} {xs : List (NestedKey × Addr × Value)}, Ents X.K N H es kvs → Paired EX es xs → ∀ x ∈ xs, (nestedKind X.prog X.w).is s.heap x.1 x.2.1
  | [], _, [], _, _, x, hx => by cases hx
  | e :: es, _, y :: xs, .cons a b c d, .cons p q, x, hx => by
    rcases List.mem_cons.mp hx with z | z
    · subst z
      refine ⟨?_, by rw [← p.1]; exact a.2⟩
      have := nk_is I b a.1 (u := .ref x.2.1) (by rw [p.2.1]; exact rfl)
      rw [p.1] at this
      exact this
    · exact ents_is I d q x z
theorem ents_keys : ∀ {es : List Ent} {xs : List (NestedKey × Addr × Value)}, Paired EX es xs → es.map (·.k) = xs.map (·.1)
  | [], [], .nil => rfl
  | _ :: _, _ :: _, .cons q p => by rw [List.map_cons, List.map_cons, ents_keys p, q.1]
theorem dic_of (I : Inv X pins σ H s) {a : Addr} {es : DE} {kvs : List (D × D)} (e : H a = some (DicO X.prog X.w true a es)) (er : EntR X.K N H es kvs) :
    ∃ xs, Paired EX es.es xs ∧ s.heap.DictOfH (nestedKind X.prog X.w) a xs ∧ (a == sysModules) = false ∧ es.es.length ≤ sizeLine := by
  obtain ⟨⟨h0, h1, h2, h3, h4⟩, _, _⟩ := I.hok a _ e
  obtain ⟨xs, p, eps, ep, e2, e3, e4⟩ := (if_pos (rfl : true = true) ▸ h4 : _)
  exact ⟨xs, p, ⟨es.o, eps, ep, h0, e2, e3, e4, ents_is I er p, by rw [← ents_keys p]; exact h3⟩, h1, h2⟩
theorem find_ok {K : Fg} : ∀ {es : List Ent} {kvs : List (D × D)} {xs : List (NestedKey × Addr × Value)}, Ents K N H es kvs → Paired EX es xs → ∀ k, (match dfind kvs k with
    | none => atKey xs k = none
    | some vd => ∃ p v, atKey xs k = some p ∧ RelV v p.2 ∧ DR K N H v vd)
  | [], _, [], .nil, _, k => rfl
  | e :: es, (kd, vd) :: kvs, y :: xs, .cons a b c d, .cons p q, k => by
    have ih := find_ok d q k
    unfold dfind
    by_cases h : nkD kd = some k
    · rw [if_pos h]
      have hk : y.1 = k := by rw [← p.1]; rw [a.1] at h; exact Option.some.inj h
      refine ⟨y.2, e.v, ?_, p.2.2, c⟩
      unfold atKey
      rw [List.find?_cons, decide_eq_true hk]
      rfl
    · rw [if_neg h]
      have hk : ¬ y.1 = k := fun z => h (by rw [a.1, p.1, z])
      have e1 : atKey (y :: xs) k = atKey xs k := by
        unfold atKey
        rw [List.find?_cons, decide_eq_false hk]
      cases e2 : dfind kvs k with
      | none => rw [e2] at ih; show atKey (y :: xs) k = none; rw [e1]; exact ih
      | some v => rw [e2] at ih; obtain ⟨p', v', i1, i2⟩ := ih; exact ⟨p', v', e1.trans i1, i2⟩
/-- an entry is written -/
def storeE (es : List Ent) (k : NestedKey) (kv v : V) : List Ent := if es.any (fun e => decide (e.k = k)) = true then es.map (fun e => if e.k = k then ⟨e.k, e.kv, v⟩ else e) else es ++ [⟨k, kv, v⟩]
theorem storeE_len (es : List Ent) (k : NestedKey) (kv v : V) : (storeE es k kv v).length ≤ es.length + 1 := by
  unfold storeE
  split
  · rw [List.length_map]; omega
  · rw [List.length_append]; exact Nat.le_refl _
theorem any_find {K : Fg} : ∀ {es : List Ent} {kvs : List (D × D)}, Ents K N H es kvs → ∀ k, (dfind kvs k).isSome = es.any fun e => decide (e.k = k)
  | [], _, .nil, k => rfl
  | e :: es, (kd, vd) :: kvs, .cons a b c d, k => by
    have e0 : dfind ((kd, vd) :: kvs) k = if nkD kd = some k then some vd else dfind kvs k := rfl
    rw [List.any_cons, ← any_find d k, e0]
    by_cases h : nkD kd = some k
    · have hk : e.k = k := by rw [a.1] at h; exact Option.some.inj h
      rw [if_pos h, decide_eq_true hk]
      rfl
    · have hk : ¬ e.k = k := fun z => h (by rw [a.1, z])
      rw [if_neg h, decide_eq_false hk, Bool.false_or]
theorem any_at : ∀ {es : List Ent} {xs : List (NestedKey × Addr × Value)}, Paired EX es xs → ∀ k, (atKey xs k).isSome = es.any fun e => decide (e.k = k)
  | [], [], _, k => rfl
  | e :: es, y :: xs, .cons p q, k => by
    rw [List.any_cons, ← any_at q k, p.1]
    unfold atKey
    rw [List.find?_cons]
    cases decide (y.1 = k) <;> rfl
theorem store_ok3 {K : Fg} {es : List Ent} {kvs : List (D × D)} {xs : List (NestedKey × Addr × Value)} {kd vd : D} {k : NestedKey} {b : Addr} {v : V} {u : Value} (er : Ents K N H es kvs) (p : Paired EX es xs) (hk : nkD kd = some k ∧ k.depth ≤ 8) (hb : DR K N H (.ref b) kd) (hv : DR K N H v vd) (ru : RelV v u) :
    Paired EX (storeE es k (.ref b) v) (storedH xs k b u) ∧ Ents K N H (storeE es k (.ref b) v) (dstore kvs kd k vd) := by
  unfold storeE storedH dstore
  rw [any_find er k, any_at p k]
  by_cases h : (es.any fun e => decide (e.k = k)) = true
  · rw [if_pos h, if_pos h, if_pos h]
    constructor
    · clear er h
      induction p with
      | nil => exact .nil
      | cons q _ ih =>
        rename_i e y es' xs' _
        rw [List.map_cons, List.map_cons]
        refine .cons ?_ ih
        unfold putAt
        by_cases hk : e.k = k
        · rw [if_pos hk, if_pos (q.1.symm.trans hk)]
          exact ⟨q.1, q.2.1, ru⟩
        · rw [if_neg hk, if_neg fun z => hk (q.1.trans z)]
          exact q
    · clear p h
      induction er with
      | nil => exact .nil
      | cons a b c _ ih =>
        rename_i e es' kd' vd' kvs' _
        rw [List.map_cons, List.map_cons]
        by_cases hk : e.k = k
        · rw [if_pos hk, if_pos (by rw [a.1, hk])]
          exact .cons a b hv ih
        · rw [if_neg hk, if_neg fun z => hk (by rw [a.1] at z; exact Option.some.inj z)]
          exact .cons a b c ih
  · rw [if_neg h, if_neg h, if_neg h]
    constructor
    · clear er h
      induction p with
      | nil => exact .cons ⟨rfl, rfl, ru⟩ .nil
      | cons q _ ih => exact .cons q ih
    · clear p h
      induction er with
      | nil => exact .cons hk hb hv .nil
      | cons a b c _ ih => exact .cons a b c ih
/-- the dict of these entries -/
theorem dicO_ok {P : Program} {w : World} {H' : Hp} {h' : Heap} {a : Addr} {es : List Ent} {xs : List (NestedKey × Addr × Value)} (hs : (a == sysModules) = false) (hl : es.length ≤ sizeLine) (p : Paired EX es xs) (d : h'.DictOfH (nestedKind P w) a xs) : ∃ o, h'.get? a = some o ∧ ObjOk P w H' h' a (DicO P w true a ⟨o, es⟩) := by
  obtain ⟨o, eps, ep, e1, e2, e3, e4, e5, e6⟩ := d
  refine ⟨o, e1, ⟨e1, hs, hl, by rw [ents_keys p]; exact e6, (if_pos (rfl : true = true)).mpr ⟨xs, p, eps, ep, e2, e3, e4⟩⟩, ⟨o, e1⟩, fun h1 h2 z st => ?_⟩
  obtain ⟨z0, z1, z2, z3, z4⟩ := z
  exact ⟨st _ z0, z1, z2, z3, z4⟩
theorem room_in1 {P : Program} {w : World} {A : Around} (hu : A.units + 9 < cLine) : (nestedKind P w).room A.in1 := by
  show A.in1.units + 8 < cLine
  simp only [Around.in1]
  omega
/-- d[k] = v: the object -/
theorem dic_put {Q : Unit → Shared → Prop} {E : Value → Shared → Prop} {A : Around} {a b : Addr} {es : DE} {kvs : List (D × D)} {kd vd : D} {k : NestedKey} {v : V} {u : Value} (hu : A.units + 9 < cLine) (I : Inv X pins σ H s) (e : H a = some (DicO X.prog X.w true a es)) (er : EntR X.K N H es kvs)
    (hk : nkD kd = some k ∧ k.depth ≤ 8) (hb : DR X.K N H (.ref b) kd) (hv : DR X.K N H v vd) (ru : RelV v u) (hz : es.es.length < szL)
    (h : ∀ s' q, Inv X pins σ (upd H a (DicO X.prog X.w true a q)) s' → EntR X.K N H q (dstore kvs kd k vd) → Q () s') : wpAny (model X.prog X.w) A (setItem (.ref a) (.ref b) u) Q E s := by
  obtain ⟨xs, p, d, hs, hl⟩ := dic_of I e er
  obtain ⟨p2, er2⟩ := store_ok3 er p hk hb hv ru
  have hkey : (nestedKind X.prog X.w).is s.heap k b := ⟨nk_is I hb hk.1 (u := .ref b) rfl, hk.2⟩
  have hl2 : (storeE es.es k (.ref b) v).length ≤ sizeLine := by have := storeE_len es.es k (.ref b) v; rw [← szL_eq]; omega
  refine wpAny_setItem_heap (hsz := by rw [← p.length]; exact hl) (room_in1 hu) hkey d fun h' dd' hs' => ?_
  obtain ⟨o, eo, ok⟩ := dicO_ok (H' := upd H a (DicO X.prog X.w true a ⟨(h'.get? a).getD es.o, storeE es.es k (.ref b) v⟩)) hs hl2 p2 dd'
  rw [eo] at ok
  exact h _ _ (d_write I (by rw [e]; exact True.intro) hs' ⟨o, eo⟩ ok) er2
/-- the same, in a comprehension -/
theorem dic_set {Q : Unit → Shared → Prop} {E : Value → Shared → Prop} {A : Around} {a b : Addr} {es : DE} {kvs : List (D × D)} {kd vd : D} {k : NestedKey} {v : V} {u : Value} (hu : A.units + 9 < cLine) (I : Inv X pins σ H s) (e : H a = some (DicO X.prog X.w true a es)) (er : EntR X.K N H es kvs)
    (hk : nkD kd = some k ∧ k.depth ≤ 8) (hb : DR X.K N H (.ref b) kd) (hv : DR X.K N H v vd) (ru : RelV v u) (hz : es.es.length < szL)
    (h : ∀ s' q, Inv X pins σ (upd H a (DicO X.prog X.w true a q)) s' → EntR X.K N H q (dstore kvs kd k vd) → Q () s') : wpAny (model X.prog X.w) A (dictSet a (.ref b) u) Q E s := by
  obtain ⟨xs, p, d, hs, hl⟩ := dic_of I e er
  obtain ⟨p2, er2⟩ := store_ok3 er p hk hb hv ru
  have hkey : (nestedKind X.prog X.w).is s.heap k b := ⟨nk_is I hb hk.1 (u := .ref b) rfl, hk.2⟩
  have hl2 : (storeE es.es k (.ref b) v).length ≤ sizeLine := by have := storeE_len es.es k (.ref b) v; rw [← szL_eq]; omega
  refine wpAny_dictSet_heap (hsz := by rw [← p.length]; exact hl) (show (nestedKind X.prog X.w).room A from by show A.units + 8 < cLine; omega) hkey d fun h' dd' hs' => ?_
  obtain ⟨o, eo, ok⟩ := dicO_ok (H' := upd H a (DicO X.prog X.w true a ⟨(h'.get? a).getD es.o, storeE es.es k (.ref b) v⟩)) hs hl2 p2 dd'
  rw [eo] at ok
  exact h _ _ (d_write I (by rw [e]; exact True.intro) hs' ⟨o, eo⟩ ok) er2
end
/-- the keys of the dict at d, in their order -/
def Itx (P : Program) (w : World) (d : Addr) (q : DE) : It :=
  ⟨fun i H => H d = some (DicO P w true d q) ∧ i < q.es.length, fun i H x H' => H' = H ∧ ∃ e, q.es[i]? = some e ∧ x = e.kv, fun i H => H d = some (DicO P w true d q) ∧ q.es.length ≤ i⟩
section
variable {X : Cx} {pins : List (Addr × Obj)} {σ : L2.St} {H : Hp} {s : Shared}
theorem dic_raw (I : Inv X pins σ H s) {d : Addr} {q : DE} (e : H d = some (DicO X.prog X.w true d q)) : ∃ (eps : Array DictEntry) (ep : Nat), (d == sysModules) = false ∧ s.heap.get? d = some q.o ∧ q.o.ExactDict ∧ q.o.data = .dict eps ep ∧ eps.size = q.es.length ∧ ∀ (i : Nat) (en : Ent), q.es[i]? = some en → ∃ de, eps[i]? = some de ∧ RelV en.kv de.key := by
  obtain ⟨⟨h0, h1, h2, h3, h4⟩, _, _⟩ := I.hok d _ e
  obtain ⟨xs, p, eps, ep, e2, e3, e4⟩ := (if_pos (rfl : true = true) ▸ h4 : _)
  have hsz : eps.size = q.es.length := by rw [p.length, ← Array.length_toList, e4, List.length_map]
  refine ⟨eps, ep, h1, h0, e2, e3, hsz, fun i en hen => ?_⟩
  have get : ∀ {es : List Ent} {xs : List (NestedKey × Addr × Value)} {i : Nat}, Paired EX es xs → es[i]? = some en → ∃ x, xs[i]? = some x ∧ EX en x := by
    intro es xs i p
    induction p generalizing i with
    | nil => intro h; simp at h
    | cons r _ ih =>
      intro h
      cases i with
      | zero => simp at h; subst h; exact ⟨_, rfl, r⟩
      | succ i => obtain ⟨x, z1, z2⟩ := ih (by simpa using h); exact ⟨x, by simpa using z1, z2⟩
  obtain ⟨x, z1, z2⟩ := get p hen
  have q := entry_at e4 i
  rw [z1] at q
  exact ⟨_, q, by rw [z2.2.1]; exact rfl⟩
theorem turn_dic {P : Program} {w : World} {K : PySem.W.Frag} {tg : Expr} {d : Addr} {q : DE} {eps : Array DictEntry} {ep : Nat} (it : Addr) (hod : q.o.data = .dict eps ep) : Turn P w K tg (Itx P w d q) [it] it (fun i h => h.IsKeyIter it d i q.es.length ep) where
  mem := by simp
  obj := fun i h st b hb => by
    obtain rfl : b = it := by simpa using hb
    obtain ⟨oi, e, _, dd⟩ := st
    exact ⟨oi, e, fun v z => by rw [dd] at z; cases z⟩
  keep := fun i h h' st k => st.at fun oi e => k it (by simp) oi e
  item := by
    intro X hP hw hK hc i pins s σ H E I hf st hg
    subst hP hw hK
    obtain ⟨hd, hi⟩ := hg
    obtain ⟨f0, f1, f2, f3, f4, f5⟩ := hf it (by simp)
    obtain ⟨eps', ep', _, hgd, _, hdt, hsz, ent⟩ := dic_raw I hd
    obtain ⟨rfl, rfl⟩ := dict_ep hod hdt
    obtain ⟨de, hde, rk⟩ := ent i _ (List.getElem?_eq_getElem hi)
    refine next_key_item st hgd hdt hsz hde fun h' st' sb => ?_
    have I1 : Inv X pins σ H { s with heap := h' } := I.turned (t' := s.toks) (fun b ob hb e => (sb.2 b hb).trans e) f0 f1 f3 f4 f5
    obtain ⟨oi, e, c, dd⟩ := id st'
    exact ⟨de.key, rfl, go_of (s := { s with heap := h' }) e c dd (by decide) ⟨_, H, I1, rk, ⟨rfl, _, List.getElem?_eq_getElem hi, rfl⟩, st', fun b hb => (hf b hb).1⟩⟩
  done := by
    intro X hP hw hK hc i pins s σ H E I hf st hg
    subst hP hw hK
    obtain ⟨hd, hi⟩ := hg
    obtain ⟨f0, f1, f2, f3, f4, f5⟩ := hf it (by simp)
    obtain ⟨eps', ep', _, hgd, _, hdt, hsz, ent⟩ := dic_raw I hd
    obtain ⟨rfl, rfl⟩ := dict_ep hod hdt
    exact next_key_end (I.ok.hd hc) st hgd hdt hsz hi fun h' eb => ⟨rfl, I.turned (t' := s.toks) (fun b ob hb e => eb b ob hb e) f0 f1 f3 f4 f5⟩
  self := fun A i s Q E st h => wpAny_pyIter_keyiter st h
def iDic (td : TE) (P : Program) (w : World) : TI := fun σ H R => td σ H fun x H1 => ∃ d q, x = .ref d ∧ H1 d = some (DicO P w true d q) ∧ R (Itx P w d q) H1
theorem pi_dic {tg e : Expr} {td : TE} (he : PE X e td) : PI X tg e (iDic td X.prog X.w) := by
  refine ⟨fun pins s σ H R I h => ?_⟩
  refine thn (he.run pins s σ H _ I h) fun u s1 ⟨x, H1, I1, rx, d, q, ex, hd, qq⟩ => ?_
  subst ex
  obtain rfl : u = Value.ref d := rx
  obtain ⟨eps, ep, hs, hgd, hx, hdt, hsz, _⟩ := dic_raw I1 hd
  refine iter_keys hs hgd hx hdt (pi_one (tk := s1.toks) I1 _ (turn_dic _ hdt) ⟨_, Heap.get?_push_size _ rfl, rfl, ?_⟩ qq)
  rw [hsz] <;> rfl
end
end DL
end
section
set_option Elab.async false
set_option linter.all false
set_option maxRecDepth 100000
set_option autoImplicit false
set_option maxHeartbeats 1000000
/-! DL, part d: the operators by data. -/
namespace DL
open PySem PySem.Spec PyProof.Rows L2
variable [Tabs]

/-- an operator's outcome -/
inductive Res (K : Fg) (N : AS) (H : Hp) : V → Hp → R → Prop
  | same {v : V} {z : D} : DR K N H v z → Res K N H v H (.d z)
  | tup {p : Addr} {vs : List V} {ds : List D} : H p = none → DRs K N H vs ds → Res K N H (.ref p) (upd H p (.tup vs)) (.d (.tuple ds))
  | lst {p : Addr} {vs : List V} {ds : List D} : H p = none → DRs K N H vs ds → Res K N H (.ref p) (upd H p (.lst vs)) (.fr ds)

/-- after reading one -/
structure PostR (F : Fm) (K : Fg) (pa : Addr) (T : AS) (H0 : Hp) (σ : L2.St) (H : Hp) (g : G) (v : V) (H' : Hp) (x : D) (g' : G) : Prop where
  ext : Ext (pm pa g.pen) H H'
  rel : Rel F K pa T H0 σ H' g'
  tr : TR K (Nv pa T σ g') H' v x
  pen : g'.pen.isSome = g.pen.isSome
  sub : ∀ a, Nv pa T σ g' a → Nv pa T σ g a
structure Post2 (F : Fm) (K : Fg) (pa : Addr) (T : AS) (H0 : Hp) (σ : L2.St) (H : Hp) (g : G) (v w : V) (H' : Hp) (x y : D) (g' : G) : Prop where
  ext : Ext (pm pa g.pen) H H'
  rel : Rel F K pa T H0 σ H' g'
  tr : TR K (Nv pa T σ g') H' v x
  tr2 : TR K (Nv pa T σ g') H' w y
  pen : g'.pen.isSome = g.pen.isSome
  sub : ∀ a, Nv pa T σ g' a → Nv pa T σ g a
structure PostA (F : Fm) (K : Fg) (pa : Addr) (T : AS) (H0 : Hp) (σ : L2.St) (H : Hp) (g : G) (vs : List V) (H' : Hp) (ds : List D) (g' : G) : Prop where
  ext : Ext (pm pa g.pen) H H'
  rel : Rel F K pa T H0 σ H' g'
  dr : DRs K (Nv pa T σ g') H' vs ds
  pen : g'.pen.isSome = g.pen.isSome
  sub : ∀ a, Nv pa T σ g' a → Nv pa T σ g a
structure PostN (F : Fm) (K : Fg) (pa : Addr) (T : AS) (H0 : Hp) (σ : L2.St) (H : Hp) (g : G) (H' : Hp) (g' : G) : Prop where
  ext : Ext (pm pa g.pen) H H'
  rel : Rel F K pa T H0 σ H' g'
  pen : g'.pen.isSome = g.pen.isSome
  sub : ∀ a, Nv pa T σ g' a → Nv pa T σ g a
section
variable {F : Fm} {K : Fg} {pa : Addr} {T : AS} {H0 H H1 H2 : Hp} {σ : L2.St} {g g1 g2 : G} {v w : V} {x y z : D} {r r2 : R} {vs : List V} {ds : List D}
theorem Res.post (h : Res K (Nv pa T σ g1) H1 v H2 r) (ext : Ext (pm pa g.pen) H H1) (rel : Rel F K pa T H0 σ H1 g1) (pen : g1.pen.isSome = g.pen.isSome) (sub : ∀ a, Nv pa T σ g1 a → Nv pa T σ g a) :
    PostE F K pa T H0 σ H g v H2 r g1 := by
  cases h with
  | same q => exact ⟨ext, rel, q, pen, sub⟩
  | tup h1 h2 => exact .newT ext rel pen sub h1 h2
  | lst h1 h2 => exact .newL ext rel pen sub h1 h2
theorem PostE.rd (p : PostE F K pa T H0 σ H g v H1 r g1) (h : rdR r = some x) : PostR F K pa T H0 σ H g v H1 x g1 :=
  ⟨p.ext, p.rel.mono (ownT_of T v r), p.read h (.refl _ _) fun _ z => z, p.pen, p.sub⟩
theorem PostE.two (p : PostE F K pa T H0 σ H g v H1 r g1) (q : PostE F K pa (ownT T v r) H0 σ H1 g1 w H2 r2 g2) (h : rdR r = some x) (h2 : rdR r2 = some y) :
    Post2 F K pa T H0 σ H g v w H2 x y g2 := by
  have e : pm pa g1.pen = pm pa g.pen := pm_eq p.pen
  have mo := Nv.mono (pa := pa) (σ := σ) (g := g2) (ownT_of T v r)
  -- what may change behind both may change behind the first
  have sub : ∀ a, Nv pa T σ g2 a → Nv pa T σ g1 a := by
    rintro a (z | z | z)
    · exact .inl z
    · rcases q.sub a (.inr (.inl z)) with q1 | q1 | q1
      · exact .inr (.inl (by rw [← pm_eq q.pen]; exact z))
      · exact .inr (.inl q1)
      · exact .inr (.inl (by rw [← pm_eq q.pen]; exact z))
    · obtain ⟨i, z⟩ := z
      rcases q.sub a (.inr (.inr ⟨i, z⟩)) with q1 | q1 | q1
      · exact absurd (ownT_of _ _ _ _ q1) (q.rel.ownA z).2.2.1
      · exact .inr (.inl q1)
      · exact .inr (.inr q1)
  exact ⟨p.ext.trans (q.ext.mono fun a z => by rw [← e]; exact z), q.rel.mono fun a z => ownT_of _ _ _ _ (ownT_of _ _ _ _ z), p.read h q.ext sub, TR.mono mo (q.read h2 (.refl _ _) fun _ z => z), q.pen.trans p.pen, fun a z => p.sub a (sub a z)⟩
theorem PostK.cons (p : PostK F K pa T H0 σ H g v H1 x g1) (q : PostA F K pa T H0 σ H1 g1 vs H2 ds g2) : PostA F K pa T H0 σ H g (v :: vs) H2 (x :: ds) g2 := by
  have e : pm pa g1.pen = pm pa g.pen := pm_eq p.pen
  refine ⟨p.ext.trans (q.ext.mono fun a z => by rw [← e]; exact z), q.rel, .cons ?_ q.dr, q.pen.trans p.pen, fun a z => p.sub a (q.sub a z)⟩
  exact (DR.ext q.ext (fun a z => .inr (.inl z)) p.dr).mono q.sub
theorem PostN.then (p : PostN F K pa T H0 σ H g H1 g1) (q : PostN F K pa T H0 σ H1 g1 H2 g2) : PostN F K pa T H0 σ H g H2 g2 := by
  have e : pm pa g1.pen = pm pa g.pen := pm_eq p.pen
  exact ⟨p.ext.trans (q.ext.mono fun a z => by rw [← e]; exact z), q.rel, q.pen.trans p.pen, fun a z => p.sub a (q.sub a z)⟩
theorem PostN.thenE (p : PostN F K pa T H0 σ H g H1 g1) (q : PostE F K pa T H0 σ H1 g1 v H2 r g2) : PostE F K pa T H0 σ H g v H2 r g2 := by
  have e : pm pa g1.pen = pm pa g.pen := pm_eq p.pen
  refine ⟨p.ext.trans (q.ext.mono fun a z => by rw [← e]; exact z), q.rel, ?_, q.pen.trans p.pen, fun a z => p.sub a (q.sub a z)⟩
  have := q.vr
  cases r with
  | fr xs => obtain ⟨a, ws, e1, e2, e3⟩ := this; exact ⟨a, ws, e1, p.ext.d _ e2, e3⟩
  | fd t xs => obtain ⟨a, ws, e1, e2, e3⟩ := this; exact ⟨a, ws, e1, p.ext.d _ e2, e3⟩
  | fn k cs => exact this
  | nfn k cs => exact this
  | bd i t xs => exact this
  | d x => exact this
  | bo i xs => exact this
  | scr ns => exact this
  | pen => exact this
theorem PostR.n (p : PostR F K pa T H0 σ H g v H1 x g1) : PostN F K pa T H0 σ H g H1 g1 := ⟨p.ext, p.rel, p.pen, p.sub⟩
theorem Post2.n (p : Post2 F K pa T H0 σ H g v w H1 x y g1) : PostN F K pa T H0 σ H g H1 g1 := ⟨p.ext, p.rel, p.pen, p.sub⟩
theorem PostA.n (p : PostA F K pa T H0 σ H g vs H1 ds g1) : PostN F K pa T H0 σ H g H1 g1 := ⟨p.ext, p.rel, p.pen, p.sub⟩
theorem PostK.n (p : PostK F K pa T H0 σ H g v H1 x g1) : PostN F K pa T H0 σ H g H1 g1 := ⟨p.ext, p.rel, p.pen, p.sub⟩
theorem PostE.n (p : PostE F K pa T H0 σ H g v H1 r g1) : PostN F K pa T H0 σ H g H1 g1 := ⟨p.ext, p.rel.mono (ownT_of T v r), p.pen, p.sub⟩
theorem PostN.res (p : PostN F K pa T H0 σ H g H1 g1) (h : Res K (Nv pa T σ g1) H1 v H2 r) : PostE F K pa T H0 σ H g v H2 r g1 := h.post p.ext p.rel p.pen p.sub
end

/-! ### binary operators -/
section
variable {X : Cx} {N : AS} {H : Hp} {v w : V} {x y : D} {r : R}
theorem bin_ok {op : Operator} (h : binD op x y = some r) : ∃ t : R2, OpR X (binaryOp op) t ∧
    ∀ (N : AS) (H : Hp) (v w : V) (Q : VK), TR X.K N H v x → TR X.K N H w y → (∀ z H', Res X.K N H z H' r → Q z H') → t v w H Q := by
  unfold binD at h
  split at h
  · cases h
    refine ⟨_, op_add, fun N H v w Q hv hw q => ?_⟩
    rw [hv.int, hw.int]
    exact ⟨_, _, rfl, rfl, q _ _ (.same (.int _))⟩
  · split at h
    · rename_i a b hz
      cases h
      refine ⟨_, op_add_str, fun N H v w Q hv hw q => ?_⟩
      rw [hv.str, hw.str]
      exact ⟨_, _, rfl, rfl, by rw [szL_eq] at hz; exact hz, q _ _ (.same (.str _))⟩
    · cases h
  · split at h
    · rename_i a b hz
      cases h
      refine ⟨_, op_cat, fun N H v w Q hv hw q => ?_⟩
      obtain ⟨a, vs, rfl, h1, h2⟩ := hv.list
      obtain ⟨b, ws, rfl, h3, h4⟩ := hw.list
      exact ⟨_, _, _, _, rfl, rfl, h1, h3, by rw [h2.length, h4.length, ← szL_eq]; exact hz, fun p hp => q _ _ (.lst hp (h2.append h4))⟩
    · cases h
  · split at h
    · rename_i a b hz
      cases h
      refine ⟨_, op_catA, fun N H v w Q hv hw q => ?_⟩
      have hvD := hv.tupD
      have hwD := hw.tupD
      obtain ⟨a, vs, rfl, h1, h2⟩ := hv.tuple
      obtain ⟨b, ws, rfl, h3, h4⟩ := hw.tuple
      refine ⟨_, _, _, _, rfl, rfl, h1, h3, by rw [h2.length, h4.length, ← szL_eq]; exact hz, fun e => ?_, fun _ e => ?_, fun _ _ p hp => q _ _ (.tup hp (h2.append h4))⟩
      · subst e
        cases h2
        exact q _ _ (.same hwD)
      · subst e
        cases h4
        rw [List.append_nil] at q
        exact q _ _ (.same hvD)
    · cases h
  · cases h
    refine ⟨_, op_sub, fun N H v w Q hv hw q => ?_⟩
    rw [hv.int, hw.int]
    exact ⟨_, _, rfl, rfl, q _ _ (.same (.int _))⟩
  · split at h
    · rename_i a b hz
      cases h
      refine ⟨_, op_mulW, fun N H v w Q hv hw q => ?_⟩
      rw [hv.int, hw.int]
      exact ⟨_, _, rfl, rfl, hz, q _ _ (.same (.int _))⟩
    · cases h
  · split at h
    · rename_i a b hz
      cases h
      refine ⟨_, op_rep, fun N H v w Q hv hw q => ?_⟩
      obtain ⟨a, vs, rfl, h1, h2⟩ := hv.list
      rw [hw.int]
      exact ⟨_, _, _, rfl, rfl, h1, hz.1, hz.2.1, by rw [h2.length, ← szL_eq]; exact hz.2.2, fun p hp => q _ _ (.lst hp (h2.rep _))⟩
    · cases h
  · split at h
    · rename_i xs k hz
      cases h
      refine ⟨_, op_repA, fun N H v w Q hv hw q => ?_⟩
      have hd := hv.tupD
      obtain ⟨a, vs, rfl, h1, h2⟩ := hv.tuple
      rw [hw.int]
      refine ⟨_, _, _, rfl, rfl, h1, fun e => ?_, hz.2.1, hz.2.2.1, by rw [h2.length]; exact hz.2.2.2, fun e => ?_, fun _ p hp => q _ _ (.tup hp (h2.rep _))⟩
      · subst e
        cases h2
        exact hz.1 rfl
      · subst e
        refine q _ _ (.same ?_)
        have e1 : (List.replicate (1 : Int).toNat xs).flatten = xs := by
          show (List.replicate 1 xs).flatten = xs
          simp
        rw [e1]
        exact hd
    · cases h
  · split at h
    · rename_i z k hz
      cases h
      refine ⟨_, op_mulS, fun N H v w Q hv hw q => ?_⟩
      rw [hv.str, hw.int]
      exact ⟨_, _, rfl, rfl, hz.1, hz.2.1, hz.2.2.1, hz.2.2.2, q _ _ (.same (.str _))⟩
    · cases h
  · split at h
    · rename_i a b hz
      cases h
      refine ⟨_, op_mod, fun N H v w Q hv hw q => ?_⟩
      rw [hv.int, hw.int]
      exact ⟨_, _, rfl, rfl, hz, q _ _ (.same (.int _))⟩
    · cases h
  · split at h
    · rename_i a b hz
      cases h
      refine ⟨_, op_fdivW, fun N H v w Q hv hw q => ?_⟩
      rw [hv.int, hw.int]
      exact ⟨_, _, rfl, rfl, hz, q _ _ (.same (.int _))⟩
    · cases h
  · split at h
    · rename_i a b hz
      cases h
      refine ⟨_, op_pow, fun N H v w Q hv hw q => ?_⟩
      rw [hv.int, hw.int]
      exact ⟨_, _, rfl, rfl, hz, q _ _ (.same (.int _))⟩
    · cases h
  · cases h
end
end DL
end
section
set_option Elab.async false
set_option linter.all false
set_option maxRecDepth 100000
set_option autoImplicit false
set_option maxHeartbeats 2000000
/-! DL, part e: comparisons, truth, built-ins, places and cuts by data. -/
namespace DL
open PySem PySem.Spec PyProof.Rows L2
variable [Tabs]

section
variable {X : Cx}
/-- flat data: the value's own words agree with the datum's -/
def dV : D → V
  | .bool b => .bl b
  | .int i => .int i
  | .str x => .str x
  | _ => .non
theorem flat_v {K : Fg} {N : AS} {H : Hp} {d : D} {v : V} (f : flatD d = true) (q : DR K N H v d) : v = dV d := by
  cases q <;> first | rfl | cases f
theorem flat_vs {K : Fg} {N : AS} {H : Hp} : ∀ {ds : List D} {vs : List V}, ds.all flatD = true → DRs K N H vs ds → vs = ds.map dV
  | [], _, _, .nil => rfl
  | d :: ds, _, f, .cons a b => by
    rw [List.all_cons, Bool.and_eq_true] at f
    rw [List.map_cons, flat_v f.1 a, flat_vs f.2 b]
theorem flatV_dV (d : D) (f : flatD d = true) : flatV (dV d) = true := by
  cases d <;> first | rfl | cases f
theorem eqV_dV {d e : D} (f : flatD d = true) (k : flatD e = true) : eqV (dV d) (dV e) = PyData.eqv d e := by
  cases d <;> first | (cases f; done) | (cases e <;> first | (cases k; done) | (simp only [dV, eqV, PyData.eqv]))
theorem flatV_map {ds : List D} (f : ds.all flatD = true) : (ds.map dV).all flatV = true := by
  rw [List.all_map]
  rw [List.all_eq_true] at f ⊢
  exact fun d hd => flatV_dV d (f d hd)
theorem inV_map {d : D} (f : flatD d = true) : ∀ {ds : List D}, ds.all flatD = true → inV (dV d) (ds.map dV) = ds.any fun z => PyData.eqv z d
  | [], _ => rfl
  | e :: ds, k => by
    rw [List.all_cons, Bool.and_eq_true] at k
    have ih := inV_map f k.2
    unfold inV at ih ⊢
    rw [List.map_cons, List.any_cons, List.any_cons, ih, eqV_dV k.1 f]

theorem eq_ok {x y : D} {b : Bool} (hu : X.A.units + 65 < cLine) (h : eqD x y = some b) : (∃ t : R2, OpR X (compareOp .Eq) t ∧
    ∀ (N : AS) (H : Hp) (v w : V) (Q : VK), TR X.K N H v x → TR X.K N H w y → Q (.bl b) H → t v w H Q) ∧
    (∃ t : R2, OpR X (compareOp .NotEq) t ∧
    ∀ (N : AS) (H : Hp) (v w : V) (Q : VK), TR X.K N H v x → TR X.K N H w y → Q (.bl (!b)) H → t v w H Q) := by
  have hu1 : X.A.units + 64 < cLine := by omega
  unfold eqD at h
  split at h
  all_goals first
    | (split at h
       · rename_i hs
         cases h
         exact ⟨⟨_, op_eqD hu1, fun N H v w Q hv hw q => ⟨_, _, hv.dp, hw.dp, hs.1, hs.2, q⟩⟩, ⟨_, op_neD hu1, fun N H v w Q hv hw q => ⟨_, _, hv.dp, hw.dp, hs.1, hs.2, q⟩⟩⟩
       · cases h)
    | (cases h
       refine ⟨⟨_, op_eq, fun N H v w Q hv hw q => ?_⟩, ⟨_, op_ne, fun N H v w Q hv hw q => ?_⟩⟩ <;>
       (first | rw [hv.int] | rw [hv.bool] | rw [hv.str] | rw [hv.none]) <;> (first | rw [hw.int] | rw [hw.bool] | rw [hw.str] | rw [hw.none]) <;>
       (refine ⟨rfl, ?_⟩; first | (simpa using q) | exact q))
theorem shaped_flat {x : D} : True := trivial
theorem in_ok {x y : D} {b : Bool} (hu : X.A.units + 65 < cLine) (h : inD x y = some b) : (∃ t : R2, OpR X (compareOp .In) t ∧
    ∀ (N : AS) (H : Hp) (v w : V) (Q : VK), TR X.K N H v x → TR X.K N H w y → Q (.bl b) H → t v w H Q) ∧
    (∃ t : R2, OpR X (compareOp .NotIn) t ∧
    ∀ (N : AS) (H : Hp) (v w : V) (Q : VK), TR X.K N H v x → TR X.K N H w y → Q (.bl (!b)) H → t v w H Q) := by
  unfold inD at h
  split at h
  · split at h
    case h_2 => cases h
    rename_i z _ a
    cases e : sgn a with
    | none => rw [e] at h; cases h
    | some c => ?_
    rw [e] at h
    cases h
    rw [sgn_eq e]
    refine ⟨⟨_, op_in_sign, fun N H v w Q hv hw q => ?_⟩, ⟨_, op_notIn_sign, fun N H v w Q hv hw q => ?_⟩⟩ <;>
    (rw [hv.str, hw.str]; exact ⟨_, _, rfl, rfl, q⟩)
  · split at h
    · rename_i hf
      rw [Bool.and_eq_true] at hf
      cases h
      have e : ∀ (N : AS) (H : Hp) (v w : V), TR X.K N H v x → TR X.K N H w (.list _) → ∃ a vs, w = .ref a ∧ SqL X.K H a vs ∧ v = dV x ∧ vs = List.map dV _ := fun N H v w hv hw => by
        obtain ⟨a, vs, e1, e2, e3⟩ := hw.list
        refine ⟨a, vs, e1, .of e2, ?_, flat_vs hf.2 e3⟩
        cases hv with
        | d q => exact flat_v hf.1 q
        | l _ _ => cases hf.1
      refine ⟨⟨_, op_in_seq, fun N H v w Q hv hw q => ?_⟩, ⟨_, op_notIn_seq, fun N H v w Q hv hw q => ?_⟩⟩ <;>
      (obtain ⟨a, vs, rfl, h1, rfl, rfl⟩ := e N H v w hv hw
       refine ⟨_, _, rfl, .inl h1, flatV_dV _ hf.1, flatV_map hf.2, ?_⟩
       rw [inV_map hf.1 hf.2]
       exact q)
    · split at h
      · rename_i hs
        cases h
        exact ⟨⟨_, op_inD hu, fun N H v w Q hv hw q => ⟨_, _, hv.dp, hw.dp, hs.1, hs.2, q⟩⟩, ⟨_, op_notInD hu, fun N H v w Q hv hw q => ⟨_, _, hv.dp, hw.dp, hs.1, hs.2, q⟩⟩⟩
      · cases h
  · split at h
    · rename_i hf
      rw [Bool.and_eq_true] at hf
      cases h
      have e : ∀ (N : AS) (H : Hp) (v w : V), TR X.K N H v x → TR X.K N H w (.tuple _) → ∃ a vs, w = .ref a ∧ SqT X.K H a vs ∧ v = dV x ∧ vs = List.map dV _ := fun N H v w hv hw => by
        obtain ⟨a, vs, e1, e2, e3⟩ := hw.tuple
        refine ⟨a, vs, e1, e2, ?_, flat_vs hf.2 e3⟩
        cases hv with
        | d q => exact flat_v hf.1 q
        | l _ _ => cases hf.1
      refine ⟨⟨_, op_in_seq, fun N H v w Q hv hw q => ?_⟩, ⟨_, op_notIn_seq, fun N H v w Q hv hw q => ?_⟩⟩ <;>
      (obtain ⟨a, vs, rfl, h1, rfl, rfl⟩ := e N H v w hv hw
       refine ⟨_, _, rfl, .inr h1, flatV_dV _ hf.1, flatV_map hf.2, ?_⟩
       rw [inV_map hf.1 hf.2]
       exact q)
    · cases h
  · cases h
theorem non_iff {K : Fg} {N : AS} {H : Hp} {x : D} {v : V} (q : TR K N H v x) : decide (v = .non) = isNone x := by
  cases q with
  | d q => cases q <;> rfl
  | l _ _ => rfl
theorem cmp_ok {op : CmpOp} {x y : D} {b : Bool} (hu : X.A.units + 65 < cLine) (h : cmpD op x y = some b) : ∃ t : R2, OpR X (compareOp op) t ∧
    ∀ (N : AS) (H : Hp) (v w : V) (Q : VK), TR X.K N H v x → TR X.K N H w y → Q (.bl b) H → t v w H Q := by
  cases op <;> simp only [cmpD] at h
  case Eq => exact (eq_ok hu h).1
  case NotEq =>
    cases e : eqD x y with
    | none => rw [e] at h; cases h
    | some c => rw [e] at h; cases h; exact (eq_ok hu e).2
  case In => exact (in_ok hu h).1
  case NotIn =>
    cases e : inD x y with
    | none => rw [e] at h; cases h
    | some c => rw [e] at h; cases h; exact (in_ok hu e).2
  case Lt | LtE | Gt | GtE =>
    split at h
    · cases h
      first
        | refine ⟨_, op_lt, fun N H v w Q hv hw q => ?_⟩
        | refine ⟨_, op_le, fun N H v w Q hv hw q => ?_⟩
        | refine ⟨_, op_gt, fun N H v w Q hv hw q => ?_⟩
        | refine ⟨_, op_ge, fun N H v w Q hv hw q => ?_⟩
      rw [hv.int, hw.int]
      exact ⟨_, _, rfl, rfl, q⟩
    · cases h
  case Is =>
    split at h
    · cases h
      refine ⟨_, op_isN, fun N H v w Q hv hw q => ⟨hw.none, ?_⟩⟩
      rw [non_iff hv]
      exact q
    · split at h
      case h_2 => cases h
      cases h
      refine ⟨_, op_is_bl, fun N H v w Q hv hw q => ?_⟩
      rw [hv.bool, hw.bool]
      exact ⟨_, _, rfl, rfl, q⟩
    · cases h
  case IsNot =>
    split at h
    · cases h
      refine ⟨_, op_notN, fun N H v w Q hv hw q => ⟨hw.none, ?_⟩⟩
      rw [non_iff hv]
      exact q
    · split at h
      case h_2 => cases h
      cases h
      refine ⟨_, op_isnot_bl, fun N H v w Q hv hw q => ?_⟩
      rw [hv.bool, hw.bool]
      exact ⟨_, _, rfl, rfl, q⟩
    · cases h
theorem tru_D {K : Fg} {N : AS} {H : Hp} {x : D} {v : V} {b : Bool} (q : TR K N H v x) (h : truD x = some b) : TruV K v H b := by
  unfold truD at h
  split at h
  · cases h; rw [q.none]; rfl
  · cases h; rw [q.bool]; rfl
  · cases h; rw [q.int]; rfl
  · split at h
    · rename_i hz
      cases h; rw [q.str]; exact ⟨by rw [← szL_eq]; exact hz, rfl⟩
    · cases h
  · cases h
    obtain ⟨a, vs, rfl, h1, h2⟩ := q.list
    refine .inl ⟨vs, .of h1, ?_⟩
    cases h2 <;> rfl
  · cases h
    obtain ⟨a, vs, rfl, h1, h2⟩ := q.tuple
    refine .inr (.inl ⟨vs, h1, ?_⟩)
    cases h2 <;> rfl
  · cases h
theorem bools_D {K : Fg} {N : AS} {H : Hp} : ∀ {ds : List D} {bs : List Bool} {vs : List V}, boolsD ds = some bs → DRs K N H vs ds → vs = bs.map V.bl
  | [], _, _, h, .nil => by cases h; rfl
  | d :: ds, bs, _, h, .cons a b => by
    cases d <;> simp only [boolsD] at h
    all_goals first
      | (cases h; done)
      | (cases e : boolsD ds with
         | none => rw [e] at h; cases h
         | some cs => rw [e] at h; cases h; rw [a.bool_inv, bools_D e b, List.map_cons])
theorem strs_D {K : Fg} {N : AS} {H : Hp} : ∀ {ds : List D} {bs : List Str} {vs : List V}, strsD ds = some bs → DRs K N H vs ds → vs = bs.map V.str
  | [], _, _, h, .nil => by cases h; rfl
  | d :: ds, bs, _, h, .cons a b => by
    cases d <;> simp only [strsD] at h
    all_goals first
      | (cases h; done)
      | (cases e : strsD ds with
         | none => rw [e] at h; cases h
         | some cs => rw [e] at h; cases h; rw [a.str_inv, strs_D e b, List.map_cons])
end
end DL
end
section
set_option Elab.async false
set_option linter.all false
set_option maxRecDepth 100000
set_option autoImplicit false
set_option maxHeartbeats 2000000
/-! DL, part f: built-ins, places, cuts by data. -/
namespace DL
open PySem PySem.Spec PyProof.Rows L2
variable [Tabs]

section
variable {X : Cx}
/-- repr of data -/
theorem call_reprD (hg : X.A.guards = some []) (hu : X.A.units + 65 < cLine) : CallR X (.builtin "repr") (fun xs H Q => ∃ x d, xs = [x] ∧ Dp X.K H x d ∧ d.showable = true ∧ d.hasDict = false ∧ d.depth ≤ 60 ∧ d.shown.length ≤ sizeLine ∧ Q (.str d.shown) H) := by
  intro pins s σ H xs us Q I r h
  obtain ⟨x, d, rfl, dp, hs, hd, hz, hl, q⟩ := h
  obtain ⟨u, rfl, ru⟩ := vals1 r
  obtain ⟨as, rd⟩ := Dp.reads I d x u dp ru
  have fin : ∀ tk t', EP X pins σ Q (.str d.shown t') { s with toks := tk } := fun tk t' => ⟨.str d.shown, H, I.tok tk, ⟨_, rfl⟩, q⟩
  cases dp with
  | non => cases ru; exact PySem.P.repr_of_none (by simpa only [PyData.shown] using fin _ _)
  | bl b => cases ru; exact PySem.P.repr_of_bool (by simpa only [PyData.shown] using fin _ _)
  | int i =>
    obtain ⟨t, rfl⟩ := ru
    exact PySem.P.repr_of_int (by simpa [PyData.showable] using hs) (by simpa only [PyData.shown] using fin _ _)
  | str y =>
    obtain ⟨t, rfl⟩ := ru
    exact PySem.P.repr_of_str (by simpa only [PyData.shown] using fin _ _) (by simpa only [PyData.shown] using hl)
  | lst _ _ =>
    cases ru
    exact repr_of_reads' rd hs (by rw [hd]; exact fun z => by cases z) hg (by omega) (fun _ _ e => e) (fun h' u tk hk => ⟨.str _, H, I.kept hk, ⟨_, rfl⟩, q⟩) hl
  | tup _ _ =>
    cases ru
    exact repr_of_reads' rd hs (by rw [hd]; exact fun z => by cases z) hg (by omega) (fun _ _ e => e) (fun h' u tk hk => ⟨.str _, H, I.kept hk, ⟨_, rfl⟩, q⟩) hl

def biName : Bi → Str
  | .len => "len" | .int => "int" | .repr => "repr" | .list => "list" | .tuple => "tuple" | .all => "all" | .any => "any" | .min => "min" | .max => "max" | .sorted => "sorted" | .isin _ => "isinstance"
/-- the built-in called by the word -/
def biVal : Bi → Value
  | .len => .builtin "len" | .int => .type "int" | .repr => .builtin "repr" | .list => .type "list" | .tuple => .type "tuple" | .all => .builtin "all" | .any => .builtin "any" | .min => .builtin "min" | .max => .builtin "max" | .sorted => .builtin "sorted" | .isin _ => .builtin "isinstance"

theorem intsD_eq : ∀ {ds : List D} {ns : List Int}, intsD ds = some ns → ds = ns.map .int
  | [], ns, h => by cases h; rfl
  | .int i :: r, ns, h => by
    simp only [intsD] at h
    cases e : intsD r with
    | none => rw [e] at h; cases h
    | some ms => rw [e] at h; cases h; rw [intsD_eq e]; rfl
  | .none :: _, _, h => by cases h
  | .bool _ :: _, _, h => by cases h
  | .str _ :: _, _, h => by cases h
  | .list _ :: _, _, h => by cases h
  | .tuple _ :: _, _, h => by cases h
  | .dict _ :: _, _, h => by cases h
theorem ints_RDs {K : Fg} {N : AS} {H : Hp} : ∀ ns : List Int, DRs K N H (ns.map V.int) (ns.map PyData.int)
  | [] => .nil
  | n :: ns => .cons (.int n) (ints_RDs ns)
theorem tupsD_eq : ∀ {ds : List D} {L : List (List Int)}, tupsD ds = some L → ds = L.map tupD
  | [], L, h => by cases h; rfl
  | .tuple es :: r, L, h => by
    simp only [tupsD] at h
    cases e : intsD es with
    | none => rw [e] at h; cases h
    | some ns =>
      cases e2 : tupsD r with
      | none => rw [e, e2] at h; cases h
      | some M => rw [e, e2] at h; cases h; rw [intsD_eq e, tupsD_eq e2]; rfl
  | .int _ :: _, _, h => by cases h
  | .none :: _, _, h => by cases h
  | .bool _ :: _, _, h => by cases h
  | .str _ :: _, _, h => by cases h
  | .list _ :: _, _, h => by cases h
  | .dict _ :: _, _, h => by cases h
theorem signs_D {K : Fg} {N : AS} {H : Hp} : ∀ l : List Nat, DRs K N H (l.map fun c => V.str ⟨#[c]⟩) (l.map fun c => PyData.str ⟨#[c]⟩)
  | [] => .nil
  | _ :: l => .cons (.str _) (signs_D l)
theorem bi1_ok {b : Bi} {x : D} {r : R} (hb : ∀ t, b ≠ .isin t) (hc : X.calm = true) (hg : X.A.guards = some []) (hu : X.A.units + 65 < cLine) (h : bi1D b x = some r) :
    ∃ t : List V → Hp → VK → Prop, CallR X (biVal b) t ∧ ∀ (N : AS) (H : Hp) (v : V) (Q : VK), TR X.K N H v x → (∀ z H', Res X.K N H z H' r → Q z H') → t [v] H Q := by
  cases b
  case isin t => exact absurd rfl (hb t)
  case len =>
    cases x <;> simp only [bi1D] at h
    case str z =>
      split at h
      · rename_i hz
        cases h
        refine ⟨_, call_len_str, fun N H v Q hv q => ?_⟩
        rw [hv.str]
        exact ⟨_, rfl, by rw [← szL_eq]; exact hz, q _ _ (.same (.int _))⟩
      · cases h
    case list ds =>
      cases h
      refine ⟨_, call_len_seq, fun N H v Q hv q => ?_⟩
      obtain ⟨a, vs, rfl, h1, h2⟩ := hv.list
      exact ⟨_, _, rfl, .inl (.of h1), by rw [h2.length]; exact q _ _ (.same (.int _))⟩
    case tuple ds =>
      cases h
      refine ⟨_, call_len_seq, fun N H v Q hv q => ?_⟩
      obtain ⟨a, vs, rfl, h1, h2⟩ := hv.tuple
      exact ⟨_, _, rfl, .inr h1, by rw [h2.length]; exact q _ _ (.same (.int _))⟩
    all_goals cases h
  case int =>
    cases x <;> simp only [bi1D] at h
    case int i =>
      cases h
      exact ⟨_, call_int1, fun N H v Q hv q => by rw [hv.int]; exact .inl ⟨_, rfl, q _ _ (.same (.int _))⟩⟩
    case bool i =>
      cases h
      exact ⟨_, call_int1, fun N H v Q hv q => by rw [hv.bool]; exact .inr ⟨_, rfl, q _ _ (.same (.int _))⟩⟩
    all_goals cases h
  case repr =>
    have h' : (if x.showable = true ∧ x.hasDict = false ∧ x.depth ≤ 60 ∧ x.shown.length ≤ szL then some (R.d (.str x.shown)) else none) = some r := by
      cases x <;> exact h
    split at h'
    · rename_i hz
      cases h'
      exact ⟨_, call_reprD hg hu, fun N H v Q hv q => ⟨_, _, rfl, hv.dp, hz.1, hz.2.1, hz.2.2.1, by rw [← szL_eq]; exact hz.2.2.2, q _ _ (.same (.str _))⟩⟩
    · cases h'
  case list =>
    cases x <;> simp only [bi1D] at h
    case list ds =>
      cases h
      refine ⟨_, call_list_of, fun N H v Q hv q => ?_⟩
      obtain ⟨a, vs, rfl, h1, h2⟩ := hv.list
      exact ⟨_, _, rfl, .inl (.of h1), fun p hp => q _ _ (.lst hp h2)⟩
    case tuple ds =>
      cases h
      refine ⟨_, call_list_of, fun N H v Q hv q => ?_⟩
      obtain ⟨a, vs, rfl, h1, h2⟩ := hv.tuple
      exact ⟨_, _, rfl, .inr h1, fun p hp => q _ _ (.lst hp h2)⟩
    case str z =>
      split at h
      · rename_i hz
        cases h
        refine ⟨_, call_list_txt hc, fun N H v Q hv q => ?_⟩
        rw [hv.str]
        exact ⟨_, rfl, by rw [← szL_eq]; exact hz, fun p hp => q _ _ (.lst hp (signs_D z.cps.toList))⟩
      · cases h
    all_goals cases h
  case tuple =>
    cases x <;> simp only [bi1D] at h
    case list ds =>
      cases h
      refine ⟨_, call_tuple_of, fun N H v Q hv q => ?_⟩
      obtain ⟨a, vs, rfl, h1, h2⟩ := hv.list
      exact ⟨_, _, rfl, .inl ⟨.of h1, fun p hp => q _ _ (.tup hp h2)⟩⟩
    case tuple ds =>
      cases h
      refine ⟨_, call_tuple_of, fun N H v Q hv q => ?_⟩
      have hd := hv.tupD
      obtain ⟨a, vs, rfl, h1, h2⟩ := hv.tuple
      exact ⟨_, _, rfl, .inr ⟨h1, q _ _ (.same hd)⟩⟩
    all_goals cases h
  case all =>
    cases x <;> simp only [bi1D] at h
    case list ds =>
      cases e : boolsD ds with
      | none => rw [e] at h; cases h
      | some bs =>
        rw [e] at h
        cases h
        refine ⟨_, cr_all hc, fun N H v Q hv q => ?_⟩
        obtain ⟨a, vs, rfl, h1, h2⟩ := hv.list
        rw [bools_D e h2] at h1
        exact ⟨_, _, rfl, .of h1, q _ _ (.same (.bl _))⟩
    all_goals cases h
  case any =>
    cases x <;> simp only [bi1D] at h
    case list ds =>
      cases e : boolsD ds with
      | none => rw [e] at h; cases h
      | some bs =>
        rw [e] at h
        cases h
        refine ⟨_, cr_any hc, fun N H v Q hv q => ?_⟩
        obtain ⟨a, vs, rfl, h1, h2⟩ := hv.list
        rw [bools_D e h2] at h1
        exact ⟨_, _, rfl, .of h1, q _ _ (.same (.bl _))⟩
    all_goals cases h
  case sorted =>
    have onI : ∀ {ds : List D} {ns : List Int}, intsD ds = some ns → r = .fr ((sortI ns).map PyData.int) → (∀ N H v, TR X.K N H v x → ∃ a vs, v = .ref a ∧ (SqL X.K H a vs ∨ SqT X.K H a vs) ∧ DRs X.K N H vs ds) → (∃ t : List V → Hp → VK → Prop, CallR X (biVal .sorted) t ∧ ∀ (N : AS) (H : Hp) (v : V) (Q : VK), TR X.K N H v x → (∀ z H', Res X.K N H z H' r → Q z H') → t [v] H Q) := fun {ds ns} e hr hx => by
      subst hr
      refine ⟨_, cr_sortIX, fun N H v Q hv q => ?_⟩
      obtain ⟨a, vs, rfl, h1, h2⟩ := hx N H v hv
      rw [intsD_eq e] at h2
      rw [ints_DRs h2] at h1
      refine ⟨a, ns, rfl, h1, fun p hp => q _ _ (.lst hp ?_)⟩
      exact ints_RDs _
    cases x <;> simp only [bi1D] at h
    case list ds =>
      have rest : (match intsD ds with
        | some ns => some (R.fr ((sortI ns).map PyData.int))
        | none => none) = some r → (∃ t : List V → Hp → VK → Prop, CallR X (biVal .sorted) t ∧ ∀ (N : AS) (H : Hp) (v : V) (Q : VK), TR X.K N H v (.list ds) → (∀ z H', Res X.K N H z H' r → Q z H') → t [v] H Q) := fun h => by
        cases e : intsD ds with
        | none => rw [e] at h; cases h
        | some ns =>
          rw [e] at h
          cases h
          exact onI e rfl fun N H v hv => let ⟨a, vs, e1, h1, h2⟩ := hv.list; ⟨a, vs, e1, .inl (.of h1), h2⟩
      cases e : tupsD ds with
      | none => rw [e] at h; exact rest h
      | some L =>
        cases L with
        | nil => rw [e] at h; exact rest h
        | cons l L =>
          cases l with
          | cons _ _ => rw [e] at h; exact rest h
          | nil =>
            rw [e] at h
            cases h
            refine ⟨_, cr_sortD hu, fun N H v Q hv q => ?_⟩
            obtain ⟨a, vs, rfl, h1, h2⟩ := hv.list
            rw [tupsD_eq e] at h2
            exact ⟨a, N, vs, L, rfl, .of h1, h2, fun ys p hd hp => q _ _ (.lst hp hd)⟩
    case tuple ds =>
      cases e : intsD ds with
      | none => rw [e] at h; cases h
      | some ns =>
        rw [e] at h
        cases h
        exact onI e rfl fun N H v hv => let ⟨a, vs, e1, h1, h2⟩ := hv.tuple; ⟨a, vs, e1, .inr h1, h2⟩
    all_goals cases h
  case min => cases x <;> (simp only [bi1D] at h; cases h)
  case max => cases x <;> (simp only [bi1D] at h; cases h)
/-- isinstance -/
def tyD : D → String
  | .none => "NoneType" | .bool _ => "bool" | .int _ => "int" | .str _ => "str" | .list _ => "list" | .tuple _ => "tuple" | .dict _ => "dict"
theorem isin_kit {t : String} {x : D} {b : Bool} (h : isinD t x = some b) : kitB (tyD x) t = some b := by
  cases x <;> simp only [isinD] at h <;> simp only [tyD]
  all_goals first
    | (cases h; done)
    | (split at h
       · rename_i ht
         cases h
         first
           | (rcases ht with rfl | rfl | rfl | rfl | rfl <;> decide +kernel)
           | (rcases ht with rfl | rfl <;> decide +kernel)
           | (subst ht; decide +kernel)
       · first
         | (cases h; done)
         | (split at h
            · rename_i ht
              cases h
              first
                | (rcases ht with rfl | rfl | rfl | rfl <;> decide +kernel)
                | (rcases ht with rfl | rfl | rfl <;> decide +kernel)
            · cases h))
theorem TR.tyx {K : Fg} {N : AS} {H : Hp} {v : V} {x : D} (q : TR K N H v x) : TyX K H v (.type (tyD x)) := by
  cases x with
  | none => rw [q.none]; exact .base .non
  | bool b => rw [q.bool]; exact .base (.bl b)
  | int b => rw [q.int]; exact .base (.int b)
  | str b => rw [q.str]; exact .base (.str b)
  | list ds => obtain ⟨a, vs, rfl, h1, _⟩ := q.list; exact .base (.lst h1)
  | tuple ds =>
    obtain ⟨a, vs, rfl, h1, _⟩ := q.tuple
    rcases h1 with (h1 | ⟨o, h1⟩) | ⟨o, its, n, h1, h2, _⟩
    · exact .base (.tup h1)
    · exact .fTuple h1
    · exact .kTuple h1 h2
  | dict ds => exact q.dict.elim
theorem bi2_ok {b : Bi} {x y : D} {r : R} (hc : X.calm = true) (h : bi2D b x y = some r) :
    ∃ t : List V → Hp → VK → Prop, CallR X (biVal b) t ∧ ∀ (N : AS) (H : Hp) (v w : V) (Q : VK), TR X.K N H v x → TR X.K N H w y → (∀ z H', Res X.K N H z H' r → Q z H') → t [v, w] H Q := by
  unfold bi2D at h
  split at h
  · cases h
    exact ⟨_, call_min2 hc, fun N H v w Q hv hw q => by rw [hv.int, hw.int]; exact ⟨_, _, rfl, q _ _ (.same (.int _))⟩⟩
  · cases h
    exact ⟨_, call_max2 hc, fun N H v w Q hv hw q => by rw [hv.int, hw.int]; exact ⟨_, _, rfl, q _ _ (.same (.int _))⟩⟩
  · cases h
theorem atI_D {K : Fg} {N : AS} {H : Hp} {ds : List D} {vs : List V} {i : Int} {d : D} (q : DRs K N H vs ds) (h : atI ds i = some d) : ∃ v, atI vs i = some v ∧ DR K N H v d := by
  unfold atI at h ⊢
  rw [q.length]
  cases e : ixN ds.length i with
  | none => rw [e] at h; cases h
  | some j => rw [e] at h; exact q.get h
theorem idx_ok {x y d : D} (h : idxD x y = some d) : ∃ t : R2, IxR X t ∧
    ∀ (N : AS) (H : Hp) (v w : V) (Q : VK), TR X.K N H v x → TR X.K N H w y → (∀ z, DR X.K N H z d → Q z H) → t v w H Q := by
  unfold idxD at h
  split at h
  · refine ⟨_, ix_list, fun N H v w Q hv hw q => ?_⟩
    obtain ⟨a, vs, rfl, h1, h2⟩ := hv.list
    obtain ⟨z, h3, h4⟩ := atI_D h2 h
    rw [hw.int]
    exact ⟨_, _, _, _, rfl, rfl, .of h1, h3, q _ h4⟩
  · refine ⟨_, ix_tup, fun N H v w Q hv hw q => ?_⟩
    obtain ⟨a, vs, rfl, h1, h2⟩ := hv.tuple
    obtain ⟨z, h3, h4⟩ := atI_D h2 h
    rw [hw.int]
    exact ⟨_, _, _, _, rfl, rfl, h1, h3, q _ h4⟩
  · split at h
    · rename_i z i hz
      cases e : atI z.cps.toList i with
      | none => rw [e] at h; cases h
      | some c =>
        rw [e] at h
        cases h
        refine ⟨_, ix_str, fun N H v w Q hv hw q => ?_⟩
        rw [hv.str, hw.int]
        exact ⟨_, _, _, rfl, rfl, by rw [← szL_eq]; exact hz, e, q _ (.str _)⟩
    · cases h
  · cases h
theorem cutV_D {K : Fg} {N : AS} {H : Hp} {ds : List D} {vs : List V} {lo hi : Option Int} (q : DRs K N H vs ds) : DRs K N H (cutV vs lo hi) (cutD ds lo hi) := by
  unfold cutV cutD
  rw [q.length]
  exact (q.drop _).take _
theorem slc_ok {x : D} {lo hi : Option Int} {r : R} (h : slcD x lo hi = some r) : ∃ t, SlR X t ∧
    ∀ (N : AS) (H : Hp) (v : V) (Q : VK), TR X.K N H v x → (∀ z H', Res X.K N H z H' r → Q z H') → t v lo hi H Q := by
  unfold slcD at h
  split at h
  · cases h
    refine ⟨_, sl_list, fun N H v Q hv q => ?_⟩
    obtain ⟨a, vs, rfl, h1, h2⟩ := hv.list
    exact ⟨_, _, rfl, .of h1, fun p hp => q _ _ (.lst hp (cutV_D h2))⟩
  · rename_i ds
    cases h
    refine ⟨_, sl_tupA, fun N H v Q hv q => ?_⟩
    have hd := hv.tupD
    obtain ⟨a, vs, rfl, h1, h2⟩ := hv.tuple
    refine ⟨_, _, rfl, h1, fun e => ?_, fun _ p hp => q _ _ (.tup hp (cutV_D h2))⟩
    refine q _ _ (.same ?_)
    have e2 : cutD ds lo hi = ds := by
      unfold cutD
      rw [← h2.length, e.1, e.2, List.drop_zero, Nat.sub_zero, h2.length, List.take_length]
    rw [e2]
    exact hd
  · split at h
    · rename_i z hz
      cases h
      refine ⟨_, sl_str, fun N H v Q hv q => ?_⟩
      rw [hv.str]
      exact ⟨_, rfl, by rw [← szL_eq]; exact hz, q _ _ (.same (.str _))⟩
    · cases h
  · cases h
end
end DL
end
section
set_option Elab.async false
set_option linter.all false
set_option maxRecDepth 100000
set_option autoImplicit false
set_option maxHeartbeats 2000000
/-! DL, part g: which written text a word of the small language stands for. -/
namespace DL
open PySem PySem.Spec PyProof.Rows L2

def argsOk (a : Arguments) (ps : List Str) : Bool :=
  a.posonlyargs.isEmpty && decide (a.args.map (·.arg) = ps) && a.vararg.isNone && a.kwonlyargs.isEmpty && a.kw_defaults.isEmpty && a.kwarg.isNone && a.defaults.isEmpty
theorem zip_some : ∀ {ps : List Str} {us : List Value}, us.length = ps.length → ∀ n ∈ ps, ((ps.zip us).lookup n).isNone = false
  | [], _, _, _, h => by cases h
  | p :: ps, [], h, _, _ => by simp at h
  | p :: ps, u :: us, h, n, hn => by
    rw [List.zip_cons_cons, List.lookup_cons]
    cases q : n == p with
    | true => rfl
    | false =>
      have : n ∈ ps := by
        rcases List.mem_cons.mp hn with e | e
        · rw [e] at q; simp at q
        · exact e
      exact zip_some (by simpa using h) n this
theorem fmc {α β : Type} {f g : α → Option β} : ∀ {l : List α}, (∀ a ∈ l, f a = g a) → l.filterMap f = l.filterMap g
  | [], _ => rfl
  | a :: l, h => by
    rw [List.filterMap_cons, List.filterMap_cons, h a List.mem_cons_self, fmc fun x hx => h x (List.mem_cons_of_mem _ hx)]
theorem fm_zip : ∀ {ps : List Str} {us : List Value}, ps.Nodup → us.length = ps.length → ps.filterMap (fun n => Option.map (fun x => (n, x)) ((ps.zip us).lookup n)) = ps.zip us
  | [], _, _, _ => by simp
  | p :: ps, [], _, h => by simp at h
  | p :: ps, u :: us, nd, h => by
    obtain ⟨n1, n2⟩ := List.nodup_cons.mp nd
    have ih := fm_zip n2 (us := us) (by simpa using h)
    rw [List.zip_cons_cons, List.filterMap_cons]
    have e : (List.lookup p ((p, u) :: ps.zip us)) = some u := by rw [List.lookup_cons]; simp
    rw [e]
    show (p, u) :: _ = _
    congr 1
    refine (fmc fun n hn => ?_).trans ih
    have : (n == p) = false := by
      cases q : n == p with
      | false => rfl
      | true => exact absurd (by rw [← eq_of_beq q]; exact hn) n1
    rw [List.lookup_cons, this]
theorem bind_plain {C : CodeT} {cl : List (Str × Addr)} {c : Addr} {doc pm ctv : Value} {ps : List Str} {us : List Value} (h : argsOk C.params ps = true) (nd : ps.Nodup) (hl : us.length = ps.length) : bindArgs (C.fd cl c doc pm ctv) ⟨us, []⟩ = pure (ps.zip us) := by
  unfold argsOk at h
  simp only [Bool.and_eq_true, List.isEmpty_iff, Option.isNone_iff_eq_none, decide_eq_true_eq] at h
  obtain ⟨⟨⟨⟨⟨⟨h1, h2⟩, h3⟩, h4⟩, h5⟩, h6⟩, h7⟩ := h
  have hm : ps.filter (fun n => ((ps.zip us).lookup n).isNone) = [] := by
    rw [List.filter_eq_nil_iff]
    intro n hn
    rw [zip_some hl n hn]
    decide
  unfold bindArgs CodeT.fd
  simp only [h1, h2, h3, h4, h5, h6, h7]
  simp [seqItems?, hl, hm]
  rw [fm_zip nd hl]
  rfl
/-- the names, the scope, the qualified name's beginning; is this a def's own block; which code may be made here -/
structure Ct where
  N : List Str
  sc : Scope
  q : Str
  on : Bool
  cb : Nat → CodeT → Bool
  fs : List Nat
def Ct.inn (c : Ct) (sc : Scope) : Ct := ⟨c.N, sc, c.q, false, c.cb, c.fs⟩
/-- the defs and the codes, the constants, the names of the defs with a table, the names by place of what is made, the names of the codes' frames -/
structure Pgm where
  fns : List FnD
  cs : List (Str × D)
  tabs : List (List Str)
  nm : List ((Nat × Nat) × Str)
  kn : List (Nat × List Str)
  wk : List (List Str)
def Pgm.nmf (p : Pgm) (l c : Nat) : Str := (p.nm.lookup (l, c)).getD ""
/-- the names that a code captures, as the maker's slots tell -/
def frOf (c : Ct) (js : List Nat) : List Str := js.map fun j => (c.N[j]?).getD ""
/-- may this block make a function of this name, at this place, with these free names? -/
def mkB (p : Pgm) (c : Ct) (k : Nat) (name : Str) (params : Arguments) (body : FuncBody) (scope : Scope) (pos : Pos) (js : List Nat) : Bool :=
  c.on && decide (c.N ∈ p.tabs) && !decide (c.N ∈ p.wk) && (p.nmf pos.line pos.col == c.q ++ name) && params.defaults.isEmpty && params.kw_defaults.isEmpty &&
  scope.names.all (fun y => !(y.2 == .free) || (decide (y.1 ∈ frOf c js) && ((c.sc.names.lookup y.1 == some .cell) || (c.sc.names.lookup y.1 == some .free)))) &&
  (frOf c js).all (fun y => decide ((y, NameKind.free) ∈ scope.names)) && js.all (fun j => decide (j < c.N.length)) &&
  c.cb k ⟨name, c.q ++ name, params, body, scope, frOf c js⟩

def visB (sc : Scope) (x : Str) : Bool := match sc.names.lookup x with
  | some .local => true | some .cell => true | some .free => true | _ => false
def locB (sc : Scope) (x : Str) : Bool := match sc.names.lookup x with
  | some .local => true | some .cell => true | _ => false
def lclB (sc : Scope) (x : Str) : Bool := match sc.names.lookup x with
  | some .local => true | _ => false
def glB (sc : Scope) (x : Str) : Bool := match sc.names.lookup x with
  | some .globalImplicit => true | _ => false
def okN (x : Str) : Bool := !(x == ("__debug__" : Str)) && !(x == ("__classdict__" : Str)) && !(x == ("__name__" : Str))
def notStar : Expr → Bool
  | .Starred .. => false
  | _ => true
def notSlice : Expr → Bool
  | .Slice .. => false
  | _ => true
def notSet : Expr → Bool
  | .Set .. => false
  | _ => true
def notGen : Expr → Bool
  | .GeneratorExp .. => false
  | .Starred .. => false
  | _ => true
def plainBase : Expr → Bool
  | .Call .. => false
  | _ => true
/-- a test that is its value's truth -/
def plainTest : Expr → Bool
  | .UnaryOp .Not _ _ => false
  | .BoolOp .. => false
  | .IfExp .. => false
  | .Compare .. => false
  | _ => true
def chkEs (f : Expr → IE → Bool) : List Expr → List IE → Bool
  | [], [] => true
  | e :: es, i :: is => notStar e && f e i && chkEs f es is
  | _, _ => false
def chkO (f : Expr → IE → Bool) : Option Expr → Option IE → Bool
  | none, none => true
  | some e, some i => f e i
  | _, _ => false
def isAndB : BoolOp → Bool
  | .And => true
  | .Or => false
def chkC : Const → D → Bool
  | .int i, .int j => i == j
  | .bool a, .bool b => a == b
  | .none, .none => true
  | .str x, .str y => x == y
  | _, _ => false
def scalD : D → Bool
  | .int _ | .str _ | .bool _ | .none => true
  | _ => false
def chkCs (cs : List (Str × D)) (x : Str) (d : D) : Bool := match cs.lookup x, d with
  | some (.int i), .int j => i == j
  | some (.str i), .str j => i == j
  | _, _ => false
/-- targets -/
def chkNm (c : Ct) : List Expr → List Nat → Bool
  | [], [] => true
  | .Name x _ :: es, i :: is => decide (c.N[i]? = some x) && locB c.sc x && chkNm c es is
  | _, _ => false
def chkTg (c : Ct) (e : Expr) (t : Tg) : Bool := match t with
  | .one i => (match e with | .Name x _ => decide (c.N[i]? = some x) && locB c.sc x | _ => false)
  | .many is => (match e with | .Tuple es _ _ => chkNm c es is | _ => false)
def isTup : Expr → Bool
  | .Tuple .. => true
  | _ => false
/-- what is walked -/
def chkIt (f : Expr → IE → Bool) (c : Ct) (tg : Expr) (ik : Ik) (its : List IE) (e : Expr) : Bool :=
  notSet e && (match ik with
  | .seq => (match its with | [i] => f e i | _ => false)
  | .rng => (match e with | .Call (.Name x _) args [] _ => x == ("range" : Str) && glB c.sc x && chkEs f args its | _ => false)
  | .enu => isTup tg && (match e with | .Call (.Name x _) args [] _ => x == ("enumerate" : Str) && glB c.sc x && its.length == 1 && chkEs f args its | _ => false)
  | .zip => isTup tg && (match e with | .Call (.Name x _) args [] _ => x == ("zip" : Str) && glB c.sc x && its.length == 2 && chkEs f args its | _ => false)
  | .dic => (match its, e with | [.slot i], .Name x _ => decide (c.N[i]? = some x) && visB c.sc x && okN x | _, _ => false))
def nmOf (N : List Str) (own : List Nat) : List (Str × Nat) := own.map fun i => ((N[i]?).getD "", i)
/-- the block of a generator expression over one name, with free names that the def holds in cells -/
def genB (sc scope : Scope) (x y : Str) : Bool :=
  scope.kind == .function && !scope.isCoroutine && scope.names.all (fun n => !(n.2 == .cell)) && scope.names.lookup (".0" : Str) == some .local && scope.names.lookup x == some .local &&
  scope.names.all (fun n => !(n.2 == .free) || sc.names.lookup n.1 == some .cell) && scope.names.lookup y == some .free && sc.names.lookup y == some .cell
def isNm : Expr → Bool
  | .Name .. => true
  | _ => false
def chkE (p : Pgm) : Nat → Ct → Expr → IE → Bool
  | 0, _, _, _ => false
  | n + 1, c, e, ir =>
    match e with
    | .BoolOp op vs pos => match vs with
      | [y] => chkE p n c y ir
      | x :: y :: rest => (match ir with
        | .bop isAnd a b => isAndB op == isAnd && chkE p n c x a && chkE p n c (.BoolOp op (y :: rest) pos) b
        | _ => false)
      | _ => false
    | .Name x _ => (match ir with
      | .slot i => decide (c.N[i]? = some x) && visB c.sc x && okN x && (c.on || !decide (i ∈ c.fs))
      | .cst d => chkCs p.cs x d && glB c.sc x && okN x
      | _ => false)
    | .Constant k _ _ => (match ir with | .cst d => chkC k d | _ => false)
    | .Tuple xs _ _ => (match ir with | .tup es => decide (es.length ≤ 1000) && chkEs (chkE p n c) xs es | _ => false)
    | .List xs _ => (match ir with | .lst es => decide (es.length ≤ 1000) && chkEs (chkE p n c) xs es | _ => false)
    | .BinOp x op y _ => (match ir with | .bin op' a b => decide (op = op') && chkE p n c x a && chkE p n c y b | _ => false)
    | .UnaryOp op x _ => (match ir with
      | .neg a => (match op with | .USub => chkE p n c x a | _ => false)
      | .notE a => (match op with | .Not => chkE p n c x a | _ => false)
      | _ => false)
    | .Compare x ops ys _ => (match ir with
      | .din neg i k => (match ops, ys with
        | [o], [.Name z _] => decide (o = if neg = true then .NotIn else .In) && decide (c.N[i]? = some z) && visB c.sc z && okN z && chkE p n c x k
        | _, _ => false)
      | .cmp op a b => (match ops, ys with
        | [o], [y] => decide (o = op) && notSet y && chkE p n c x a && chkE p n c y b
        | _, _ => false)
      | .chn op op' a b d => (match ops, ys with
        | [o, o'], [y, z] => decide (o = op) && decide (o' = op') && notSet y && notSet z && chkE p n c x a && chkE p n c y b && chkE p n c z d
        | _, _ => false)
      | _ => false)
    | .IfExp t x y _ => (match ir with | .ife it a b => chkE p n c t it && chkE p n c x a && chkE p n c y b | _ => false)
    | .Subscript x y _ => (match ir with
      | .idx a i => notSlice y && chkE p n c x a && chkE p n c y i
      | .dget i k => (match x with | .Name z _ => decide (c.N[i]? = some z) && visB c.sc z && okN z && notSlice y && chkE p n c y k | _ => false)
      | .slc a lo hi => (match y with
        | .Slice l h st _ => (match st with | none => chkE p n c x a && chkO (chkE p n c) l lo && chkO (chkE p n c) h hi | some _ => false)
        | _ => false)
      | .rev a => (match y with
        | .Slice none none (some (.UnaryOp .USub (.Constant (.int j) _ _) _)) _ => decide (j = 1) && chkE p n c x a
        | _ => false)
      | _ => false)
    | .Call f args kws pos => (match kws with
      | _ :: _ => false
      | [] => (match f with
        | .Name x _ => (match ir with
          | .callS i es => decide (c.N[i]? = some x) && visB c.sc x && okN x && (c.on || !decide (i ∈ c.fs)) && !args.isEmpty && chkEs (chkE p n c) args es
          | ir => glB c.sc x && okN x && (match ir with
          | .call k es => (match p.fns[k]? with | some fd => fd.name == x && fd.fr.isNone && !args.isEmpty && chkEs (chkE p n c) args es | none => false)
          | .bi1 b a => x == biName b && (match b with
            | .isin t => (match args with
              | [y, .Name z _] => z == Str.ofString t && glB c.sc z && okN z && notStar y && chkE p n c y a && (t == "int" || t == "bool" || t == "str" || t == "list" || t == "tuple")
              | _ => false)
            | _ => chkEs (chkE p n c) args [a])
          | .bi2 b a d => x == biName b && (b == .min || b == .max) && chkEs (chkE p n c) args [a, d]
          | .allG (.slot j) i it => x == ("all" : Str) && decide (c.N ∈ p.tabs) && decide (c.N ∈ p.wk) && (match args with
            | [.GeneratorExp (.Compare (.Name u _) [.In] [.Name y _] _) [⟨.Name sx _, iter, [], 0⟩] scope _] => u == sx && decide (c.N[j]? = some y) && genB c.sc scope sx y && okN sx && okN y && isNm iter && chkE p n c iter it
            | _ => false)
          | .rngL t es => x == (if t then ("tuple" : Str) else "list") && (match args with
            | [.Call (.Name z _) ys [] _] => z == ("range" : Str) && glB c.sc z && okN z && decide (1 ≤ es.length) && decide (es.length ≤ 2) && chkEs (chkE p n c) ys es
            | _ => false)
          | _ => false))
        | .Attribute o m apos => plainBase o && apos.endLine == pos.line && (match ir with
          | .idxS a b => m == ("index" : Str) && chkE p n c o a && chkEs (chkE p n c) args [b]
          | .join a b => m == ("join" : Str) && chkE p n c o a && chkEs (chkE p n c) args [b]
          | _ => false)
        | _ => false))
    | .Dict ks vs _ => (match ir with
      | .dnew t (some (a, b)) => (match ks, vs with
        | [some ke], [ve] => t && notStar ve && chkE p n c ke a && chkE p n c ve b
        | _, _ => false)
      | _ => false)
    | .DictComp kx vx gs scope _ => (match ir with
      | .dcomp t ik iv i ii => (match gs with
        | [⟨tg, it, [], 0⟩] => t && blkC c.N c.sc scope (nmOf c.N [i]) && chkTg (c.inn scope) tg (.one i) && chkIt (chkE p n c) c tg .seq [ii] it && chkE p n (c.inn (relS scope c.sc)) kx ik && chkE p n (c.inn (relS scope c.sc)) vx iv
        | _ => false)
      | _ => false)
    | .Lambda params body scope pos => (match ir with
      | .lam k js => mkB p c k "<lambda>" params (.expr body) scope pos js
      | _ => false)
    | .ListComp elt gs scope _ => (match ir with
      | .lc ielt tg ik its cond own => (match gs with
        | [⟨t, it, ifs, 0⟩] => blkC c.N c.sc scope (nmOf c.N own) && chkTg (c.inn scope) t tg && chkIt (chkE p n c) c t ik its it &&
            (match ifs, cond with
              | [], none => true
              | [q], some iq => chkE p n (c.inn (relS scope c.sc)) q iq
              | _, _ => false) && chkE p n (c.inn (relS scope c.sc)) elt ielt && (match tg with | .one i => own == [i] | .many is => own == is)
        | _ => false)
      | _ => false)
    | _ => false
end DL
end
section
set_option Elab.async false
set_option linter.all false
set_option maxRecDepth 100000
set_option autoImplicit false
set_option maxHeartbeats 2000000
/-! DL, part h: expressions mean what the small language says. -/
namespace DL
open PySem PySem.Spec PyProof.Rows L2
variable [Tabs]

/-! ### the model's own words -/
def wE (X : Cx) (e : Expr) : TE := fun σ H Q => ∀ pins s, Inv X pins σ H s → wpAny (model X.prog X.w) X.A (eval e X.env) (EP X pins σ Q) X.xe s
def wT (X : Cx) (e : Expr) : TT := fun σ H Q => ∀ pins s, Inv X pins σ H s → wpAny (model X.prog X.w) X.A (isTrue e X.env (eval e X.env)) (TP X pins σ Q) X.xe s
def wA (X : Cx) (es : List Expr) : TA := fun σ H Q => ∀ pos pins s, Inv X pins σ H s → wpAny (model X.prog X.w) X.A (spliced (backTo pos (starEach es X.env))) (AP X pins σ Q) X.xe s
def wI (X : Cx) (tg iter : Expr) : TI := fun σ H R => ∀ pins s, Inv X pins σ H s →
  wpAny (model X.prog X.w) X.A (eval iter X.env) (fun v s1 => wpAny (model X.prog X.w) X.A (pyIter v) (PIE X pins σ tg R) X.xe s1) X.xe s
def wS (X : Cx) (st : Stmt) : TS := fun D σ H => ∀ pins s, Inv X pins σ H s → wpAny (model X.prog X.w) X.A (exec st X.env) (SP X pins D) X.xe s
def wSs (X : Cx) (st : List Stmt) : TS := fun D σ H => ∀ pins s, Inv X pins σ H s → wpAny (model X.prog X.w) X.A (execs st X.env) (SP X pins D) X.xe s
section
variable {X : Cx} {e tg : Expr} {es : List Expr} {st : Stmt} {sts : List Stmt} {σ : L2.St} {H : Hp}
theorem pe_w : PE X e (wE X e) := ⟨fun pins s _ _ _ I h => h pins s I⟩
theorem pt_w : PT X e (wT X e) := ⟨fun pins s _ _ _ I h => h pins s I⟩
theorem pa_w : PA X es (wA X es) := ⟨fun pos pins s _ _ _ I h => h pos pins s I⟩
theorem pi_w : PI X tg e (wI X tg e) := ⟨fun pins s _ _ _ I h => h pins s I⟩
theorem ps_w : PS X st (wS X st) := ⟨fun pins s _ _ _ I h => h pins s I⟩
theorem pss_w : PSs X sts (wSs X sts) := ⟨fun pins s _ _ _ I h => h pins s I⟩
theorem wE_of {t : TE} {Q : VK} (p : PE X e t) (h : t σ H Q) : wE X e σ H Q := fun pins s I => p.run pins s σ H Q I h
theorem wT_of {t : TT} {Q : Bool → Hp → Prop} (p : PT X e t) (h : t σ H Q) : wT X e σ H Q := fun pins s I => p.run pins s σ H Q I h
theorem wA_of {t : TA} {Q : List V → Hp → Prop} (p : PA X es t) (h : t σ H Q) : wA X es σ H Q := fun pos pins s I => p.run pos pins s σ H Q I h
theorem wI_of {t : TI} {R : It → Hp → Prop} (p : PI X tg e t) (h : t σ H R) : wI X tg e σ H R := fun pins s I => p.run pins s σ H R I h
theorem wS_of {t : TS} {D : Ends} (p : PS X st t) (h : t D σ H) : wS X st D σ H := fun pins s I => p.run pins s σ H D I h
theorem wSs_of {t : TS} {D : Ends} (p : PSs X sts t) (h : t D σ H) : wSs X sts D σ H := fun pins s I => p.run pins s σ H D I h
end

/-! ### what is to be shown of each word -/
def OKe (F : Fm) (X : Cx) (e : Expr) (f : G → Option (R × G)) : Prop := ∀ g r g', f g = some (r, g') → ∀ pa T H0 σ H (Q : VK), Rel F X.K pa T H0 σ H g →
  (∀ v H', PostE F X.K pa T H0 σ H g v H' r g' → Q v H') → wE X e σ H Q
def OKt (F : Fm) (X : Cx) (e : Expr) (f : G → Option (Bool × G)) : Prop := ∀ g b g', f g = some (b, g') → ∀ pa T H0 σ H (Q : Bool → Hp → Prop), Rel F X.K pa T H0 σ H g →
  (∀ H', PostN F X.K pa T H0 σ H g H' g' → Q b H') → wT X e σ H Q
def OKa (F : Fm) (X : Cx) (es : List Expr) (f : G → Option (List D × G)) : Prop := ∀ g ds g', f g = some (ds, g') → ∀ pa T H0 σ H (Q : List V → Hp → Prop), Rel F X.K pa T H0 σ H g →
  (∀ vs H', PostA F X.K pa T H0 σ H g vs H' ds g' → Q vs H') → wA X es σ H Q
def OKr (F : Fm) (X : Cx) (e : Expr) (f : G → Option (D × G)) : Prop := ∀ g x g', f g = some (x, g') → ∀ pa T H0 σ H (Q : VK), Rel F X.K pa T H0 σ H g →
  (∀ v H', PostR F X.K pa T H0 σ H g v H' x g' → Q v H') → wE X e σ H Q

/-- the built-ins that stand as they are -/
def bnames : List Str := ["len", "int", "repr", "list", "tuple", "all", "any", "min", "max", "isinstance", "range", "enumerate", "zip", "sorted", "set", "bool", "str"]
/-- the state at a call, for the callee: the pen's address, what the caller watches, the pen's content -/
structure ArgR (K : Fg) (pa : Addr) (T : AS) (H : Hp) (p : Option (List D)) (vs : List V) (as : List Sv) : Prop where
  a : Paired (fun v sv => match sv with
    | .d x => DR K (fun a => T a ∨ pm pa p a) H v x
    | .own _ => False
    | .scr ns => ∃ a, v = V.ref a ∧ ScR K (pm pa p) H a ns
    | .pen => v = .ref pa ∧ p.isSome = true
    | .fn k cs => CvR K (fun a => T a ∨ pm pa p a) H (crH (fun a => T a ∨ pm pa p a) H) v (.fn k cs)
    | .ofn _ _ => False
    | .dic _ _ => False) vs as
  pn : ∀ xs, p = some xs → ¬ T pa ∧ ∃ ws, H pa = some (.lst ws) ∧ DRs K (fun a => T a ∨ pm pa p a) H ws xs
  td : ∀ a, T a → ∃ o, H a = some o ∧ TOk a o
  tb : TabsIn H
/-- .. and behind the call -/
structure PostC (P : Program) (w : World) (K : Fg) (pa : Addr) (T : AS) (H : Hp) (p : Option (List D)) (v : V) (H' : Hp) (r : R) (p' : Option (List D)) : Prop where
  ext : Ext (pm pa p) H H'
  pen : p'.isSome = p.isSome
  pn : ∀ xs, p' = some xs → ∃ ws, H' pa = some (.lst ws) ∧ DRs K (fun a => T a ∨ pm pa p' a) H' ws xs
  vr : match r with
    | .d x => DR K (fun a => T a ∨ pm pa p' a) H' v x
    | .fr xs => ∃ q vs, v = .ref q ∧ H q = none ∧ H' q = some (.lst vs) ∧ DRs K (fun a => (T a ∨ pm pa p' a) ∨ a = q) H' vs xs ∧ (∀ ys, p' = some ys → q ≠ pa ∧ ∃ ws, H' pa = some (.lst ws) ∧ DRs K (fun a => (T a ∨ pm pa p' a) ∨ a = q) H' ws ys)
    | .bo _ _ => False
    | .scr ns => ∃ a, v = .ref a ∧ ScR K (pm pa p') H' a ns
    | .pen => v = .ref pa ∧ p'.isSome = true
    | .fn k cs => CvR K (fun a => T a ∨ pm pa p' a) H' (fun a w => crH (fun a => T a ∨ pm pa p' a) H' a w ∧ H a = none) v (.fn k cs)
    | .nfn _ _ => False
    | .fd t kvs => ∃ q es, v = .ref q ∧ H q = none ∧ H' q = some (DicO P w t q es) ∧ EntR K (fun a => (T a ∨ pm pa p' a) ∨ a = q) H' es kvs ∧ (∀ ys, p' = some ys → q ≠ pa ∧ ∃ ws, H' pa = some (.lst ws) ∧ DRs K (fun a => (T a ∨ pm pa p' a) ∨ a = q) H' ws ys)
    | .bd _ _ _ => False
def CallOk (P : Program) (w : World) (K : Fg) (mg : Str → Option Value) (base : Heap) (p : Pgm) (n : Nat) : Prop :=
  ∀ f as pen r pen', (ev p.fns n).c f as pen = some (r, pen') → ∀ fd, p.fns[f]? = some fd →
  ∃ a, mg fd.name = some (.ref a) ∧ PySem.W.keepIn K (.ref a) = true ∧ ∀ (A : Around) (outer : List Env) (s : Shared) (H : Hp) (us : List Value) (vs : List V) (Q : VK) (pa : Addr) (T : AS),
    Room n A → A.guards = some [] → Env0 P w K mg base A outer s H → Vals vs us → ArgR K pa T H pen vs as → (∀ v H', PostC P w K pa T H pen v H' r pen' → Q v H') →
    codeAny (model P w) A (.call (.ref a) ⟨us, []⟩) (CR CX0 outer P w H s Q E0) s

/-- .. of what is made by a code -/
def KallOk (P : Program) (w : World) (K : Fg) (mg : Str → Option Value) (base : Heap) (p : Pgm) (n : Nat) : Prop :=
  ∀ k cs as pen r pen', (ev p.fns n).k k cs as pen = some (r, pen') → ∀ (A : Around) (outer : List Env) (s : Shared) (H : Hp) (us : List Value) (vs : List V) (Q : VK) (pa : Addr) (T : AS) (f : Addr),
    Room n A → A.guards = some [] → Env0 P w K mg base A outer s H → Vals vs us → ArgR K pa T H pen vs as → CvR K (fun a => T a ∨ pm pa pen a) H (crH (fun a => T a ∨ pm pa pen a) H) (.ref f) (.fn k cs) → (∀ v H', PostC P w K pa T H pen v H' r pen' → Q v H') →
    codeAny (model P w) A (.call (.ref f) ⟨us, []⟩) (CR CX0 outer P w H s Q E0) s

structure XO (P : Program) (w : World) (K : Fg) (mg : Str → Option Value) (base : Heap) (p : Pgm) (n : Nat) (F : Fm) (X : Cx) (c : Ct) : Prop where
  eP : X.prog = P
  ew : X.w = w
  eK : X.K = K
  em : X.mg = mg
  eb : X.base = base
  room : Room n X.A
  gd : X.A.guards = some []
  calm : X.calm = true
  nd : X.N.Nodup
  cN : c.N = X.N
  cs : c.sc = X.env.scope
  kf : X.env.scope.kind = .function
  xe : X.xe = fun _ _ => False
  cd : c.N ∈ p.tabs → ∃ cc P, X.env.code = .ref cc ∧ (cc, P) ∈ Tabs.l ∧ Tabs.weak P = decide (c.N ∈ p.wk)
  fN : F.N = X.N
  fP : F.P = P
  fw : F.w = w
  fon : F.on = c.on
  ffs : F.fs = c.fs
  fcl : c.on = true → F.cl = X.env.cells ∧ X.env.qual = c.q ∧ F.sc = X.env.scope ∧ ∀ x, X.fn x = true
  ccb : ∀ k C, c.cb k C = true → Tabs.chk k C
  nms : ∀ l cc, Tabs.nm l cc = p.nmf l cc
  tbs : ∀ q, q ∈ Tabs.l → GxR.TabB base mg q.1 q.2
  bl : ∀ x, x ∈ bnames → mg x = none
  cst : ∀ x d, p.cs.lookup x = some d → scalD d = true → ∃ u, mg x = some u ∧ RelV (dV d) u

structure Snd (P : Program) (w : World) (K : Fg) (mg : Str → Option Value) (base : Heap) (p : Pgm) (n : Nat) : Prop where
  e : ∀ F X c e ir m, XO P w K mg base p n F X c → chkE p m c e ir = true → OKe F X e ((ev p.fns n).e ir)
  t : ∀ F X c e ir m, XO P w K mg base p n F X c → chkE p m c e ir = true → OKt F X e ((ev p.fns n).t ir)
  c : CallOk P w K mg base p n
  k : KallOk P w K mg base p n

section
variable {P : Program} {w : World} {K : Fg} {mg : Str → Option Value} {base : Heap} {p : Pgm} {n m : Nat} {F : Fm} {X : Cx} {c : Ct} {e x y z : Expr} {es : List Expr} {E : Ev} {a b d : IE} {is : List IE} {pos : Pos}
theorem XO.le {n' : Nat} (O : XO P w K mg base p n F X c) (h : n' ≤ n) : XO P w K mg base p n' F X c :=
  { O with room := O.room.mono h }
theorem XO.hu (O : XO P w K mg base p n F X c) : X.A.units + 65 < cLine := by have := O.room.un; omega
theorem XO.bln (O : XO P w K mg base p n F X c) {s : Str} (h : s ∈ bnames) : X.mg s = none := by rw [O.em]; exact O.bl s h
theorem vis_of {sc : Scope} {s : Str} (h : visB sc s = true) : Vis sc s := by
  unfold visB at h
  unfold Vis
  split at h
  · exact .inl ‹_›
  · exact .inr (.inl ‹_›)
  · exact .inr (.inr ‹_›)
  · cases h
theorem loc_of {sc : Scope} {s : Str} (h : locB sc s = true) : L2.Loc sc s := by
  unfold locB at h
  unfold L2.Loc
  split at h
  · exact .inl ‹_›
  · exact .inr ‹_›
  · cases h
theorem gl_of (O : XO P w K mg base p n F X c) {s : Str} (h : glB c.sc s = true) : Gl X s := by
  unfold glB at h
  rw [O.cs] at h
  split at h
  · rename_i q
    exact q
  · cases h
theorem okN_of {s : Str} (h : okN s = true) : (s == ("__debug__" : Str)) = false ∧ (s == ("__classdict__" : Str)) = false ∧ s ≠ "__name__" := by
  unfold okN at h
  simp only [Bool.and_eq_true, Bool.not_eq_true'] at h
  exact ⟨h.1.1, h.1.2, by intro q; rw [q] at h; simp at h⟩
theorem star_cons {env : Env} (h : notStar e = true) : starEach (e :: es) env = (false, eval e env) :: starEach es env := by
  cases e <;> first | rfl | cases h
theorem star_any {env : Env} : ∀ {es : List Expr} {is : List IE} {f : Expr → IE → Bool}, chkEs f es is = true → (backTo pos (starEach es env)).any (·.1) = false
  | [], [], _, _ => rfl
  | e :: es, i :: is, f, h => by
    simp only [chkEs, Bool.and_eq_true] at h
    rw [star_cons h.1.1]
    have ih := star_any (env := env) h.2
    unfold backTo at ih ⊢
    rw [List.map_cons, List.any_cons, ih]
    rfl
  | [], _ :: _, _, h => by cases h
  | _ :: _, [], _, h => by cases h
theorem chkEs_len : ∀ {es : List Expr} {is : List IE} {f : Expr → IE → Bool}, chkEs f es is = true → es.length = is.length
  | [], [], _, _ => rfl
  | e :: es, i :: is, f, h => by
    simp only [chkEs, Bool.and_eq_true] at h
    rw [List.length_cons, List.length_cons, chkEs_len h.2]
  | [], _ :: _, _, h => by cases h
  | _ :: _, [], _, h => by cases h

/-! ### reading one, reading two, arguments -/
theorem OKe.rd (h : OKe F X e (E.e a)) : OKr F X e (rd1 E a) := by
  intro g x g' q pa T H0 σ H Q r k
  unfold rd1 at q
  cases e1 : E.e a g with
  | none => rw [e1] at q; cases q
  | some rg =>
    obtain ⟨r1, g1⟩ := rg
    rw [e1] at q
    cases e2 : rdR r1 with
    | none => simp only [e2] at q; cases q
    | some y =>
      simp only [e2, Option.map_some, Option.some.injEq, Prod.mk.injEq] at q
      obtain ⟨rfl, rfl⟩ := q
      exact h g r1 g1 e1 pa T H0 σ H Q r fun v H' p => k v H' (p.rd e2)
/-- the two sides, then what follows -/
theorem OKe.two (h : OKe F X x (E.e a)) (h2 : OKe F X y (E.e b)) {g g' : G} {u v : D} (q : rd2 E a b g = some (u, v, g')) {pa : Addr} {T : AS} {H0 H : Hp} {σ : L2.St} {Q : V → V → Hp → Prop} (r : Rel F X.K pa T H0 σ H g)
    (k : ∀ v1 v2 H', Post2 F X.K pa T H0 σ H g v1 v2 H' u v g' → Q v1 v2 H') : wE X x σ H fun v1 H1 => wE X y σ H1 fun v2 H2 => Q v1 v2 H2 := by
  unfold rd2 at q
  cases e1 : E.e a g with
  | none => rw [e1] at q; cases q
  | some rg =>
    obtain ⟨r1, g1⟩ := rg
    simp only [e1] at q
    cases e2 : E.e b g1 with
    | none => simp only [e2] at q; cases q
    | some rg2 =>
      obtain ⟨r2, g2⟩ := rg2
      simp only [e2] at q
      split at q
      · rename_i u' v' e3 e4
        cases q
        refine h g r1 g1 e1 pa T H0 σ H _ r fun v1 H1 p1 => ?_
        refine h2 g1 r2 _ e2 pa _ H0 σ H1 _ p1.rel fun v2 H2 p2 => ?_
        exact k v1 v2 H2 (p1.two p2 e3 e4)
      · cases q
theorem ok_ds (h : ∀ e i, chkE p m c e i = true → OKe F X e (E.e i)) : ∀ {es : List Expr} {is : List IE}, chkEs (chkE p m c) es is = true → OKa F X es (evDs E is)
  | [], [], _ => by
    intro g ds g' q pa T H0 σ H Q r k
    cases q
    exact wA_of pa_nil (k [] H ⟨.refl _ _, r, .nil, rfl, fun _ z => z⟩)
  | e :: es, i :: is, hc => by
    simp only [chkEs, Bool.and_eq_true] at hc
    intro g ds g' q pa T H0 σ H Q r k
    unfold evDs at q
    cases e1 : E.e i g with
    | none => simp only [e1] at q; cases q
    | some rg =>
      obtain ⟨r1, g1⟩ := rg
      simp only [e1] at q
      cases e2 : keepR r1 g1 with
      | none => simp only [e2] at q; cases q
      | some dg =>
        obtain ⟨d, g2⟩ := dg
        simp only [e2] at q
        cases e3 : evDs E is g2 with
        | none => simp only [e3] at q; cases q
        | some dg3 =>
          obtain ⟨ds3, g3⟩ := dg3
          simp only [e3] at q
          cases q
          refine wA_of (pa_cons pe_w pa_w (star_cons hc.1.1)) ?_
          refine h e i hc.1.2 g r1 g1 e1 pa T H0 σ H _ r fun v H1 p1 => ?_
          have p2 := p1.keep e2
          refine ok_ds h hc.2 g2 ds3 _ e3 pa T H0 σ H1 _ p2.rel fun vs H2 p3 => ?_
          exact k _ _ (p2.cons p3)
  | [], _ :: _, hc => by cases hc
  | _ :: _, [], hc => by cases hc
end
end DL
end
section
set_option Elab.async false
set_option linter.all false
set_option maxRecDepth 100000
set_option autoImplicit false
set_option maxHeartbeats 2000000
/-! DL, part i0: a frame's own cells, told to those that it calls. -/
namespace DL
open PySem PySem.Spec PyProof.Rows L2
variable [Tabs]

open Classical in
/-- the cells are tracked, too -/
noncomputable def ovl (cl : List (Str × Addr)) (h : Heap) (H : Hp) : Hp := fun b => if isCl cl b then (h.get? b).map (CellO b) else H b
open Classical in
/-- .. and not any more -/
noncomputable def unov (cl : List (Str × Addr)) (H : Hp) : Hp := fun b => if isCl cl b then none else H b
section
variable {cl : List (Str × Addr)} {h h' : Heap} {H H' : Hp} {b : Addr}
theorem ovl_cell (c : isCl cl b) : ovl cl h H b = (h.get? b).map (CellO b) := if_pos c
theorem ovl_no (c : ¬ isCl cl b) : ovl cl h H b = H b := if_neg c
theorem unov_cell (c : isCl cl b) : unov cl H b = none := if_pos c
theorem unov_no (c : ¬ isCl cl b) : unov cl H b = H b := if_neg c
/-- what a frame's own cells are: nobody tracks them -/
structure Cls (cl : List (Str × Addr)) (h : Heap) (H : Hp) : Prop where
  no : ∀ b, isCl cl b → H b = none
  ob : ∀ b, isCl cl b → ∃ (o : Obj) (v : Option Value), h.get? b = some o ∧ o.data = .cell v
theorem ovl_some (C : Cls cl h H) {o : HO} (e : H b = some o) : ovl cl h H b = some o := by
  rw [ovl_no fun c => by rw [C.no b c] at e; cases e]
  exact e
theorem ovl_none (C : Cls cl h H) (e : ovl cl h H b = none) : H b = none := by
  by_cases c : isCl cl b
  · exact C.no b c
  · rw [ovl_no c] at e
    exact e
theorem cellO_ok {P : Program} {w : World} {H : Hp} {h : Heap} {a : Addr} {o : Obj} (e : h.get? a = some o) : ObjOk P w H h a (CellO a o) := ⟨e, ⟨o, e⟩, fun _ _ z st => st _ z⟩
theorem ovl_hok {P : Program} {w : World} (C : Cls cl h H) (x : HOk P w H h) : HOk P w (ovl cl h H) h := fun b u e => by
  by_cases c : isCl cl b
  · rw [ovl_cell c] at e
    obtain ⟨o, v, e1, _⟩ := C.ob b c
    rw [e1] at e
    cases e
    exact cellO_ok e1
  · rw [ovl_no c] at e
    exact (x b u e).stay (fun _ _ _ q => q) (fun d q => ovl_some C q) fun d xs q => ovl_some C q
theorem tab_ovl (C : Cls cl h H) {q : Addr} (t : TabOk H q) : TabOk (ovl cl h H) q := by
  obtain ⟨ps, e, _⟩ := t.1
  exact t.of ((ovl_some C e).trans e.symm) fun c φ z => ovl_some C z
/-- the cells of a frame, as its invariant knows them -/
theorem cls_of {X : Cx} {pins : List (Addr × Obj)} {σ : L2.St} {s : Shared} (I : Inv X pins σ H s) (hc : cl = X.env.cells ∨ cl = []) : Cls cl s.heap H := by
  rcases hc with rfl | rfl
  · exact ⟨fun b ⟨y, e⟩ => I.freeC y b e, fun b ⟨y, e⟩ => let ⟨v, o, h1, h2⟩ := I.cell y b e; ⟨o, v, h1, h2⟩⟩
  · exact ⟨fun b ⟨y, e⟩ => by simp at e, fun b ⟨y, e⟩ => by simp at e⟩
theorem ovl_env0 {X : Cx} {pins : List (Addr × Obj)} {σ : L2.St} {s : Shared} (I : Inv X pins σ H s) (hc : (cl = X.env.cells ∧ ∀ x, X.fn x = true) ∨ cl = []) : Env0 X.prog X.w X.K X.mg X.base X.A X.stack s (ovl cl s.heap H) := by
  have C : Cls cl s.heap H := cls_of I (hc.imp (·.1) id)
  have new : ∀ b, isCl cl b → X.s_0.heap.objs.size ≤ b ∧ b ≠ X.env.locals := fun b ⟨y, e⟩ => by
    rcases hc with ⟨rfl, hf⟩ | rfl
    · exact ⟨I.ok.cab y b (hf y) e, I.cne y b e⟩
    · simp at e
  have e := I.env0
  refine ⟨e.frames, e.mod, fun b o q => ⟨(e.bs b o q).1, ?_⟩, e.bsz, e.funs, fun b hb => ?_, ovl_hok C e.hok, e.bare⟩
  · rw [ovl_no fun c => ?_]
    · exact (e.bs b o q).2
    · exact absurd (Nat.lt_of_lt_of_le (Heap.lt_size q) (Nat.le_trans I.ok.bsz (new b c).1)) (Nat.lt_irrefl _)
  · rw [ovl_no fun c => ?_]
    · exact e.frf b hb
    · rcases List.mem_cons.mp (I.stkSub b hb) with z | z
      · exact (new b c).2 z
      · obtain ⟨_, o, ho, _⟩ := I.ok.funs.mem z
        exact absurd (Nat.lt_of_lt_of_le (Heap.lt_size ho) (new b c).1) (Nat.lt_irrefl _)
/-- what a call leaves, without the cells -/
theorem unov_un {fs : List Addr} (C : Cls cl h H) (un : Un fs [] (ovl cl h H) H' h h') (nf : ∀ b, isCl cl b → b ∉ fs) (kc : ∀ b o, isCl cl b → h.get? b = some o → h'.get? b = some o) : Un fs [] H (unov cl H') h h' where
  keep := fun b o e n f x => by
    by_cases c : isCl cl b
    · exact kc b o c e
    · exact un.keep b o e (by rw [ovl_no c]; exact n) f x
  slot := fun b o e n f x => by
    have c : ¬ isCl cl b := fun c => nf b c f
    exact un.slot b o e (by rw [ovl_no c]; exact n) f x
  free := fun b o e n x => by
    by_cases c : isCl cl b
    · exact unov_cell c
    · rw [unov_no c]
      exact un.free b o e (by rw [ovl_no c]; exact n) x
  there := fun b o e x => un.there b o e x
  tups := fun b xs e => by
    have c : ¬ isCl cl b := fun c => by rw [C.no b c] at e; cases e
    rw [unov_no c]
    exact un.tups b xs (ovl_some C e)
  frzs := fun b o u e => by
    have c : ¬ isCl cl b := fun c => by rw [C.no b c] at e; cases e
    rw [unov_no c]
    exact un.frzs b o u (ovl_some C e)
  tbls := fun b ps e => by
    have c : ¬ isCl cl b := fun c => by rw [C.no b c] at e; cases e
    rw [unov_no c]
    exact un.tbls b ps (ovl_some C e)
/-- at the call's end the cells are told as before -/
structure Kept (cl : List (Str × Addr)) (h : Heap) (H' : Hp) : Prop where
  k : ∀ b o, isCl cl b → h.get? b = some o → H' b = some (CellO b o)
theorem unov_hok {P : Program} {w : World} (C : Cls cl h H) (Kp : Kept cl h H') (x : HOk P w H' h') : HOk P w (unov cl H') h' := fun b u e => by
  have c : ¬ isCl cl b := fun c => by rw [unov_cell c] at e; cases e
  rw [unov_no c] at e
  have cel : ∀ d, isCl cl d → ∃ o, H' d = some (CellO d o) := fun d c => by
    obtain ⟨o, v, e1, _⟩ := C.ob d c
    exact ⟨o, Kp.k d o c e1⟩
  refine (x b u e).stay (fun _ _ _ q => q) (fun d q => ?_) fun d xs q => ?_
  · rw [unov_no fun c => ?_]
    · exact q
    · obtain ⟨o, z⟩ := cel d c
      rw [z] at q
      cases q
  · rw [unov_no fun c => ?_]
    · exact q
    · obtain ⟨o, z⟩ := cel d c
      rw [z] at q
      cases q
theorem unov_some {P : Program} {w : World} (C : Cls cl h H) (Kp : Kept cl h H') {o : HO} (e : H' b = some o) (ne : ∀ ob, o ≠ CellO b ob) : unov cl H' b = some o := by
  rw [unov_no fun c => ?_]
  · exact e
  · obtain ⟨ob, v, e1, _⟩ := C.ob b c
    rw [Kp.k b ob c e1] at e
    exact ne ob (Option.some.inj e).symm
/-- an object that is known not to be a cell -/
theorem not_cl {P : Program} {w : World} (C : Cls cl h H) (Kp : Kept cl h H') (x : HOk P w H' h') {o : Obj} (e : h'.get? b = some o) (ne : ∀ v, o.data ≠ .cell v) : ¬ isCl cl b := fun c => by
  obtain ⟨ob, v, e1, e2⟩ := C.ob b c
  obtain ⟨e3, _, _⟩ := x b _ (Kp.k b ob c e1)
  have e3 : h'.get? b = some ob := e3
  rw [e] at e3
  cases e3
  exact ne _ e2
theorem fnV_not {P : Program} {w : World} (C : Cls cl h H) (Kp : Kept cl h H') (x : HOk P w H' h') {ct : CodeT} {cl' : List (Str × Addr)} {c : Addr} (e : H' b = some (FnV b ct cl' c)) : ¬ isCl cl b := by
  obtain ⟨⟨od, sl, doc, pm, ctv, z⟩, _, _⟩ := x b _ e
  exact not_cl C Kp x z fun v q => by cases q
theorem codeO_not {P : Program} {w : World} (C : Cls cl h H) (Kp : Kept cl h H') (x : HOk P w H' h') {q : Str} (e : H' b = some (LamX.CodeO b q)) : ¬ isCl cl b := by
  obtain ⟨⟨oc, vs, t, z, z2, _⟩, _, _⟩ := x b _ e
  exact not_cl C Kp x z fun v q => by rw [z2] at q; cases q
theorem tab_unov {P : Program} {w : World} (C : Cls cl h H) (Kp : Kept cl h H') (x : HOk P w H' h') {q : Addr} (t : TabOk H' q) : TabOk (unov cl H') q := by
  obtain ⟨⟨ps, e, tr⟩, n⟩ := t
  have e' : unov cl H' q = some (.tbl ps) := unov_some (P := P) (w := w) C Kp e fun _ => nofun
  refine ⟨⟨ps, e', tr⟩, fun wk => ?_⟩
  obtain ⟨ps', h1, h2, h3⟩ := n wk
  rw [e] at h1
  cases h1
  refine ⟨ps, e', h2, fun pos cv hc => ?_⟩
  obtain ⟨c, e1, e2⟩ := h3 pos cv hc
  exact ⟨c, e1, (unov_no (codeO_not C Kp x e2)).trans e2⟩
end
end DL
end
section
set_option Elab.async false
set_option linter.all false
set_option maxRecDepth 100000
set_option autoImplicit false
set_option maxHeartbeats 2000000
/-! DL, part i: calls. -/
namespace DL
open PySem PySem.Spec PyProof.Rows L2
variable [Tabs]

/-- an argument as the callee has it -/
def SvA (F : Fm) (K : Fg) (pa : Addr) (σ : L2.St) (N : AS) (H : Hp) (pen : Option (List D)) (v : V) (sv : Sv) : Prop := match sv with
  | .d x => DR K N H v x
  | .own _ => False
  | .scr ns => ∃ a, v = V.ref a ∧ ScR K (pm pa pen) H a ns
  | .pen => v = .ref pa ∧ pen.isSome = true
  | .fn k cs => CvR K N H (crV F N σ H) v (.fn k cs)
  | .ofn _ _ => False
  | .dic _ _ => False
structure PostS (F : Fm) (K : Fg) (pa : Addr) (T : AS) (H0 : Hp) (σ : L2.St) (H : Hp) (g : G) (vs : List V) (H' : Hp) (as : List Sv) (g' : G) : Prop where
  ext : Ext (pm pa g.pen) H H'
  rel : Rel F K pa T H0 σ H' g'
  ar : Paired (SvA F K pa σ (Nv pa T σ g') H' g'.pen) vs as
  pen : g'.pen.isSome = g.pen.isSome
  sub : ∀ a, Nv pa T σ g' a → Nv pa T σ g a
def OKs (F : Fm) (X : Cx) (es : List Expr) (f : G → Option (List Sv × G)) : Prop := ∀ g ds g', f g = some (ds, g') → ∀ pa T H0 σ H (Q : List V → Hp → Prop), Rel F X.K pa T H0 σ H g →
  (∀ vs H', PostS F X.K pa T H0 σ H g vs H' ds g' → Q vs H') → wA X es σ H Q
section
variable {F : Fm} {K : Fg} {pa : Addr} {T : AS} {H0 H H1 H2 : Hp} {σ : L2.St} {g g1 g2 : G} {v : V} {vs : List V} {sv : Sv} {as : List Sv} {r : R} {p' : Option (List D)}
theorem SvA.move {N N' : AS} {p1 p2 : Option (List D)} (h : SvA F K pa σ N H p1 v sv) (e : Ext (pm pa p1) H H1) (hm : ∀ a, pm pa p1 a → N a) (hs : ∀ a, N' a → N a) (hp : p2.isSome = p1.isSome) : SvA F K pa σ N' H1 p2 v sv := by
  cases sv with
  | d x => exact (DR.ext e hm h).mono hs
  | own xs => exact h
  | scr ns =>
    obtain ⟨a, h1, h2⟩ := h
    exact ⟨a, h1, by rw [pm_eq hp]; exact h2.ext e⟩
  | pen => exact ⟨h.1, by rw [hp]; exact h.2⟩
  | fn k cs => exact (CvR.ext e hm (fun a w z => z.ext e hm) h).mono hs fun a w z => z.mono hs
  | ofn _ _ => exact h
  | dic _ _ => exact h
theorem PostE.keepS (p : PostE F K pa T H0 σ H g v H1 r g1) (h : keepS r g1 = some (sv, g2)) : Ext (pm pa g.pen) H H1 ∧ Rel F K pa T H0 σ H1 g2 ∧ SvA F K pa σ (Nv pa T σ g2) H1 g2.pen v sv ∧ g2.pen.isSome = g.pen.isSome ∧ ∀ a, Nv pa T σ g2 a → Nv pa T σ g a := by
  have keepd : ∀ {x : D}, keepR r g1 = some (x, g2) → sv = .d x → (Ext (pm pa g.pen) H H1 ∧ Rel F K pa T H0 σ H1 g2 ∧ SvA F K pa σ (Nv pa T σ g2) H1 g2.pen v sv ∧ g2.pen.isSome = g.pen.isSome ∧ ∀ a, Nv pa T σ g2 a → Nv pa T σ g a) := fun {x} hk e1 => by
    have q := p.keep hk
    subst e1
    exact ⟨q.ext, q.rel, q.dr, q.pen, q.sub⟩
  cases r with
  | pen => cases h; exact ⟨p.ext, p.rel, p.vr, p.pen, p.sub⟩
  | scr ns => cases h; exact ⟨p.ext, p.rel, p.vr, p.pen, p.sub⟩
  | d x => cases h; exact keepd rfl rfl
  | fr xs => cases h; exact keepd rfl rfl
  | bo i xs => cases h; exact keepd rfl rfl
  | fn k cs => cases h; exact ⟨p.ext, p.rel, p.vr, p.pen, p.sub⟩
  | nfn k cs => cases h; exact ⟨p.ext, p.rel, p.vr.1, p.pen, p.sub⟩
  | fd t kvs => cases h
  | bd i t kvs => cases h
/-- behind a call -/
theorem Rel.called (rl : Rel F K pa T H0 σ H g) {Pg : Program} {wd : World} (hF : F.P = Pg) (hw : F.w = wd) (pc : PostC Pg wd K pa (fun a => T a ∨ ∃ i, Own σ g i a) H g.pen v H1 r p') : PostE F K pa T H0 σ H g v H1 r { g with pen := p' } := by
  have epm : pm pa p' = pm pa g.pen := pm_eq pc.pen
  have hN : ∀ a, ((T a ∨ ∃ i, Own σ g i a) ∨ pm pa p' a) → Nv pa T σ g a := by
    rintro a ((z | z) | z)
    · exact .inl z
    · exact .inr (.inr z)
    · exact .inr (.inl (by rw [← epm]; exact z))
  have hN2 : ∀ a, Nv pa T σ { g with pen := p' } a → ((T a ∨ ∃ i, Own σ g i a) ∨ pm pa p' a) := by
    rintro a (z | z | z)
    · exact .inl (.inl z)
    · exact .inr z
    · exact .inl (.inr z)
  have sub : ∀ a, Nv pa T σ { g with pen := p' } a → Nv pa T σ g a := fun a z => hN a (hN2 a z)
  have hm : ∀ a, pm pa g.pen a → Nv pa T σ g a := fun a z => .inr (.inl z)
  -- the state where nothing new is watched
  have base : (∀ xs, p' = some xs → ∃ ws, H1 pa = some (.lst ws) ∧ DRs K (Nv pa T σ { g with pen := p' }) H1 ws xs) → Rel F K pa T H0 σ H1 { g with pen := p' } := fun hpn => by
    refine ⟨rl.len, fun i sv e => ?_, rl.ap, fun xs e => ⟨fun z => ?_, hpn xs e⟩, fun a z => ?_, (rl.x0.trans pc.ext).mono fun a z => by show pm pa p' a; rw [epm]; exact z, rl.tb, rl.fo⟩
    · obtain ⟨u, e1, h⟩ := rl.sl i sv e
      exact ⟨u, e1, h.go pc.ext hm sub (fun _ z => z) pc.pen⟩
    · have e' : p' = some xs := e
      have hs : g.pen.isSome = true := by rw [← pc.pen, e']; rfl
      obtain ⟨ys, ey⟩ := Option.isSome_iff_exists.mp hs
      exact (rl.pn ys ey).1 z
    · obtain ⟨o, q, nt⟩ := rl.td a z
      refine ⟨o, pc.ext.k a o q (fun hpm => ?_) nt.1, nt⟩
      obtain ⟨ys, ey⟩ := Option.isSome_iff_exists.mp hpm.1
      exact (rl.pn ys ey).1 (hpm.2 ▸ z)
  have plain := base fun xs e => by
    obtain ⟨ws, h1, h2⟩ := pc.pn xs e
    exact ⟨ws, h1, h2.mono hN2⟩
  have watch : ∀ (q : Addr) (o : HO), H q = none → H1 q = some o → TOk q o → (∀ ys, p' = some ys → q ≠ pa ∧ ∃ ws, H1 pa = some (.lst ws) ∧ DRs K (fun a => ((T a ∨ ∃ i, Own σ g i a) ∨ pm pa p' a) ∨ a = q) H1 ws ys) →
      ¬ T q ∧ Rel F K pa (fun a => T a ∨ V.ref q = .ref a) H0 σ H1 { g with pen := p' } := fun q o hq hq1 no hpen => by
    have nT : ¬ T q := fun z => by
      obtain ⟨o, h, _⟩ := rl.td q z
      rw [hq] at h
      cases h
    refine ⟨nT, ?_⟩
    show Rel F K pa (fun a => T a ∨ V.ref q = .ref a) H0 σ H1 { g with pen := p' }
    have hn : ∀ a, Nv pa (fun a => T a ∨ V.ref q = .ref a) σ { g with pen := p' } a → Nv pa T σ g a ∨ a = q := by
      rintro a ((z | z) | z | z)
      · exact .inl (.inl z)
      · exact .inr (V.ref.inj z).symm
      · exact .inl (sub a (.inr (.inl z)))
      · exact .inl (sub a (.inr (.inr z)))
    have up : ∀ {v d}, DR K (Nv pa T σ g) H v d → DR K (Nv pa (fun a => T a ∨ V.ref q = .ref a) σ { g with pen := p' }) H1 v d := fun {v d} z =>
      (DR.ext (N := fun a => Nv pa T σ g a ∨ a = q) pc.ext (fun a z => .inl (hm a z)) (z.grow hq)).mono hn
    have ups : ∀ {v d}, DRs K (Nv pa T σ g) H v d → DRs K (Nv pa (fun a => T a ∨ V.ref q = .ref a) σ { g with pen := p' }) H1 v d := fun {v d} z =>
      (DRs.ext (N := fun a => Nv pa T σ g a ∨ a = q) pc.ext (fun a z => .inl (hm a z)) (z.grow hq)).mono hn
    refine ⟨plain.len, fun i sv e => ?_, plain.ap, fun xs e => ?_, fun a z => ?_, plain.x0, plain.tb, plain.fo⟩
    · obtain ⟨u, e1, h⟩ := rl.sl i sv e
      obtain ⟨u', e1', h'⟩ := plain.sl i sv e
      rw [e1] at e1'
      cases e1'
      refine ⟨u, e1, ?_⟩
      have hx : ∀ a φ, ¬ Nv pa T σ g a → H a = some (.ext φ) → ¬ Nv pa (fun a => T a ∨ V.ref q = .ref a) σ { g with pen := p' } a ∧ H1 a = some (.ext φ) := fun a φ n z =>
        ⟨fun y => (hn a y).elim n (ne_of_none z hq), pc.ext.k _ _ z (fun y => n (hm a y)) fun _ => nofun⟩
      exact h.mv (fun _ _ => up) (fun _ _ => ups) (fun a u z n t => pc.ext.k a u z n t) hx (fun a u z n w => w.elim n fun y => ne_of_none z hq (V.ref.inj y).symm) epm pc.pen fun _ _ z => z.ext pc.ext
    · obtain ⟨f1, ws', f2, f3⟩ := hpen xs e
      refine ⟨fun z => z.elim (plain.pn xs e).1 fun z => f1 (V.ref.inj z), ws', f2, f3.mono ?_⟩
      rintro a ((z | z) | z | z)
      · exact .inl (.inl (.inl z))
      · exact .inr (V.ref.inj z).symm
      · exact .inl (.inr z)
      · exact .inl (.inl (.inr z))
    · rcases z with z | z
      · exact plain.td a z
      · rw [← V.ref.inj z]
        exact ⟨_, hq1, no⟩
  have vr := pc.vr
  cases r with
  | d x => exact ⟨pc.ext, plain, DR.mono hN2 vr, pc.pen, sub⟩
  | bo i xs => exact vr.elim
  | scr ns => exact ⟨pc.ext, plain, vr, pc.pen, sub⟩
  | pen => exact ⟨pc.ext, plain, vr, pc.pen, sub⟩
  | bd i t kvs => exact vr.elim
  | nfn k cs => exact vr.elim
  | fn k cs => exact ⟨pc.ext, plain, CvR.mono hN2 (fun a w z => .inl (z.1.mono hN2)) vr, pc.pen, sub⟩
  | fr xs =>
    obtain ⟨q, ws, rfl, hq, hq1, dq, hpen⟩ := vr
    obtain ⟨nT, rw⟩ := watch q _ hq hq1 (tok_lst _ _) hpen
    exact ⟨pc.ext, rw, ⟨q, ws, rfl, hq, hq1, dq.mono fun a z => z.imp (hN2 a) id, nT⟩, pc.pen, sub⟩
  | fd t kvs =>
    obtain ⟨q, es, rfl, hq, hq1, dq, hpen⟩ := vr
    obtain ⟨nT, rw⟩ := watch q _ hq hq1 (tok_dic _ _ _ _ _) hpen
    exact ⟨pc.ext, rw, ⟨q, es, rfl, hq, by rw [hF, hw]; exact hq1, dq.mono fun a z => z.imp (hN2 a) id, nT⟩, pc.pen, sub⟩
end
section
variable {F : Fm} {pa : Addr} {T : AS} {H0 H H1 : Hp} {σ : L2.St} {g g1 : G} {vs : List V} {as : List Sv} {X : Cx} {pins : List (Addr × Obj)} {s : Shared}
/-- the cells that the callee is told -/
def Fm.cls (F : Fm) : List (Str × Addr) := if F.on = true then F.cl else []
theorem crV_ovl {N N' : AS} (I : Inv X pins σ H1 s) (hN : F.N = X.N) (hc : F.on = true → F.cl = X.env.cells ∧ F.sc = X.env.scope) (nv : ∀ a, N a → ∃ o, H1 a = some o) (nv' : ∀ a, N' a → N a) {a : Addr} {w : V} (q : crV F N σ H1 a w) : crH N' (ovl F.cls s.heap H1) a w := by
  have C : Cls F.cls s.heap H1 := cls_of I (by
    unfold Fm.cls
    split
    · rename_i h
      exact .inl (hc h).1
    · exact .inr rfl)
  rcases q with ⟨n, o, u, h1, h2, h3⟩ | ⟨on, y, j, e1, e2, e3, e4⟩
  · exact ⟨fun z => n (nv' _ z), o, u, ovl_some C h1, h2, h3⟩
  · obtain ⟨c1, c2⟩ := hc on
    have ic : isCl F.cls a := ⟨y, by unfold Fm.cls; rw [if_pos on]; exact e1⟩
    obtain ⟨m, _, look⟩ := I.loc
    obtain ⟨u, ru, lk⟩ := look j y w (by rw [← hN]; exact e2) e3 (by unfold Fm.vc at e4; rw [c2] at e4; exact .inr e4)
    rcases lk with ⟨k, _⟩ | ⟨_, c, k1, o, k2, k3⟩
    · have k' : X.env.scope.names.lookup y = some .local := k
      unfold Fm.vc at e4
      rw [c2, k'] at e4
      rcases e4 with z | z <;> cases z
    · rw [← c1, e1] at k1
      cases k1
      refine ⟨fun z => ?_, o, u, ?_, k3, ru⟩
      · obtain ⟨o', z'⟩ := nv _ (nv' _ z)
        rw [C.no _ ic] at z'
        cases z'
      · rw [ovl_cell ic, k2]
        rfl
/-- the arguments, seen by the callee -/
theorem PostS.args (ps : PostS F X.K pa T H0 σ H g vs H1 as g1) (I : Inv X pins σ H1 s) (hN : F.N = X.N) (hc : F.on = true → F.cl = X.env.cells ∧ F.sc = X.env.scope) : ArgR X.K pa (fun a => T a ∨ ∃ i, Own σ g1 i a) (ovl F.cls s.heap H1) g1.pen vs as := by
  have C : Cls F.cls s.heap H1 := cls_of I (by
    unfold Fm.cls
    split
    · rename_i h
      exact .inl (hc h).1
    · exact .inr rfl)
  have hN2 : ∀ a, ((T a ∨ ∃ i, Own σ g1 i a) ∨ pm pa g1.pen a) → Nv pa T σ g1 a := by
    rintro a ((z | z) | z)
    · exact .inl z
    · exact .inr (.inr z)
    · exact .inr (.inl z)
  have hl : ∀ a xs, LsR (Nv pa T σ g1) H1 a xs → LsR (fun a => (T a ∨ ∃ i, Own σ g1 i a) ∨ pm pa g1.pen a) (ovl F.cls s.heap H1) a xs := fun a xs q => ⟨fun z => q.1 (hN2 a z), ovl_some C q.2⟩
  have ht : ∀ a xs, TpR X.K (Nv pa T σ g1) H1 a xs → TpR X.K (fun a => (T a ∨ ∃ i, Own σ g1 i a) ∨ pm pa g1.pen a) (ovl F.cls s.heap H1) a xs := fun a xs q => q.imp (fun z => ⟨fun y => z.1 (hN2 a y), z.2.imp (ovl_some C) fun ⟨o, y⟩ => ⟨o, ovl_some C y⟩⟩) id
  have nv : ∀ a, Nv pa T σ g1 a → ∃ o, H1 a = some o := fun a z => let ⟨o, e, _⟩ := ps.rel.nv a z; ⟨o, e⟩
  refine ⟨Paired.mapP ps.ar fun v sv q => ?_, fun xs e => ?_, fun a z => ?_, fun q hq => tab_ovl C (ps.rel.tab q hq)⟩
  · cases sv with
    | d x => exact DR.trans hl ht q
    | own _ => exact q
    | scr ns =>
      obtain ⟨a, h1, h2⟩ := q
      exact ⟨a, h1, h2.imp (fun ⟨h3, ob, h4⟩ => ⟨h3, ob, ovl_some C h4⟩) id⟩
    | pen => exact q
    | fn k cs => exact CvR.trans (fun _ _ z => DR.trans hl ht z) (fun a φ n z => ⟨fun y => n (hN2 a y), ovl_some C z⟩) (fun a w z => crV_ovl I hN hc nv hN2 z) q
    | ofn _ _ => exact q
    | dic _ _ => exact q
  · obtain ⟨h1, ws, h2, h3⟩ := ps.rel.pn xs e
    refine ⟨fun z => z.elim h1 fun ⟨i, z⟩ => (ps.rel.ownA z).2.2.2 ⟨by rw [e]; rfl, rfl⟩, ws, ovl_some C h2, h3.trans hl ht⟩
  · rcases z with z | ⟨i, z⟩
    · obtain ⟨o, e, n⟩ := ps.rel.td a z
      exact ⟨o, ovl_some C e, n⟩
    · obtain ⟨⟨o, e, n⟩, _⟩ := ps.rel.ownA z
      exact ⟨o, ovl_some C e, n⟩
/-- behind the call, without the cells -/
theorem PostC.less {Pg : Program} {wd : World} {K : Fg} {cl : List (Str × Addr)} {h h' : Heap} {H' : Hp} {p p' : Option (List D)} {v : V} {r : R} {T' : AS} (C : Cls cl h H1) (pc : PostC Pg wd K pa T' (ovl cl h H1) p v H' r p') (hok : HOk Pg wd H' h') (hp : ∀ xs, p = some xs → ∃ o, H1 pa = some o) :
    Kept cl h H' ∧ PostC Pg wd K pa T' H1 p v (unov cl H') r p' := by
  have np : ∀ b, isCl cl b → ¬ pm pa p b := fun b c z => by
    obtain ⟨xs, e⟩ := Option.isSome_iff_exists.mp z.1
    obtain ⟨o, q⟩ := hp xs e
    rw [z.2] at c
    rw [C.no _ c] at q
    cases q
  have Kp : Kept cl h H' := ⟨fun b o c e => pc.ext.k b (CellO b o) (by rw [ovl_cell c, e]; rfl) (np b c) fun _ => nofun⟩
  have nc : ∀ {b o}, H' b = some o → (∀ ob, o ≠ CellO b ob) → unov cl H' b = some o := fun {b o} e ne => unov_some (P := Pg) (w := wd) C Kp e ne
  have hl : ∀ {N : AS} a xs, LsR N H' a xs → LsR N (unov cl H') a xs := fun a xs q => ⟨q.1, nc q.2 fun _ => nofun⟩
  have ht : ∀ {N : AS} a xs, TpR K N H' a xs → TpR K N (unov cl H') a xs := fun a xs q => q.imp (fun z => ⟨z.1, z.2.imp (fun y => nc y fun _ => nofun) fun ⟨o, y⟩ => ⟨o, nc y fun _ => nofun⟩⟩) id
  have back : ∀ {b o}, H1 b = some o → ¬ isCl cl b := fun {b o} e c => by rw [C.no b c] at e; cases e
  refine ⟨Kp, ⟨fun b o e n t => ?_, fun b t => tab_unov C Kp hok (pc.ext.t b (tab_ovl C t)), fun b e => ?_⟩, pc.pen, fun xs e => ?_, ?_⟩
  · rw [unov_no (back e)]
    exact pc.ext.k b o (ovl_some C e) n t
  · by_cases c : isCl cl b
    · exact C.no b c
    · rw [unov_no c] at e
      exact ovl_none C (pc.ext.d b e)
  · obtain ⟨ws, h2, h3⟩ := pc.pn xs e
    exact ⟨ws, nc h2 fun _ => nofun, h3.trans hl ht⟩
  · have vr := pc.vr
    cases r with
    | d x => exact DR.trans hl ht vr
    | fr xs =>
      obtain ⟨q, us, e1, e2, e3, e4, e5⟩ := vr
      exact ⟨q, us, e1, ovl_none C e2, nc e3 fun _ => nofun, e4.trans hl ht, fun ys e => let ⟨f1, ws, f2, f3⟩ := e5 ys e; ⟨f1, ws, nc f2 fun _ => nofun, f3.trans hl ht⟩⟩
    | fd t kvs =>
      obtain ⟨q, es, e1, e2, e3, e4, e5⟩ := vr
      have cq : ¬ isCl cl q := fun c => by
        rw [ovl_cell c] at e2
        obtain ⟨o, u, z, _⟩ := C.ob q c
        rw [z] at e2
        cases e2
      exact ⟨q, es, e1, ovl_none C e2, (unov_no cq).trans e3, e4.trans fun _ _ z => DR.trans hl ht z, fun ys e => let ⟨f1, ws, f2, f3⟩ := e5 ys e; ⟨f1, ws, nc f2 fun _ => nofun, f3.trans hl ht⟩⟩
    | bo _ _ => exact vr
    | bd _ _ _ => exact vr
    | nfn _ _ => exact vr
    | scr ns =>
      obtain ⟨a, h1, h2⟩ := vr
      exact ⟨a, h1, h2.imp (fun ⟨h3, ob, h4⟩ => ⟨h3, ob, nc h4 fun _ => nofun⟩) id⟩
    | pen => exact vr
    | fn k cs =>
      have nocl : ∀ {a : Addr}, ovl cl h H1 a = none → ¬ isCl cl a := fun {a} e c => by
        rw [ovl_cell c] at e
        obtain ⟨o, u, z, _⟩ := C.ob a c
        rw [z] at e
        cases e
      have mv : ∀ {c : Cv} {v : V}, CvR K (fun a => T' a ∨ pm pa p' a) H' (fun a w => crH (fun a => T' a ∨ pm pa p' a) H' a w ∧ ovl cl h H1 a = none) v c → CvR K (fun a => T' a ∨ pm pa p' a) (unov cl H') (fun a w => crH (fun a => T' a ∨ pm pa p' a) (unov cl H') a w ∧ H1 a = none) v c := by
        intro c v q
        exact CvR.mv2 (fun _ _ z => DR.trans hl ht z) (fun f C' cl' c' e => (unov_no (fnV_not C Kp hok e)).trans e) (fun c' q e => (unov_no (codeO_not C Kp hok e)).trans e) (fun a w z => by
          obtain ⟨⟨n, o, u, h1, h2, h3⟩, h4⟩ := z
          exact ⟨⟨n, o, u, (unov_no (nocl h4)).trans h1, h2, h3⟩, ovl_none C h4⟩) q
      exact mv vr
end
section
variable {P : Program} {w : World} {K : Fg} {mg : Str → Option Value} {base : Heap} {p : Pgm} {n m : Nat} {F : Fm} {X : Cx} {c : Ct} {E : Ev}
theorem ok_as (h : ∀ e i, chkE p m c e i = true → OKe F X e (E.e i)) : ∀ {es : List Expr} {is : List IE}, chkEs (chkE p m c) es is = true → OKs F X es (evAs E is)
  | [], [], _ => by
    intro g ds g' q pa T H0 σ H Q r k
    cases q
    exact wA_of pa_nil (k [] H ⟨.refl _ _, r, .nil, rfl, fun _ z => z⟩)
  | e :: es, i :: is, hc => by
    simp only [chkEs, Bool.and_eq_true] at hc
    intro g ds g' q pa T H0 σ H Q r k
    unfold evAs at q
    cases e1 : E.e i g with
    | none => simp only [e1] at q; cases q
    | some rg =>
      obtain ⟨r1, g1⟩ := rg
      simp only [e1] at q
      cases e2 : keepS r1 g1 with
      | none => simp only [e2] at q; cases q
      | some dg =>
        obtain ⟨d, g2⟩ := dg
        simp only [e2] at q
        cases e3 : evAs E is g2 with
        | none => simp only [e3] at q; cases q
        | some dg3 =>
          obtain ⟨ds3, g3⟩ := dg3
          simp only [e3] at q
          simp only [Option.some.injEq, Prod.mk.injEq] at q
          obtain ⟨rfl, rfl⟩ := q
          refine wA_of (pa_cons pe_w pa_w (star_cons hc.1.1)) ?_
          refine h e i hc.1.2 g r1 g1 e1 pa T H0 σ H _ r fun v H1 p1 => ?_
          obtain ⟨f1, f2, f3, f4, f5⟩ := p1.keepS e2
          refine ok_as h hc.2 g2 ds3 g3 e3 pa T H0 σ H1 _ f2 fun vs H2 p3 => ?_
          have ep : pm pa g2.pen = pm pa g.pen := pm_eq f4
          refine k _ _ ⟨f1.trans (p3.ext.mono fun a z => by rw [← ep]; exact z), p3.rel, .cons ?_ p3.ar, p3.pen.trans f4, fun a z => f5 a (p3.sub a z)⟩
          exact f3.move p3.ext (fun a z => .inr (.inl z)) p3.sub p3.pen
  | [], _ :: _, hc => by cases hc
  | _ :: _, [], hc => by cases hc
theorem XO.fc (O : XO P w K mg base p n F X c) : F.on = true → F.cl = X.env.cells ∧ F.sc = X.env.scope := fun h => by
  obtain ⟨h1, _, h3, _⟩ := O.fcl (by rw [← O.fon]; exact h)
  exact ⟨h1, h3⟩
theorem XO.cls (O : XO P w K mg base p n F X c) : (F.cls = X.env.cells ∧ ∀ x, X.fn x = true) ∨ F.cls = [] := by
  unfold Fm.cls
  split
  · rename_i h
    obtain ⟨h1, _, _, h4⟩ := O.fcl (by rw [← O.fon]; exact h)
    exact .inl ⟨h1, h4⟩
  · exact .inr rfl
/-- a call, the arguments being there -/
theorem call_end (O : XO P w K mg base p (n + 1) F X c) {pins : List (Addr × Obj)} {s1 : Shared} {pa a : Addr} {T : AS} {H0 H H1 : Hp} {σ : L2.St} {g g1 : G} {us : List Value} {vs : List V} {as : List Sv} {r2 : R} {p2 : Option (List D)} {Q : VK} (I1 : Inv X pins σ H1 s1) (ps : PostS F X.K pa T H0 σ H g vs H1 as g1)
    (run : ∀ Q' : VK, (∀ v H', PostC P w X.K pa (fun a => T a ∨ ∃ i, Own σ g1 i a) (ovl F.cls s1.heap H1) g1.pen v H' r2 p2 → Q' v H') → Env0 P w K mg base X.A X.stack s1 (ovl F.cls s1.heap H1) → ArgR X.K pa (fun a => T a ∨ ∃ i, Own σ g1 i a) (ovl F.cls s1.heap H1) g1.pen vs as →
      codeAny (model P w) X.A (.call (.ref a) ⟨us, []⟩) (CR CX0 X.stack P w (ovl F.cls s1.heap H1) s1 Q' E0) s1)
    (kk : ∀ (v : V) (H' : Hp), PostE F X.K pa T H0 σ H g v H' r2 { g1 with pen := p2 } → Q v H') : codeAny (model X.prog X.w) X.A (.call (.ref a) ⟨us, []⟩) (CR CX0 X.stack X.prog X.w H1 s1 Q E0) s1 := by
  have C : Cls F.cls s1.heap H1 := cls_of I1 (O.cls.imp (·.1) id)
  have e0 := ovl_env0 I1 O.cls
  have pargs := ps.args I1 O.fN O.fc
  have nf : ∀ b, isCl F.cls b → b ∉ frs X.stack := fun b ⟨y, e⟩ hb => by
    rcases O.cls with ⟨z1, hf⟩ | z1
    · rw [z1] at e
      rcases List.mem_cons.mp (I1.stkSub b hb) with z | z
      · exact I1.cne y b e z
      · obtain ⟨_, o, ho, _⟩ := I1.ok.funs.mem z
        exact absurd (Nat.lt_of_lt_of_le (Heap.lt_size ho) (I1.ok.cab y b (hf y) e)) (Nat.lt_irrefl _)
    · rw [z1] at e
      simp at e
  rw [O.eP, O.ew]
  refine codeAny_mono (run _ (fun _ _ z => z) (by rw [← O.eP, ← O.ew, ← O.eK, ← O.em, ← O.eb]; exact e0) pargs) fun fr s' hq => ?_
  cases fr with
  | error e => exact hq.elim
  | ok fl =>
    cases fl with
    | ret u =>
      obtain ⟨v, H', os, bare, un, hok, rv, pc⟩ := hq
      obtain ⟨Kp, pc'⟩ := pc.less C hok fun xs e => let ⟨_, ws, z, _⟩ := ps.rel.pn xs e; ⟨_, z⟩
      refine ⟨v, _, os, bare, unov_un C un nf (fun b o c e => (hok b _ (Kp.k b o c e)).1), unov_hok C Kp hok, rv, kk v _ ?_⟩
      exact PostN.thenE ⟨ps.ext, ps.rel, ps.pen, ps.sub⟩ (ps.rel.called O.fP O.fw pc')
    | next => exact hq.elim
    | brk => exact hq.elim
    | cont => exact hq.elim
/-- f(..) of the text -/
theorem ok_call (O : XO P w K mg base p (n + 1) F X c) (C : CallOk P w K mg base p n) (h : ∀ e i, chkE p m c e i = true → OKe F X e ((ev p.fns n).e i)) {x : Str} {px pos : Pos} {args : List Expr} {k : Nat} {is : List IE} {fd : FnD}
    (hf : p.fns[k]? = some fd) (hx : fd.name = x) (hg : glB c.sc x = true) (hn : okN x = true) (hne : args.isEmpty = false) (hc : chkEs (chkE p m c) args is = true) :
    OKe F X (.Call (.Name x px) args [] pos) (stE (ev p.fns n) (.call k is)) := by
  intro g r g' q pa T H0 σ H Q rl kk
  simp only [stE] at q
  cases e1 : evAs (ev p.fns n) is g with
  | none => simp only [e1] at q; cases q
  | some ag =>
    obtain ⟨as, g1⟩ := ag
    simp only [e1] at q
    cases e2 : (ev p.fns n).c k as g1.pen with
    | none => simp only [e2] at q; cases q
    | some rp =>
      obtain ⟨r2, p2⟩ := rp
      simp only [e2, Option.map_some, Option.some.injEq, Prod.mk.injEq] at q
      obtain ⟨rfl, rfl⟩ := q
      obtain ⟨a, hmg, hkeep, run⟩ := C k as g1.pen _ p2 e2 fd hf
      obtain ⟨hn1, _, _⟩ := okN_of hn
      cases args with
      | nil => cases hne
      | cons e0 es0 =>
        cases is with
        | nil => cases hc
        | cons i0 is0 =>
          have hc' := hc
          simp only [chkEs, Bool.and_eq_true] at hc'
          intro pins s I
          refine wpAny_Call_Name_kw (ld_glob I (gl_of O hg) (u := .ref a) (by rw [O.em, ← hx]; exact hmg) ?_ hn1)
          refine PySem.W.callWith_K (h₀ := X.base) I.ok.mod.kin (by rw [O.eK]; exact hkeep) (thn (ok_as h hc g as g1 e1 pa T H0 σ H (fun vs H1 => PostS F X.K pa T H0 σ H g vs H1 as g1) rl (fun _ _ z => z) pos pins s I) fun us s1 ⟨vs, H1, I1, rv, ps⟩ => ⟨I1.kIn, ?_⟩) (star_cons hc'.1.1) (star_any hc'.2)
          refine wpAny_call (codeAny_mono (?_ : codeAny (model X.prog X.w) X.A (.call (.ref a) ⟨us, []⟩) (CR CX0 X.stack X.prog X.w H1 s1 Q E0) s1) fun fr s' hq => ?_)
          · refine call_end O I1 ps (fun Q' hq e0 pargs => ?_) kk
            exact run X.A X.stack s1 _ us vs Q' pa _ (O.room.mono (Nat.le_succ n)) O.gd e0 rv (by rw [← O.eK]; exact pargs) (by rw [← O.eK]; exact hq)
          · cases fr with
            | error e => exact hq.elim
            | ok fl =>
              cases fl with
              | ret u => exact I1.after hq
              | next => exact hq.elim
              | brk => exact hq.elim
              | cont => exact hq.elim
end
end DL
end
section
set_option Elab.async false
set_option linter.all false
set_option maxRecDepth 100000
set_option autoImplicit false
set_option maxHeartbeats 2000000
/-! DL, part i2: made functions: what they have, their calls. -/
namespace DL
open PySem PySem.Spec PyProof.Rows L2
variable [Tabs]
section
variable {F : Fm} {K : Fg} {pa : Addr} {T : AS} {H0 H H1 : Hp} {σ : L2.St} {g g1 : G} {v : V}
/-- how a frame's cells stand -/
structure FmOk (F : Fm) (H : Hp) : Prop where
  no : F.on = true → ∀ y a, F.cl.lookup y = some a → H a = none
  inj : F.on = true → ∀ x y a, F.cl.lookup x = some a → F.cl.lookup y = some a → x = y
  nd : F.N.Nodup
/-- a tracked cell, or an own one of these names -/
def crX (F : Fm) (N : AS) (σ : L2.St) (H : Hp) (L : List Nat) (a : Addr) (w : V) : Prop := crH N H a w ∨ (F.on = true ∧ ∃ (y : Str) (j : Nat), j ∈ L ∧ F.cl.lookup y = some a ∧ F.N[j]? = some y ∧ σ[j]? = some (some w) ∧ F.vc y)
theorem crX.toV {F : Fm} {N : AS} {σ : L2.St} {H : Hp} {L : List Nat} {a : Addr} {w : V} (q : crX F N σ H L a w) : crV F N σ H a w := q.imp id fun ⟨on, y, j, _, r⟩ => ⟨on, y, j, r⟩
theorem crX.mono {F : Fm} {N : AS} {σ : L2.St} {H : Hp} {L L' : List Nat} (h : ∀ j, j ∈ L → j ∈ L') {a : Addr} {w : V} (q : crX F N σ H L a w) : crX F N σ H L' a w := q.imp id fun ⟨on, y, j, m, r⟩ => ⟨on, y, j, h j m, r⟩
theorem mapM_cap {n : Nat} (ih : ∀ j c, capG n g j = some c → ∃ w, σ[j]? = some (some w) ∧ CvR K (Nv pa T σ g) H (crX F (Nv pa T σ g) σ H (reachG n g j)) w c) : ∀ {js : List Nat} {cs : List Cv}, js.mapM (fun i => capG n g i) = some cs →
    ∃ ws, CvRs K (Nv pa T σ g) H (crX F (Nv pa T σ g) σ H (js.map (reachG n g)).flatten) ws cs ∧ ∀ (i j : Nat), js[i]? = some j → ∃ w, ws[i]? = some w ∧ σ[j]? = some (some w)
  | [], cs, h => by
    rw [List.mapM_nil] at h
    cases h
    exact ⟨[], .nil, fun i j e => by simp at e⟩
  | j :: js, cs, h => by
    rw [List.mapM_cons] at h
    cases e1 : capG n g j with
    | none => rw [e1] at h; cases h
    | some c =>
      cases e2 : js.mapM (fun i => capG n g i) with
      | none => rw [e1, e2] at h; cases h
      | some cs' =>
        rw [e1, e2] at h
        cases h
        obtain ⟨w, h1, h2⟩ := ih j c e1
        obtain ⟨ws, h3, h4⟩ := mapM_cap ih e2
        have a1 : ∀ i, i ∈ reachG n g j → i ∈ ((j :: js).map (reachG n g)).flatten := fun i m => by
          rw [List.map_cons, List.flatten_cons]; exact List.mem_append_left _ m
        have a2 : ∀ i, i ∈ (js.map (reachG n g)).flatten → i ∈ ((j :: js).map (reachG n g)).flatten := fun i m => by
          rw [List.map_cons, List.flatten_cons]; exact List.mem_append_right _ m
        have b1 := CvR.trans (Cr' := crX F (Nv pa T σ g) σ H ((j :: js).map (reachG n g)).flatten) (fun _ _ z => z) (fun _ _ n z => ⟨n, z⟩) (fun _ _ z => z.mono a1) h2
        have b2 := CvRs.trans (Cr' := crX F (Nv pa T σ g) σ H ((j :: js).map (reachG n g)).flatten) (fun _ _ z => z) (fun _ _ n z => ⟨n, z⟩) (fun _ _ z => z.mono a2) h3
        refine ⟨w :: ws, .cons b1 b2, fun i j' e => ?_⟩
        cases i with
        | zero => cases e; exact ⟨w, rfl, h1⟩
        | succ i => exact h4 i j' (by simpa using e)
/-- the cells of a function of this frame are not among those that its names reach -/
theorem apart_ok {n : Nat} {js : List Nat} {cl : List (Str × Addr)} {fr : List Str} {N : AS} (fm : FmOk F H) (on : F.on = true) (h : apartG n g js = true) (dom : ∀ y a, cl.lookup y = some a → y ∈ fr)
    (caps : ∀ (i : Nat) (y : Str), fr[i]? = some y → ∃ (j : Nat) (a : Addr), js[i]? = some j ∧ F.N[j]? = some y ∧ F.cl.lookup y = some a ∧ cl.lookup y = some a ∧ F.vc y) {a : Addr} {w : V} (q : crX F N σ H (js.map (reachG n g)).flatten a w) : ¬ isCl cl a := by
  rintro ⟨y, e⟩
  obtain ⟨i, hi⟩ := List.mem_iff_getElem?.mp (dom y a e)
  obtain ⟨j, a', e1, e2, e3, e4, _⟩ := caps i y hi
  rw [e] at e4
  cases e4
  rcases q with ⟨_, o, u, z, _⟩ | ⟨_, y', j', m, f1, f2, _⟩
  · rw [fm.no on y a e3] at z
    cases z
  · have ey := fm.inj on _ _ _ e3 f1
    subst ey
    have ej : j = j' := by
      exact (List.getElem?_inj (List.getElem?_eq_some_iff.mp e2).1 fm.nd).mp (e2.trans f2.symm)
    subst ej
    unfold apartG at h
    have := List.all_eq_true.mp h j m
    simp only [Bool.not_eq_true', decide_eq_false_iff_not] at this
    exact this (List.mem_of_getElem? e1)
/-- what is captured now -/
theorem cap_ok (r : Rel F K pa T H0 σ H g) (fm : FmOk F H) (on : F.on = true ∨ ∀ j, j ∈ F.fs → False) : ∀ n j c, capG n g j = some c → ∃ w, σ[j]? = some (some w) ∧ CvR K (Nv pa T σ g) H (crX F (Nv pa T σ g) σ H (reachG n g j)) w c
  | 0, j, c, h => by cases h
  | n + 1, j, c, h => by
    unfold capG at h
    split at h
    · rename_i x e
      cases h
      obtain ⟨v, h1, h2⟩ := r.sl j _ e
      exact ⟨v, h1, .d h2⟩
    · rename_i k cs e
      cases h
      obtain ⟨v, h1, h2⟩ := r.sl j _ e
      exact ⟨v, h1, CvR.trans (fun _ _ z => z) (fun _ _ n z => ⟨n, z⟩) (fun _ _ z => .inl z) h2⟩
    · rename_i k js e
      by_cases hap : apartG n g js = true
      case neg => rw [if_neg hap] at h; cases h
      rw [if_pos hap] at h
      cases e2 : js.mapM (fun i => capG n g i) with
      | none => rw [e2] at h; cases h
      | some cs =>
        rw [e2] at h
        cases h
        obtain ⟨v, h1, h2⟩ := r.sl j _ e
        have on' : F.on = true := on.elim id fun z => (z j (r.fo j k js e)).elim
        obtain ⟨ws, h3, h4⟩ := mapM_cap (cap_ok r fm on n) e2
        obtain ⟨f, c, C, cl, rfl, q1, q2, q3, q4, q5, q6, q7, q8, q9⟩ := h2
        have hr : reachG (n + 1) g j = js ++ (js.map (reachG n g)).flatten := by
          show (match g.env[j]? with
            | some (some (.ofn _ js)) => js ++ (js.map (reachG n g)).flatten
            | _ => []) = _
          rw [e]
        rw [hr]
        refine ⟨.ref f, h1, .fn q1 q2 q3 q4 q5 q6 q7 (fun i y ey => ?_) (CvRs.trans (fun _ _ z => z) (fun _ _ n z => ⟨n, z⟩) (fun a w z => ⟨z.mono fun _ m => List.mem_append_right _ m, apart_ok fm on' hap q7 q9 z⟩) h3)⟩
        obtain ⟨j', a, e1, e2, e3, e4, e5⟩ := q9 i y ey
        obtain ⟨w, f1, f2⟩ := h4 i j' e1
        exact ⟨a, w, e4, f1, .inr ⟨on', y, j', List.mem_append_left _ (List.mem_of_getElem? e1), e3, e2, f2, e5⟩⟩
    · cases h
/-- one slot, though own functions may stand elsewhere -/
theorem cap_at (r : Rel F K pa T H0 σ H g) (fm : FmOk F H) {i : Nat} (on : F.on = true ∨ i ∉ F.fs) {n : Nat} {c : Cv} (h : capG (n + 1) g i = some c) : ∃ w, σ[i]? = some (some w) ∧ CvR K (Nv pa T σ g) H (crV F (Nv pa T σ g) σ H) w c := by
  rcases on with on | on
  · obtain ⟨w, h1, h2⟩ := cap_ok r fm (.inl on) _ _ _ h
    exact ⟨w, h1, CvR.trans (fun _ _ z => z) (fun _ _ n z => ⟨n, z⟩) (fun _ _ z => crX.toV z) h2⟩
  · unfold capG at h
    split at h
    · rename_i x e
      cases h
      obtain ⟨v, h1, h2⟩ := r.sl i _ e
      exact ⟨v, h1, .d h2⟩
    · rename_i k cs e
      cases h
      obtain ⟨v, h1, h2⟩ := r.sl i _ e
      exact ⟨v, h1, CvR.trans (fun _ _ z => z) (fun _ _ n z => ⟨n, z⟩) (fun _ _ z => .inl z) h2⟩
    · rename_i k js e
      exact absurd (r.fo i k js e) on
    · cases h
theorem fnAt_ok (r : Rel F K pa T H0 σ H g) (fm : FmOk F H) {i : Nat} (on : F.on = true ∨ i ∉ F.fs) {k : Nat} {cs : List Cv} (h : fnAt g i = some (k, cs)) : ∃ w, σ[i]? = some (some w) ∧ CvR K (Nv pa T σ g) H (crV F (Nv pa T σ g) σ H) w (.fn k cs) := by
  unfold fnAt at h
  split at h
  · rename_i k' cs' e
    cases h
    exact cap_at r fm on e
  · cases h
theorem CvR.ref {N : AS} {Cr : Addr → V → Prop} {k : Nat} {cs : List Cv} (q : CvR K N H Cr v (.fn k cs)) : ∃ (f c : Addr) (C : CodeT) (cl : List (Str × Addr)), v = .ref f ∧ H f = some (FnV f C cl c) := by
  cases q
  exact ⟨_, _, _, _, rfl, ‹_›⟩
theorem fnV_at {P : Program} {w : World} {h : Heap} {f c : Addr} {C : CodeT} {cl : List (Str × Addr)} (hok : HOk P w H h) (e : H f = some (FnV f C cl c)) : PySem.W.FnAt f h := by
  obtain ⟨⟨od, sl, doc, pm, ctv, z⟩, _, _⟩ := hok f _ e
  exact ⟨_, od, _, sl, z⟩
end
section
variable {P : Program} {w : World} {K : Fg} {mg : Str → Option Value} {base : Heap} {p : Pgm} {n m : Nat} {F : Fm} {X : Cx} {c : Ct} {E : Ev}
theorem XO.fm (O : XO P w K mg base p n F X c) {pins : List (Addr × Obj)} {σ : L2.St} {H : Hp} {s : Shared} (I : Inv X pins σ H s) : FmOk F H where
  no := fun on y a e => by rw [(O.fc on).1] at e; exact I.freeC y a e
  inj := fun on x y a h1 h2 => by rw [(O.fc on).1] at h1 h2; exact I.ok.inj x y a h1 h2
  nd := by rw [O.fN]; exact O.nd
/-- f(..), f a name that holds a made function -/
theorem ok_callS (O : XO P w K mg base p (n + 1) F X c) (C : KallOk P w K mg base p n) (h : ∀ e i, chkE p m c e i = true → OKe F X e ((ev p.fns n).e i)) {x : Str} {px pos : Pos} {args : List Expr} {k : Nat} {is : List IE}
    (hi : c.N[k]? = some x) (hv : visB c.sc x = true) (hn : okN x = true) (hfs : (c.on || !decide (k ∈ c.fs)) = true) (hne : args.isEmpty = false) (hc : chkEs (chkE p m c) args is = true) :
    OKe F X (.Call (.Name x px) args [] pos) (stE (ev p.fns n) (.callS k is)) := by
  intro g r g' q pa T H0 σ H Q rl kk
  have on : F.on = true ∨ k ∉ F.fs := by
    rw [O.fon, O.ffs]
    rw [Bool.or_eq_true] at hfs
    exact hfs.imp id fun z => by simpa using z
  simp only [stE] at q
  cases e9 : fnAt g k with
  | none => simp only [e9] at q; cases q
  | some kc0 =>
  obtain ⟨k0, cs0⟩ := kc0
  simp only [e9] at q
  cases e1 : evAs (ev p.fns n) is g with
  | none => simp only [e1] at q; cases q
  | some ag =>
    obtain ⟨as, g1⟩ := ag
    simp only [e1] at q
    cases e3 : fnAt g1 k with
    | none => simp only [e3] at q; cases q
    | some kc =>
      obtain ⟨k', cs⟩ := kc
      simp only [e3] at q
      cases e2 : (ev p.fns n).k k' cs as g1.pen with
      | none => simp only [e2] at q; cases q
      | some rp =>
        obtain ⟨r2, p2⟩ := rp
        simp only [e2, Option.map_some, Option.some.injEq, Prod.mk.injEq] at q
        obtain ⟨rfl, rfl⟩ := q
        obtain ⟨hn1, hn2, _⟩ := okN_of hn
        cases args with
        | nil => cases hne
        | cons e0 es0 =>
          cases is with
          | nil => cases hc
          | cons i0 is0 =>
            have hc' := hc
            simp only [chkEs, Bool.and_eq_true] at hc'
            intro pins s I
            obtain ⟨w0, s0, c0⟩ := fnAt_ok rl (O.fm I) on e9
            obtain ⟨f, cc, C0, cl0, rfl, hf0⟩ := c0.ref
            refine wpAny_Call_Name_kw (thn ((pe_var (pos := px) (by rw [← O.cN]; exact hi) (by rw [← O.cs]; exact vis_of hv) hn1 hn2).run pins s σ H (fun v H1 => v = .ref f ∧ H1 = H) I ⟨.ref f, s0, rfl, rfl⟩) fun u s1 ⟨v, H1, I1, r1, q1⟩ => ?_)
            obtain ⟨ev, eH⟩ := q1
            subst ev
            rw [eH] at I1
            obtain rfl : u = Value.ref f := r1
            refine PySem.W.callWith_F (first := []) (fnV_at I1.hok hf0) (thn (ok_as h hc g as g1 e1 pa T H0 σ H (fun vs H1 => PostS F X.K pa T H0 σ H g vs H1 as g1) rl (fun _ _ z => z) pos pins s1 I1) fun us s2 ⟨vs, H2, I2, rv, ps⟩ => ?_) (star_cons hc'.1.1) (star_any hc'.2)
            obtain ⟨w1, s1', c1⟩ := fnAt_ok ps.rel (O.fm I2) on e3
            rw [s0] at s1'
            cases s1'
            obtain ⟨_, _, _, _, ef, hf1⟩ := c1.ref
            cases ef
            refine ⟨fnV_at I2.hok hf1, ?_⟩
            show wpAny _ _ (call (.ref f) us) _ _ _
            refine wpAny_call (codeAny_mono (?_ : codeAny (model X.prog X.w) X.A (.call (.ref f) ⟨us, []⟩) (CR CX0 X.stack X.prog X.w H2 s2 Q E0) s2) fun fr s' hq => ?_)
            · refine call_end O I2 ps (fun Q' hq e0 pargs => ?_) kk
              refine C k' cs as g1.pen _ p2 e2 X.A X.stack s2 _ us vs Q' pa _ f (O.room.mono (Nat.le_succ n)) O.gd e0 rv (by rw [← O.eK]; exact pargs) ?_ (by rw [← O.eK]; exact hq)
              have C2 : Cls F.cls s2.heap H2 := cls_of I2 (O.cls.imp (·.1) id)
              have hN2 : ∀ a, ((T a ∨ ∃ i, Own σ g1 i a) ∨ pm pa g1.pen a) → Nv pa T σ g1 a := by
                rintro a ((z | z) | z)
                · exact .inl z
                · exact .inr (.inr z)
                · exact .inr (.inl z)
              have hl : ∀ a xs, LsR (Nv pa T σ g1) H2 a xs → LsR (fun a => (T a ∨ ∃ i, Own σ g1 i a) ∨ pm pa g1.pen a) (ovl F.cls s2.heap H2) a xs := fun a xs q => ⟨fun z => q.1 (hN2 a z), ovl_some C2 q.2⟩
              have ht : ∀ a xs, TpR X.K (Nv pa T σ g1) H2 a xs → TpR X.K (fun a => (T a ∨ ∃ i, Own σ g1 i a) ∨ pm pa g1.pen a) (ovl F.cls s2.heap H2) a xs := fun a xs q => q.imp (fun z => ⟨fun y => z.1 (hN2 a y), z.2.imp (ovl_some C2) fun ⟨o, y⟩ => ⟨o, ovl_some C2 y⟩⟩) id
              rw [← O.eK]
              exact CvR.trans (fun _ _ z => DR.trans hl ht z) (fun a φ n z => ⟨fun y => n (hN2 a y), ovl_some C2 z⟩) (fun a w z => crV_ovl I2 O.fN O.fc (fun a z => let ⟨o, e, _⟩ := ps.rel.nv a z; ⟨o, e⟩) hN2 z) c1
            · cases fr with
              | error e => exact hq.elim
              | ok fl =>
                cases fl with
                | ret u => exact I2.after hq
                | next => exact hq.elim
                | brk => exact hq.elim
                | cont => exact hq.elim
end
end DL
end
section
set_option Elab.async false
set_option linter.all false
set_option maxRecDepth 100000
set_option autoImplicit false
set_option maxHeartbeats 2000000
/-! DL, part j: the plain words. -/
namespace DL
open PySem PySem.Spec PyProof.Rows L2
variable [Tabs]
section
variable {P : Program} {w : World} {K : Fg} {mg : Str → Option Value} {base : Heap} {p : Pgm} {n m : Nat} {F : Fm} {X : Cx} {c : Ct} {E : Ev} {x y z : Expr} {a b d : IE} {es : List Expr} {is : List IE} {pos : Pos}

theorem ok_slot (O : XO P w K mg base p n F X c) {s : Str} {i : Nat} (h1 : c.N[i]? = some s) (h2 : visB c.sc s = true) (h3 : okN s = true) (hfs : (c.on || !decide (i ∈ c.fs)) = true) : OKe F X (.Name s pos) (stE E (.slot i)) := by
  intro g r g' q pa T H0 σ H Q rl k
  have on : F.on = true ∨ i ∉ F.fs := by
    rw [O.fon, O.ffs]
    rw [Bool.or_eq_true] at hfs
    exact hfs.imp id fun z => by simpa using z
  obtain ⟨n1, n2, _⟩ := okN_of h3
  have pv : PE X (.Name s pos) (tVar i) := pe_var (by rw [← O.cN]; exact h1) (by rw [← O.cs]; exact vis_of h2) n1 n2
  have rest : ∀ {v r}, σ[i]? = some (some v) → ownT T v r = T → VR F X.K pa T σ H H g v r → (∀ v H', PostE F X.K pa T H0 σ H g v H' r g → Q v H') → wE X (.Name s pos) σ H Q := fun {v r} e ht hv kk =>
    wE_of pv ⟨v, e, kk v H ⟨.refl _ _, by rw [ht]; exact rl, hv, rfl, fun _ z => z⟩⟩
  cases e : g.env[i]? with
  | none => simp only [stE, e] at q; cases q
  | some o =>
    cases o with
    | none => simp only [stE, e] at q; cases q
    | some sv =>
      obtain ⟨v, e1, hv⟩ := rl.sl i sv e
      cases sv with
      | d x => simp only [stE, e] at q; cases q; exact rest (r := .d x) e1 rfl hv k
      | own xs =>
        simp only [stE, e] at q
        cases q
        obtain ⟨a, vs, rfl, _⟩ := hv
        exact rest (r := .bo i xs) e1 rfl ⟨a, rfl, e1, e⟩ k
      | scr ns => simp only [stE, e] at q; cases q; exact rest (r := .scr ns) e1 rfl hv k
      | pen =>
        simp only [stE, e] at q
        by_cases hp : g.pen.isSome = true
        · rw [if_pos hp] at q
          cases q
          exact rest (r := .pen) e1 rfl hv k
        · rw [if_neg hp] at q
          cases q
      | fn k' cs =>
        simp only [stE, e] at q
        cases q
        exact rest (r := .fn k' cs) e1 rfl (CvR.trans (fun _ _ z => z) (fun _ _ n z => ⟨n, z⟩) (fun _ _ z => .inl z) hv) k
      | ofn k' js =>
        simp only [stE, e] at q
        cases e2 : fnAt g i with
        | none => simp only [e2] at q; cases q
        | some kc =>
          obtain ⟨k1, cs⟩ := kc
          simp only [e2, Option.map_some, Option.some.injEq, Prod.mk.injEq] at q
          obtain ⟨rfl, rfl⟩ := q
          intro pins s I
          obtain ⟨w1, h1', h2'⟩ := fnAt_ok rl (O.fm I) on e2
          exact rest (r := .fn k1 cs) h1' rfl h2' k pins s I
      | dic t kvs =>
        simp only [stE, e] at q
        cases q
        obtain ⟨a, vs, rfl, _⟩ := hv
        exact rest (r := .bd i t kvs) e1 rfl ⟨a, rfl, e1, e⟩ k
theorem PostE.flat {F : Fm} {K : Fg} {pa : Addr} {T : AS} {H0 H : Hp} {σ : L2.St} {g : G} {v : V} {x : D} (rl : Rel F K pa T H0 σ H g) (h : DR K (Nv pa T σ g) H v x) : PostE F K pa T H0 σ H g v H (.d x) g :=
  ⟨.refl _ _, rl, h, rfl, fun _ z => z⟩
theorem dv_flat {K : Fg} {N : AS} {H : Hp} {x : D} (h : scalD x = true) : DR K N H (dV x) x := by
  cases x <;> first | exact .non | exact .bl _ | exact .int _ | exact .str _ | cases h
theorem ok_const {k : Const} {j : Nat} {x : D} (h : chkC k x = true) : OKe F X (.Constant k j pos) (stE E (.cst x)) := by
  intro g r g' q pa T H0 σ H Q rl kk
  cases q
  unfold chkC at h
  split at h
  · obtain rfl := eq_of_beq h
    exact wE_of pe_int (kk _ _ (.flat rl (.int _)))
  · obtain rfl := eq_of_beq h
    exact wE_of pe_bl (kk _ _ (.flat rl (.bl _)))
  · exact wE_of pe_non (kk _ _ (.flat rl .non))
  · obtain rfl := eq_of_beq h
    exact wE_of pe_str (kk _ _ (.flat rl (.str _)))
  · cases h
theorem ok_glob (O : XO P w K mg base p n F X c) {s : Str} {x : D} (h : chkCs p.cs s x = true) (hg : glB c.sc s = true) (hn : okN s = true) : OKe F X (.Name s pos) (stE E (.cst x)) := by
  intro g r g' q pa T H0 σ H Q rl kk
  cases q
  obtain ⟨n1, _, _⟩ := okN_of hn
  have hs : p.cs.lookup s = some x ∧ scalD x = true := by
    unfold chkCs at h
    split at h
    · rename_i e1
      obtain rfl := eq_of_beq h
      exact ⟨e1, rfl⟩
    · rename_i e1
      obtain rfl := eq_of_beq h
      exact ⟨e1, rfl⟩
    · cases h
  obtain ⟨u, hm, hr⟩ := O.cst s x hs.1 hs.2
  exact wE_of (pe_glob (gl_of O hg) (by rw [O.em]; exact hm) hr n1) (kk _ _ (.flat rl (dv_flat hs.2)))
theorem small_sz {k : Nat} (h : k ≤ 1000) : k ≤ sizeLine := by rw [sizeLine_eq]; omega
theorem ok_tup (h : OKa F X es (evDs E is)) (hl : is.length ≤ 1000) (he : es.length = is.length) (hds : ∀ g ds g', evDs E is g = some (ds, g') → ds.length = is.length) {k : Nat} : OKe F X (.Tuple es k pos) (stE E (.tup is)) := by
  intro g r g' q pa T H0 σ H Q rl kk
  simp only [stE] at q
  cases e1 : evDs E is g with
  | none => simp only [e1] at q; cases q
  | some dg =>
    obtain ⟨ds, g1⟩ := dg
    simp only [e1, Option.map_some, Option.some.injEq, Prod.mk.injEq] at q
    obtain ⟨rfl, rfl⟩ := q
    refine wE_of (pe_tup pa_w) (h g ds g1 e1 pa T H0 σ H _ rl fun vs H1 p1 => ⟨?_, fun q hq => ?_⟩)
    · rw [p1.dr.length, hds g ds g1 e1]
      exact small_sz hl
    · exact kk _ _ (p1.n.res (.tup hq p1.dr))
theorem ok_lst (h : OKa F X es (evDs E is)) (hl : is.length ≤ 1000) (hds : ∀ g ds g', evDs E is g = some (ds, g') → ds.length = is.length) : OKe F X (.List es pos) (stE E (.lst is)) := by
  intro g r g' q pa T H0 σ H Q rl kk
  simp only [stE] at q
  cases e1 : evDs E is g with
  | none => simp only [e1] at q; cases q
  | some dg =>
    obtain ⟨ds, g1⟩ := dg
    simp only [e1, Option.map_some, Option.some.injEq, Prod.mk.injEq] at q
    obtain ⟨rfl, rfl⟩ := q
    refine wE_of (pe_lst pa_w) (h g ds g1 e1 pa T H0 σ H _ rl fun vs H1 p1 => ⟨?_, fun q hq => ?_⟩)
    · rw [p1.dr.length, hds g ds g1 e1]
      exact small_sz hl
    · exact kk _ _ (p1.n.res (.lst hq p1.dr))
theorem evDs_len : ∀ {is : List IE} (g : G) (ds : List D) (g' : G), evDs E is g = some (ds, g') → ds.length = is.length
  | [], g, ds, g', q => by cases q; rfl
  | i :: is, g, ds, g', q => by
    unfold evDs at q
    cases e1 : E.e i g with
    | none => simp only [e1] at q; cases q
    | some rg =>
      obtain ⟨r1, g1⟩ := rg
      simp only [e1] at q
      cases e2 : keepR r1 g1 with
      | none => simp only [e2] at q; cases q
      | some dg =>
        obtain ⟨d, g2⟩ := dg
        simp only [e2] at q
        cases e3 : evDs E is g2 with
        | none => simp only [e3] at q; cases q
        | some dg3 =>
          obtain ⟨ds3, g3⟩ := dg3
          simp only [e3, Option.some.injEq, Prod.mk.injEq] at q
          obtain ⟨rfl, rfl⟩ := q
          rw [List.length_cons, List.length_cons, evDs_len g2 ds3 g3 e3]
theorem ok_bin (h1 : OKe F X x (E.e a)) (h2 : OKe F X y (E.e b)) {op : Operator} : OKe F X (.BinOp x op y pos) (stE E (.bin op a b)) := by
  intro g r g' q pa T H0 σ H Q rl kk
  simp only [stE] at q
  cases e1 : rd2 E a b g with
  | none => simp only [e1] at q; cases q
  | some t =>
    obtain ⟨u, v, g1⟩ := t
    simp only [e1] at q
    cases e2 : binD op u v with
    | none => simp only [e2] at q; cases q
    | some r1 =>
      simp only [e2, Option.map_some, Option.some.injEq, Prod.mk.injEq] at q
      obtain ⟨rfl, rfl⟩ := q
      obtain ⟨t, ht, go⟩ := bin_ok (X := X) e2
      exact wE_of (pe_op ht pe_w pe_w) (OKe.two h1 h2 e1 rl fun v1 v2 H' p2 => go _ _ _ _ _ p2.tr p2.tr2 fun z H2 hz => kk z H2 (p2.n.res hz))
theorem ok_neg (h1 : OKe F X x (E.e a)) : OKe F X (.UnaryOp .USub x pos) (stE E (.neg a)) := by
  intro g r g' q pa T H0 σ H Q rl kk
  simp only [stE] at q
  cases e1 : rd1 E a g with
  | none => simp only [e1] at q; cases q
  | some t =>
    obtain ⟨u, g1⟩ := t
    simp only [e1] at q
    cases u with
    | int i =>
      cases q
      exact wE_of (pe_un un_neg pe_w) (OKe.rd h1 g _ g' e1 pa T H0 σ H _ rl fun v H1 p1 => ⟨i, p1.tr.int, kk _ _ (p1.n.res (.same (.int _)))⟩)
    | _ => cases q
theorem ok_notE (h1 : OKe F X x (E.e a)) : OKe F X (.UnaryOp .Not x pos) (stE E (.notE a)) := by
  intro g r g' q pa T H0 σ H Q rl kk
  simp only [stE] at q
  cases e1 : rd1 E a g with
  | none => simp only [e1] at q; cases q
  | some t =>
    obtain ⟨u, g1⟩ := t
    simp only [e1] at q
    cases u with
    | bool i =>
      cases q
      exact wE_of (pe_not pe_w) (OKe.rd h1 g _ g' e1 pa T H0 σ H _ rl fun v H1 p1 => ⟨i, p1.tr.bool, kk _ _ (p1.n.res (.same (.bl _)))⟩)
    | _ => cases q
theorem ok_bop {op : BoolOp} {isAnd : Bool} {rest : List Expr} (ho : isAndB op = isAnd) (h1 : OKe F X x (E.e a)) (h2 : OKe F X (.BoolOp op (y :: rest) pos) (E.e b)) : OKe F X (.BoolOp op (x :: y :: rest) pos) (stE E (.bop isAnd a b)) := by
  intro g r g' q pa T H0 σ H Q rl kk
  simp only [stE] at q
  cases e1 : rd1 E a g with
  | none => simp only [e1] at q; cases q
  | some t =>
    obtain ⟨u, g1⟩ := t
    simp only [e1] at q
    cases u with
    | bool cc =>
      simp only at q
      subst ho
      cases op with
      | And =>
        refine wE_of (pe_and pe_w pe_w) (OKe.rd h1 g _ _ e1 pa T H0 σ H _ rl fun v H1 p1 => ⟨cc, p1.tr.bool, ?_⟩)
        cases cc with
        | true => exact iteT (h2 g1 r g' q pa T H0 σ H1 Q p1.rel fun v2 H2 p2 => kk _ _ (p1.n.thenE p2))
        | false => cases q; exact iteF (kk _ _ (p1.n.res (.same (.bl _))))
      | Or =>
        refine wE_of (pe_or pe_w pe_w) (OKe.rd h1 g _ _ e1 pa T H0 σ H _ rl fun v H1 p1 => ⟨cc, p1.tr.bool, ?_⟩)
        cases cc with
        | false => exact iteF (h2 g1 r g' q pa T H0 σ H1 Q p1.rel fun v2 H2 p2 => kk _ _ (p1.n.thenE p2))
        | true => cases q; exact iteT (kk _ _ (p1.n.res (.same (.bl _))))
    | _ => cases q
theorem marks {op : CmpOp} (h : notSet y = true) : behindInMarks op y = false := by
  cases y <;> first | rfl | cases h
theorem ok_cmp (O : XO P w K mg base p n F X c) (hs : notSet y = true) (h1 : OKe F X x (E.e a)) (h2 : OKe F X y (E.e b)) {op : CmpOp} : OKe F X (.Compare x [op] [y] pos) (stE E (.cmp op a b)) := by
  intro g r g' q pa T H0 σ H Q rl kk
  simp only [stE] at q
  cases e1 : rd2 E a b g with
  | none => simp only [e1] at q; cases q
  | some t =>
    obtain ⟨u, v, g1⟩ := t
    simp only [e1] at q
    cases e2 : cmpD op u v with
    | none => simp only [e2] at q; cases q
    | some r1 =>
      simp only [e2, Option.map_some, Option.some.injEq, Prod.mk.injEq] at q
      obtain ⟨rfl, rfl⟩ := q
      obtain ⟨t, ht, go⟩ := cmp_ok (X := X) O.hu e2
      exact wE_of (pe_cmpR ht pe_w pe_w (marks hs)) (OKe.two h1 h2 e1 rl fun v1 v2 H' p2 => go _ _ _ _ _ p2.tr p2.tr2 (kk _ _ (p2.n.res (.same (.bl _)))))
/-- the same as a test -/
theorem okt_cmp (O : XO P w K mg base p n F X c) (hs : notSet y = true) (h1 : OKe F X x (E.e a)) (h2 : OKe F X y (E.e b)) {op : CmpOp} {g g' : G} {r : Bool}
    (q : stE E (.cmp op a b) g = some (.d (.bool r), g')) {pa : Addr} {T : AS} {H0 H : Hp} {σ : L2.St} {Q : Bool → Hp → Prop} (rl : Rel F X.K pa T H0 σ H g) (kk : ∀ H', PostN F X.K pa T H0 σ H g H' g' → Q r H') : wT X (.Compare x [op] [y] pos) σ H Q := by
  simp only [stE] at q
  cases e1 : rd2 E a b g with
  | none => simp only [e1] at q; cases q
  | some t =>
    obtain ⟨u, v, g1⟩ := t
    simp only [e1] at q
    cases e2 : cmpD op u v with
    | none => simp only [e2] at q; cases q
    | some r1 =>
      simp only [e2, Option.map_some, Option.some.injEq, Prod.mk.injEq, R.d.injEq, PyData.bool.injEq] at q
      obtain ⟨rfl, rfl⟩ := q
      obtain ⟨t, ht, go⟩ := cmp_ok (X := X) O.hu e2
      exact wT_of (pt_cmpR ht pe_w pe_w (marks hs)) (OKe.two h1 h2 e1 rl fun v1 v2 H' p2 => go _ _ _ _ _ p2.tr p2.tr2 ⟨_, rfl, kk _ p2.n⟩)
theorem chain_ok (h1 : OKe F X x (E.e a)) (h2 : OKe F X y (E.e b)) (h3 : OKe F X z (E.e d)) (hu : X.A.units + 65 < cLine) {op op' : CmpOp} {g g' : G} {r : R}
    (q : stE E (.chn op op' a b d) g = some (r, g')) : ∃ t t' : R2, ∃ rb : Bool, OpR X (compareOp op) t ∧ OpR X (compareOp op') t' ∧ r = .d (.bool rb) ∧
    ∀ {pa : Addr} {T : AS} {H0 H : Hp} {σ : L2.St} {Q : VK}, Rel F X.K pa T H0 σ H g → (∀ H', PostN F X.K pa T H0 σ H g H' g' → Q (.bl rb) H') → tChain t t' (wE X x) (wE X y) (wE X z) σ H Q := by
  simp only [stE] at q
  cases e1 : rd2 E a b g with
  | none => simp only [e1] at q; cases q
  | some t =>
    obtain ⟨u, v, g1⟩ := t
    cases v with
    | int j =>
      simp only [e1] at q
      cases e2 : cmpD op u (.int j) with
      | none => simp only [e2] at q; cases q
      | some r1 =>
        obtain ⟨t, ht, go⟩ := cmp_ok (X := X) hu e2
        cases r1 with
        | false =>
          simp only [e2] at q
          cases q
          refine ⟨t, fun _ _ _ _ => False, false, ht, fun _ _ _ _ _ _ _ _ _ _ _ _ h => h.elim, rfl, fun rl kk => ?_⟩
          exact OKe.two h1 h2 e1 rl fun v1 v2 H' p2 => go _ _ _ _ _ p2.tr p2.tr2 ⟨false, rfl, iteF (kk _ p2.n)⟩
        | true =>
          simp only [e2] at q
          cases e3 : rd1 E d g1 with
          | none => simp only [e3] at q; cases q
          | some t3 =>
            obtain ⟨zz, g2⟩ := t3
            simp only [e3] at q
            cases e4 : cmpD op' (.int j) zz with
            | none => simp only [e4] at q; cases q
            | some r2 =>
              simp only [e4, Option.map_some, Option.some.injEq, Prod.mk.injEq] at q
              obtain ⟨rfl, rfl⟩ := q
              obtain ⟨t', ht', go'⟩ := cmp_ok (X := X) hu e4
              refine ⟨t, t', r2, ht, ht', rfl, fun {pa T H0 H σ Q} rl kk => ?_⟩
              refine OKe.two h1 h2 e1 rl fun v1 v2 H' p2 => go _ _ _ _ _ p2.tr p2.tr2 ⟨true, rfl, iteT ?_⟩
              refine OKe.rd h3 g1 zz g2 e3 pa T H0 σ H' _ p2.rel fun v3 H3 p3 => ?_
              refine go' _ H3 v2 v3 Q ?_ p3.tr (kk _ (p2.n.then p3.n))
              rw [p2.tr2.int]
              exact .d (.int j)
    | _ => simp only [e1] at q; cases q
theorem marks2 {op op' : CmpOp} (h : notSet z = true) : lastMarks [op, op'] [y, z] = false := by
  cases z <;> first | rfl | cases h
theorem ok_chn (O : XO P w K mg base p n F X c) (hs : notSet z = true) (h1 : OKe F X x (E.e a)) (h2 : OKe F X y (E.e b)) (h3 : OKe F X z (E.e d)) {op op' : CmpOp} : OKe F X (.Compare x [op, op'] [y, z] pos) (stE E (.chn op op' a b d)) := by
  intro g r g' q pa T H0 σ H Q rl kk
  obtain ⟨t, t', rb, ht, ht', rfl, go⟩ := chain_ok h1 h2 h3 O.hu q
  exact wE_of (pe_chain ht ht' pe_w pe_w pe_w (marks2 hs)) (go rl fun H' pn => kk _ _ (pn.res (.same (.bl _))))
theorem okt_chn (O : XO P w K mg base p n F X c) (hs : notSet z = true) (h1 : OKe F X x (E.e a)) (h2 : OKe F X y (E.e b)) (h3 : OKe F X z (E.e d)) {op op' : CmpOp} {g g' : G} {r : Bool}
    (q : stE E (.chn op op' a b d) g = some (.d (.bool r), g')) {pa : Addr} {T : AS} {H0 H : Hp} {σ : L2.St} {Q : Bool → Hp → Prop} (rl : Rel F X.K pa T H0 σ H g) (kk : ∀ H', PostN F X.K pa T H0 σ H g H' g' → Q r H') : wT X (.Compare x [op, op'] [y, z] pos) σ H Q := by
  obtain ⟨t, t', rb, ht, ht', e, go⟩ := chain_ok h1 h2 h3 O.hu q
  cases e
  exact wT_of (pt_chain ht ht' pe_w pe_w pe_w (marks2 hs)) (go rl fun H' pn => ⟨_, rfl, kk _ pn⟩)
theorem ok_ife (ht : OKt F X z (E.t d)) (h1 : OKe F X x (E.e a)) (h2 : OKe F X y (E.e b)) : OKe F X (.IfExp z x y pos) (stE E (.ife d a b)) := by
  intro g r g' q pa T H0 σ H Q rl kk
  simp only [stE] at q
  cases e1 : E.t d g with
  | none => simp only [e1] at q; cases q
  | some t =>
    obtain ⟨cc, g1⟩ := t
    refine wE_of (pe_ifExp pt_w pe_w pe_w) (ht g cc g1 e1 pa T H0 σ H _ rl fun H1 p1 => ?_)
    cases cc with
    | true => simp only [e1] at q; exact iteT (h1 g1 r g' q pa T H0 σ H1 Q p1.rel fun v2 H2 p2 => kk _ _ (p1.thenE p2))
    | false => simp only [e1] at q; exact iteF (h2 g1 r g' q pa T H0 σ H1 Q p1.rel fun v2 H2 p2 => kk _ _ (p1.thenE p2))
end
end DL
end
section
set_option Elab.async false
set_option linter.all false
set_option maxRecDepth 100000
set_option autoImplicit false
set_option maxHeartbeats 2000000
/-! DL, part k: built-ins, places, cuts, texts. -/
namespace DL
open PySem PySem.Spec PyProof.Rows L2
variable [Tabs]
section
variable {P : Program} {w : World} {K : Fg} {mg : Str → Option Value} {base : Heap} {p : Pgm} {n m : Nat} {F : Fm} {X : Cx} {c : Ct} {E : Ev} {x y z : Expr} {a b d : IE} {es : List Expr} {is : List IE} {pos px : Pos}

theorem boot_isin : bootBuiltins "isinstance" = some (.builtin "isinstance") := by decide +kernel
theorem bi_boot (b : Bi) : bootBuiltins (biName b) = some (biVal b) := by
  cases b with
  | isin t => exact boot_isin
  | _ => decide +kernel
theorem mem_isin : ("isinstance" : Str) ∈ bnames := by decide
theorem bi_mem (b : Bi) : biName b ∈ bnames := by
  cases b with
  | isin t => exact mem_isin
  | _ => decide
/-- a call of a built-in with written arguments -/
theorem pe_bi {b : Bi} {s : Str} (O : XO P w K mg base p n F X c) (hs : s = biName b) (hg : glB c.sc s = true) (hn : okN s = true) {t : List V → Hp → VK → Prop} (ht : CallR X (biVal b) t) {e : Expr} {es : List Expr} {ta : TA}
    (ha : PA X (e :: es) ta) (h1 : notStar e = true) (h2 : ∀ env : Env, (backTo pos (starEach es env)).any (·.1) = false) : PE X (.Call (.Name s px) (e :: es) [] pos) (tCB t ta) := by
  obtain ⟨n1, n2, n3⟩ := okN_of hn
  subst hs
  have hm := O.bln (bi_mem b)
  have hv := bi_boot b
  have gg := gl_of O hg
  have go : ∀ v, biVal b = v → (∃ id, v = .builtin id) ∨ ∃ T, v = .type T := fun v e => by cases b <;> subst e <;> first | exact .inl ⟨_, rfl⟩ | exact .inr ⟨_, rfl⟩
  rcases go _ rfl with ⟨id, e⟩ | ⟨T, e⟩
  · rw [e] at ht hv
    exact pe_callB ht gg hm hv ha n3 n1 (star_cons h1) (h2 _)
  · rw [e] at ht hv
    exact pe_callTy ht gg hm hv ha n3 n1 (star_cons h1) (h2 _)
theorem ok_bi1 (O : XO P w K mg base p n F X c) {b : Bi} {s : Str} (hb : ∀ t, b ≠ .isin t) (hs : s = biName b) (hg : glB c.sc s = true) (hn : okN s = true) (hst : notStar x = true) (h : OKe F X x (E.e a)) :
    OKe F X (.Call (.Name s px) [x] [] pos) (stE E (.bi1 b a)) := by
  intro g r g' q pa T H0 σ H Q rl kk
  simp only [stE] at q
  cases e1 : rd1 E a g with
  | none => simp only [e1] at q; cases q
  | some t =>
    obtain ⟨u, g1⟩ := t
    simp only [e1] at q
    cases e2 : bi1D b u with
    | none => simp only [e2] at q; cases q
    | some r1 =>
      simp only [e2, Option.map_some, Option.some.injEq, Prod.mk.injEq] at q
      obtain ⟨rfl, rfl⟩ := q
      obtain ⟨t, ht, go⟩ := bi1_ok (X := X) hb O.calm O.gd O.hu e2
      refine wE_of (pe_bi O hs hg hn ht (pa_cons pe_w pa_nil (star_cons hst)) hst fun _ => rfl) ?_
      exact OKe.rd h g u g1 e1 pa T H0 σ H _ rl fun v H1 p1 => go _ _ _ _ p1.tr fun z H2 hz => kk z H2 (p1.n.res hz)
theorem ok_bi2 (O : XO P w K mg base p n F X c) {b : Bi} {s : Str} (hs : s = biName b) (hg : glB c.sc s = true) (hn : okN s = true) (hst : notStar x = true) (hst2 : notStar y = true) (h : OKe F X x (E.e a)) (h2 : OKe F X y (E.e d)) :
    OKe F X (.Call (.Name s px) [x, y] [] pos) (stE E (.bi2 b a d)) := by
  intro g r g' q pa T H0 σ H Q rl kk
  simp only [stE] at q
  cases e1 : rd2 E a d g with
  | none => simp only [e1] at q; cases q
  | some t =>
    obtain ⟨u, v, g1⟩ := t
    simp only [e1] at q
    cases e2 : bi2D b u v with
    | none => simp only [e2] at q; cases q
    | some r1 =>
      simp only [e2, Option.map_some, Option.some.injEq, Prod.mk.injEq] at q
      obtain ⟨rfl, rfl⟩ := q
      obtain ⟨t, ht, go⟩ := bi2_ok (X := X) O.calm e2
      refine wE_of (pe_bi O hs hg hn ht (pa_cons pe_w (pa_cons pe_w pa_nil (star_cons hst2)) (star_cons hst)) hst fun env => ?_) ?_
      · rw [star_cons hst2]; rfl
      · exact OKe.two h h2 e1 rl fun v1 v2 H' p2 => go _ _ _ _ _ p2.tr p2.tr2 fun z H2 hz => kk z H2 (p2.n.res hz)
theorem ok_isin (O : XO P w K mg base p n F X c) {s tz : Str} {t : String} {pz : Pos} (hs : s = "isinstance") (hg : glB c.sc s = true) (hn : okN s = true) (hz : tz = Str.ofString t) (hgz : glB c.sc tz = true) (hnz : okN tz = true) (hst : notStar x = true) (h : OKe F X x (E.e a))
    (ht : t = "int" ∨ t = "bool" ∨ t = "str" ∨ t = "list" ∨ t = "tuple") : OKe F X (.Call (.Name s px) [x, .Name tz pz] [] pos) (stE E (.bi1 (.isin t) a)) := by
  intro g r g' q pa T H0 σ H Q rl kk
  simp only [stE] at q
  cases e1 : rd1 E a g with
  | none => simp only [e1] at q; cases q
  | some tt =>
    obtain ⟨u, g1⟩ := tt
    simp only [e1] at q
    cases e2 : isinD t u with
    | none =>
      have : bi1D (.isin t) u = none := by cases u <;> simp only [bi1D, e2] <;> rfl
      simp only [this] at q
      cases q
    | some bb =>
      have : bi1D (.isin t) u = some (.d (.bool bb)) := by cases u <;> simp only [bi1D, e2] <;> rfl
      simp only [this, Option.map_some, Option.some.injEq, Prod.mk.injEq] at q
      obtain ⟨rfl, rfl⟩ := q
      obtain ⟨n1, n2, n3⟩ := okN_of hnz
      have hboot : bootBuiltins tz = some (.type t) ∧ tz ∈ bnames := by
        subst hz
        rcases ht with rfl | rfl | rfl | rfl | rfl <;> exact ⟨by decide +kernel, by decide⟩
      have pz' : PE X (.Name tz pz) (tC (.ty t)) := pe_bltn (gl_of O hgz) (O.bln hboot.2) hboot.1 rfl n3 n1
      refine wE_of (pe_bi (b := .isin t) O hs hg hn call_isi (pa_cons pe_w (pa_cons pz' pa_nil (star_cons rfl)) (star_cons hst)) hst fun _ => rfl) ?_
      exact OKe.rd h g u g1 e1 pa T H0 σ H _ rl fun v H1 p1 => ⟨v, .ty t, .type (tyD u), .type t, bb, rfl, .ty t, p1.tr.tyx, kit_ty (isin_kit e2), kk _ _ (p1.n.res (.same (.bl _)))⟩
/-! ### places -/
theorem plain_ix (h : notSlice y = true) : PlainIx y := fun o i => by cases y <;> first | rfl | cases h
theorem ok_idx (hs : notSlice y = true) (h : OKe F X x (E.e a)) (h2 : OKe F X y (E.e b)) : OKe F X (.Subscript x y pos) (stE E (.idx a b)) := by
  intro g r g' q pa T H0 σ H Q rl kk
  simp only [stE] at q
  cases e1 : E.e a g with
  | none => simp only [e1] at q; cases q
  | some t =>
    obtain ⟨r1, g1⟩ := t
    simp only [e1] at q
    cases e2 : rd1 E b g1 with
    | none => simp only [e2] at q; cases q
    | some t2 =>
      obtain ⟨v, g2⟩ := t2
      simp only [e2] at q
      by_cases hp : r1 = .pen
      · subst hp
        simp only at q
        cases e3 : g2.pen with
        | none => simp only [e3] at q; cases q
        | some xs =>
          simp only [e3] at q
          cases e4 : idxD (.list xs) v with
          | none => simp only [e4] at q; cases q
          | some dd =>
            simp only [e4, Option.map_some, Option.some.injEq, Prod.mk.injEq] at q
            obtain ⟨rfl, rfl⟩ := q
            obtain ⟨t, ht, go⟩ := idx_ok (X := X) e4
            refine wE_of (pe_ix ht pe_w pe_w (plain_ix hs)) (h g _ g1 e1 pa T H0 σ H _ rl fun v1 H1 p1 => ?_)
            refine OKe.rd h2 g1 v _ e2 pa _ H0 σ H1 _ p1.rel fun v2 H2 p2 => ?_
            obtain ⟨_, vs, q1, q2⟩ := p2.rel.pn xs e3
            have hv := p1.vr.1
            subst hv
            have pn := p1.n.then p2.n
            exact go _ H2 _ _ Q (.l q1 q2) p2.tr fun z hz => kk _ _ (pn.res (.same hz))
      · have q' : (match rdR r1 with
          | none => none
          | some x => (idxD x v).map fun d => (R.d d, g2)) = some (r, g') := by
            cases r1 <;> first | exact absurd rfl hp | exact q
        cases e3 : rdR r1 with
        | none => simp only [e3] at q'; cases q'
        | some u =>
          simp only [e3] at q'
          cases e4 : idxD u v with
          | none => simp only [e4] at q'; cases q'
          | some dd =>
            simp only [e4, Option.map_some, Option.some.injEq, Prod.mk.injEq] at q'
            obtain ⟨rfl, rfl⟩ := q'
            obtain ⟨t, ht, go⟩ := idx_ok (X := X) e4
            have e12 : rd2 E a b g = some (u, v, g2) := by
              unfold rd1 at e2
              cases f2 : E.e b g1 with
              | none => simp only [f2] at e2; cases e2
              | some s2 =>
                obtain ⟨r2, g2'⟩ := s2
                simp only [f2] at e2
                cases f3 : rdR r2 with
                | none => simp only [f3] at e2; cases e2
                | some v' =>
                  simp only [f3, Option.map_some, Option.some.injEq, Prod.mk.injEq] at e2
                  obtain ⟨rfl, rfl⟩ := e2
                  simp only [rd2, e1, f2, e3, f3]
            exact wE_of (pe_ix ht pe_w pe_w (plain_ix hs)) (OKe.two h h2 e12 rl fun v1 v2 H' p2 => go _ _ _ _ _ p2.tr p2.tr2 fun z hz => kk _ _ (p2.n.res (.same hz)))
end
end DL
end
section
set_option Elab.async false
set_option linter.all false
set_option maxRecDepth 100000
set_option autoImplicit false
set_option maxHeartbeats 2000000
/-! DL, part l: cuts, ranges as lists, texts. -/
namespace DL
open PySem PySem.Spec PyProof.Rows L2
variable [Tabs]
section
variable {P : Program} {w : World} {K : Fg} {mg : Str → Option Value} {base : Heap} {p : Pgm} {n m : Nat} {F : Fm} {X : Cx} {c : Ct} {E : Ev} {x y z : Expr} {a b d : IE} {es : List Expr} {is : List IE} {pos px : Pos}
/-- what was read first is still readable behind what follows -/
theorem PostE.over {pa : Addr} {T : AS} {H0 H H1 H2 : Hp} {σ : L2.St} {g g1 g2 : G} {v : V} {r : R} (p : PostE F K pa T H0 σ H g v H1 r g1) (q : PostN F K pa (ownT T v r) H0 σ H1 g1 H2 g2) :
    (∀ u, rdR r = some u → TR K (Nv pa T σ g2) H2 v u) ∧ PostN F K pa T H0 σ H g H2 g2 := by
  have e : pm pa g1.pen = pm pa g.pen := pm_eq p.pen
  have sub : ∀ a, Nv pa T σ g2 a → Nv pa T σ g1 a := by
    rintro a (z | z | z)
    · exact .inl z
    · exact .inr (.inl (by rw [← pm_eq q.pen]; exact z))
    · obtain ⟨i, z⟩ := z
      rcases q.sub a (.inr (.inr ⟨i, z⟩)) with q1 | q1 | q1
      · exact absurd q1 (q.rel.ownA z).2.2.1
      · exact .inr (.inl q1)
      · exact .inr (.inr q1)
  exact ⟨fun u h => p.read h q.ext sub, p.ext.trans (q.ext.mono fun a z => by rw [← e]; exact z), q.rel.mono fun a z => ownT_of _ _ _ _ z, q.pen.trans p.pen, fun a z => p.sub a (sub a z)⟩
theorem drs_ints {N : AS} {H : Hp} : ∀ ns : List Int, DRs K N H (ns.map V.int) (ns.map PyData.int)
  | [] => .nil
  | n :: ns => .cons (.int n) (drs_ints ns)
theorem okp (h : ∀ e i, chkE p m c e i = true → OKe F X e (E.e i)) {eo : Option Expr} {io : Option IE} (hc : chkO (chkE p m c) eo io = true) {g g' : G} {l : Option D} {li : Option Int} (q : evP E io g = some (l, g')) (hl : partD l = some li) :
    ∃ t : TO, PO X eo t ∧ ∀ {pa : Addr} {T : AS} {H0 H : Hp} {σ : L2.St} {Q : Option Int → Hp → Prop}, Rel F X.K pa T H0 σ H g → (∀ H', PostN F X.K pa T H0 σ H g H' g' → Q li H') → t σ H Q := by
  cases eo with
  | none =>
    cases io with
    | some i => cases hc
    | none =>
      cases q
      cases hl
      exact ⟨_, po_none, fun rl k => k _ ⟨.refl _ _, rl, rfl, fun _ z => z⟩⟩
  | some e =>
    cases io with
    | none => cases hc
    | some i =>
      simp only [evP] at q
      cases e1 : rd1 E i g with
      | none => simp only [e1] at q; cases q
      | some t =>
        obtain ⟨u, g1⟩ := t
        simp only [e1, Option.map_some, Option.some.injEq, Prod.mk.injEq] at q
        obtain ⟨rfl, rfl⟩ := q
        cases u with
        | int j =>
          cases hl
          exact ⟨_, po_some pe_w, fun rl k => OKe.rd (h e i hc) g _ g1 e1 _ _ _ _ _ _ rl fun v H1 p1 => ⟨j, p1.tr.int, k _ p1.n⟩⟩
        | _ => cases hl
theorem ok_slc (h : ∀ e i, chkE p m c e i = true → OKe F X e (E.e i)) {lo hi : Option Expr} {il ih : Option IE} {p2 : Pos} (ha : chkE p m c x a = true) (hl : chkO (chkE p m c) lo il = true) (hh : chkO (chkE p m c) hi ih = true) :
    OKe F X (.Subscript x (.Slice lo hi none p2) pos) (stE E (.slc a il ih)) := by
  intro g r g' q pa T H0 σ H Q rl kk
  simp only [stE] at q
  cases e1 : E.e a g with
  | none => simp only [e1] at q; cases q
  | some t =>
    obtain ⟨r1, g1⟩ := t
    simp only [e1] at q
    cases e2 : evP E il g1 with
    | none => simp only [e2] at q; cases q
    | some t2 =>
      obtain ⟨l, g2⟩ := t2
      simp only [e2] at q
      cases e3 : evP E ih g2 with
      | none => simp only [e3] at q; cases q
      | some t3 =>
        obtain ⟨u, g3⟩ := t3
        simp only [e3] at q
        cases e4 : partD l with
        | none => simp only [e4] at q; cases q
        | some li =>
          cases e5 : partD u with
          | none => simp only [e4, e5] at q; cases q
          | some ui =>
            simp only [e4, e5] at q
            obtain ⟨tl, pl, gol⟩ := okp (X := X) h hl e2 e4
            obtain ⟨th, ph, goh⟩ := okp (X := X) h hh e3 e5
            -- the three read one behind the other
            have run : ∀ {rr : V → Option Int → Option Int → Hp → VK → Prop} (_ : SlR X rr),
                (∀ v H1 H3, PostE F X.K pa T H0 σ H g v H1 r1 g1 → PostN F X.K pa (ownT T v r1) H0 σ H1 g1 H3 g3 → rr v li ui H3 Q) → wE X (.Subscript x (.Slice lo hi none p2) pos) σ H Q := fun {rr} hr k => by
              refine wE_of (pe_slice hr pe_w pl ph) (h x a ha g _ g1 e1 pa T H0 σ H _ rl fun v H1 p1 => ?_)
              refine gol p1.rel fun H2 q2 => ?_
              refine goh q2.rel fun H3 q3 => ?_
              exact k v H1 H3 p1 (q2.then q3)
            by_cases hs : ∃ ns, r1 = .scr ns
            · obtain ⟨ns, rfl⟩ := hs
              simp only [Option.some.injEq, Prod.mk.injEq] at q
              obtain ⟨rfl, rfl⟩ := q
              refine run sl_list fun v H1 H3 p1 q3 => ?_
              obtain ⟨aa, rfl, hsc⟩ := p1.vr
              refine ⟨aa, _, rfl, (hsc.ext q3.ext).sq, fun q hq => kk _ _ ?_⟩
              exact (p1.over q3).2.res (.lst hq (cutV_D (drs_ints ns)))
            · have q' : (match rdR r1 with
                | none => none
                | some x => (slcD x li ui).map fun r => (r, g3)) = some (r, g') := by
                cases r1 <;> first | exact absurd ⟨_, rfl⟩ hs | exact q
              cases e6 : rdR r1 with
              | none => simp only [e6] at q'; cases q'
              | some uu =>
                simp only [e6] at q'
                cases e7 : slcD uu li ui with
                | none => simp only [e7] at q'; cases q'
                | some r2 =>
                  simp only [e7, Option.map_some, Option.some.injEq, Prod.mk.injEq] at q'
                  obtain ⟨rfl, rfl⟩ := q'
                  obtain ⟨t, ht, go⟩ := slc_ok (X := X) e7
                  refine run ht fun v H1 H3 p1 q3 => ?_
                  obtain ⟨f1, f2⟩ := p1.over q3
                  exact go _ _ _ _ (f1 uu e6) fun z H' hz => kk _ _ (f2.res hz)
theorem ok_rev {k : Nat} {p1 p2 p3 : Pos} (h : OKe F X x (E.e a)) : OKe F X (.Subscript x (.Slice none none (some (.UnaryOp .USub (.Constant (.int 1) k p1) p2)) p3) pos) (stE E (.rev a)) := by
  intro g r g' q pa T H0 σ H Q rl kk
  simp only [stE] at q
  cases e1 : rd1 E a g with
  | none => simp only [e1] at q; cases q
  | some t =>
    obtain ⟨u, g1⟩ := t
    cases u with
    | list ds =>
      simp only [e1, Option.some.injEq, Prod.mk.injEq] at q
      obtain ⟨rfl, rfl⟩ := q
      refine wE_of (pe_revL pe_w) (OKe.rd h g _ g1 e1 pa T H0 σ H _ rl fun v H1 p1 => ?_)
      obtain ⟨aa, vs, rfl, hL, hD⟩ := p1.tr.list
      exact ⟨aa, vs, rfl, .of hL, fun q hq => kk _ _ (p1.n.res (.lst hq hD.reverse))⟩
    | tuple ds =>
      simp only [e1, Option.some.injEq, Prod.mk.injEq] at q
      obtain ⟨rfl, rfl⟩ := q
      refine wE_of (pe_revT pe_w) (OKe.rd h g _ g1 e1 pa T H0 σ H _ rl fun v H1 p1 => ?_)
      obtain ⟨aa, vs, rfl, hL, hD⟩ := p1.tr.tuple
      exact ⟨aa, vs, rfl, hL, fun q hq => kk _ _ (p1.n.res (.tup hq hD.reverse))⟩
    | _ => simp only [e1] at q; cases q
/-! ### ranges as lists and tuples -/
theorem drs_rg {N : AS} {H : Hp} {lo hi : Int} : DRs K N H (rgV lo hi) ((List.range (hi - lo).toNat).map fun (k : Nat) => PyData.int (lo + (k : Int))) := by
  unfold rgV
  generalize List.range (hi - lo).toNat = l
  induction l with
  | nil => exact .nil
  | cons i l ih => exact .cons (.int _) ih
theorem ok_rngL (O : XO P w K mg base p n F X c) (h : ∀ e i, chkE p m c e i = true → OKe F X e (E.e i)) {isT : Bool} {s sr : Str} {p1 p2 p3 : Pos} {ys : List Expr} (hs : s = (if isT then ("tuple" : Str) else "list")) (hg : glB c.sc s = true) (hn : okN s = true) (hr : sr = "range") (hgr : glB c.sc sr = true)
    (h1 : 1 ≤ is.length) (h2 : is.length ≤ 2) (hc : chkEs (chkE p m c) ys is = true) : OKe F X (.Call (.Name s p1) [.Call (.Name sr p2) ys [] p3] [] pos) (stE E (.rngL isT is)) := by
  intro g r g' q pa T H0 σ H Q rl kk
  simp only [stE] at q
  cases e1 : evDs E is g with
  | none => simp only [e1] at q; cases q
  | some t =>
    obtain ⟨ds, g1⟩ := t
    simp only [e1] at q
    cases e2 : rngD ds with
    | none => simp only [e2] at q; cases q
    | some xs =>
      simp only [e2] at q
      by_cases hz : xs.length ≤ szL
      · rw [if_pos hz] at q
        simp only [Option.some.injEq, Prod.mk.injEq] at q
        obtain ⟨rfl, rfl⟩ := q
        subst hr
        have mr := O.bln (s := "range") (by decide)
        have ml := O.bln (s := "list") (by decide)
        have mt := O.bln (s := "tuple") (by decide)
        have hx : szL = 16777216 := rfl
        -- from the range's ends on
        have fin : ∀ {te : L2.St → Hp → (Int → Int → Hp → Prop) → Prop} {lo hi : Int}, PRg X (.Call (.Name "range" p2) ys [] p3) te → xs = ((List.range (hi - lo).toNat).map fun (k : Nat) => PyData.int (lo + (k : Int))) →
            -(2 ^ 62) ≤ lo → lo < 2 ^ 62 → -(2 ^ 62) ≤ hi → hi < 2 ^ 62 → (∀ R : Int → Int → Hp → Prop, (∀ H1, PostN F X.K pa T H0 σ H g H1 g1 → R lo hi H1) → te σ H R) →
            wE X (.Call (.Name s p1) [.Call (.Name "range" p2) ys [] p3] [] pos) σ H Q := fun {te lo hi} hp ex b1 b2 b3 b4 run => by
          have ok : RgOk lo hi := ⟨b1, b2, b3, b4, by
            rw [ex, List.length_map, List.length_range, hx] at hz
            exact hz⟩
          cases isT with
          | false =>
            have hs' : s = "list" := hs
            subst hs'
            refine wE_of (pe_listRg O.calm (gl_of O hg) ml hp) (run _ fun H1 p1 => ⟨ok, fun q hq => kk _ _ (p1.res ?_)⟩)
            subst ex
            exact .lst hq drs_rg
          | true =>
            have hs' : s = "tuple" := hs
            subst hs'
            refine wE_of (pe_tupRg O.calm (gl_of O hg) mt hp) (run _ fun H1 p1 => ⟨ok, fun q hq => kk _ _ (p1.res ?_)⟩)
            subst ex
            exact .tup hq drs_rg
        cases is with
        | nil => exact absurd h1 (by simp)
        | cons i1 is1 =>
          cases ys with
          | nil => cases hc
          | cons y1 ys1 =>
            have hc' := hc
            simp only [chkEs, Bool.and_eq_true] at hc'
            obtain ⟨⟨st1, ck1⟩, ck1'⟩ := hc'
            cases is1 with
            | nil =>
              cases ys1 with
              | cons _ _ => cases ck1'
              | nil =>
                have hl := evDs_len g ds g1 e1
                obtain ⟨d1, rfl⟩ : ∃ d1, ds = [d1] := by
                  cases ds with
                  | nil => cases hl
                  | cons d1 r => cases r with
                    | nil => exact ⟨d1, rfl⟩
                    | cons _ _ => cases hl
                cases d1 with
                | int j =>
                  simp only [rngD] at e2
                  by_cases hb : -(2 ^ 62) ≤ j ∧ j < 2 ^ 62
                  · rw [if_pos hb] at e2
                    cases e2
                    refine fin (lo := 0) (hi := j) (prg_1 (gl_of O hgr) mr pe_w (star_cons st1)) (by rw [Int.sub_zero]) (by decide) (by decide) hb.1 hb.2 fun R k => ?_
                    have hv : OKe F X y1 (E.e i1) := h y1 i1 ck1
                    unfold evDs at e1
                    cases f1 : E.e i1 g with
                    | none => simp only [f1] at e1; cases e1
                    | some rg =>
                      obtain ⟨r1, ga⟩ := rg
                      simp only [f1] at e1
                      cases f2 : keepR r1 ga with
                      | none => simp only [f2] at e1; cases e1
                      | some dg =>
                        obtain ⟨dd, gb⟩ := dg
                        simp only [f2, evDs, Option.some.injEq, Prod.mk.injEq, List.cons.injEq, and_true] at e1
                        obtain ⟨rfl, rfl⟩ := e1
                        exact hv g r1 ga f1 pa T H0 σ H _ rl fun v H1 p1 => ⟨j, (p1.keep f2).dr.int_inv, k _ (p1.keep f2).n⟩
                  · rw [if_neg hb] at e2
                    cases e2
                | _ => simp only [rngD] at e2; cases e2
            | cons i2 is2 =>
              cases is2 with
              | cons _ _ => exact absurd h2 (by simp)
              | nil =>
                cases ys1 with
                | nil => cases ck1'
                | cons y2 ys2 =>
                  simp only [chkEs, Bool.and_eq_true] at ck1'
                  obtain ⟨⟨st2, ck2⟩, ck2'⟩ := ck1'
                  cases ys2 with
                  | cons _ _ => cases ck2'
                  | nil =>
                    unfold evDs at e1
                    cases f1 : E.e i1 g with
                    | none => simp only [f1] at e1; cases e1
                    | some rg =>
                      obtain ⟨r1, ga⟩ := rg
                      simp only [f1] at e1
                      cases f2 : keepR r1 ga with
                      | none => simp only [f2] at e1; cases e1
                      | some dg =>
                        obtain ⟨d1, gb⟩ := dg
                        simp only [f2, evDs] at e1
                        cases f3 : E.e i2 gb with
                        | none => simp only [f3] at e1; cases e1
                        | some rg2 =>
                          obtain ⟨r2, gc⟩ := rg2
                          simp only [f3] at e1
                          cases f4 : keepR r2 gc with
                          | none => simp only [f4] at e1; cases e1
                          | some dg2 =>
                            obtain ⟨d2, gd⟩ := dg2
                            simp only [f4, Option.some.injEq, Prod.mk.injEq] at e1
                            obtain ⟨rfl, rfl⟩ := e1
                            cases d1 with
                            | int lo =>
                              cases d2 with
                              | int hi =>
                                simp only [rngD] at e2
                                by_cases hb : -(2 ^ 62) ≤ lo ∧ lo < 2 ^ 62 ∧ -(2 ^ 62) ≤ hi ∧ hi < 2 ^ 62
                                · rw [if_pos hb] at e2
                                  cases e2
                                  refine fin (prg_2 (gl_of O hgr) mr pe_w pe_w (star_cons st1) (star_cons st2) (by rw [star_cons st2]; rfl)) rfl hb.1 hb.2.1 hb.2.2.1 hb.2.2.2 fun R k => ?_
                                  refine h y1 i1 ck1 g r1 ga f1 pa T H0 σ H _ rl fun v H1 p1 => ?_
                                  have k1 := p1.keep f2
                                  refine h y2 i2 ck2 gb r2 gc f3 pa T H0 σ H1 _ k1.rel fun v2 H2 p2 => ?_
                                  have k2 := p2.keep f4
                                  exact ⟨lo, hi, k1.dr.int_inv, k2.dr.int_inv, k _ (k1.n.then k2.n)⟩
                                · rw [if_neg hb] at e2
                                  cases e2
                              | _ => simp only [rngD] at e2; cases e2
                            | _ => simp only [rngD] at e2; cases e2
      · rw [if_neg hz] at q
        cases q
/-! ### texts -/
theorem attr_base {s : Str} {env : Env} (h : plainBase x = true) : attributeBase x s env (eval x env) = eval x env := by
  cases x <;> first | rfl | cases h
theorem few_one {env : Env} (h : notStar y = true) : ((backTo pos (starEach [y] env)).all (fun x => !x.1) && (backToKw pos (keywordEach [] env)).all (fun x => x.1.isSome)
      && decide ([y].length + ([] : List Keyword).length + (if ([] : List Keyword).isEmpty then 0 else 1) < 30)) = true := by
  rw [star_cons h]
  rfl
theorem ok_idxS (O : XO P w K mg base p n F X c) {s : Str} {apos : Pos} (hs : s = "index") (hb : plainBase x = true) (hl : (apos.endLine == pos.line) = true) (hst : notStar y = true) (h : OKe F X x (E.e a)) (h2 : OKe F X y (E.e b)) :
    OKe F X (.Call (.Attribute x s apos) [y] [] pos) (stE E (.idxS a b)) := by
  subst hs
  intro g r g' q pa T H0 σ H Q rl kk
  simp only [stE] at q
  cases e1 : rd2 E a b g with
  | none => simp only [e1] at q; cases q
  | some t =>
    obtain ⟨u, v, g1⟩ := t
    cases u with
    | str su =>
      cases v with
      | str sv =>
        simp only [e1] at q
        cases e2 : Txt.index0 su sv with
        | none => simp only [e2] at q; cases q
        | some i =>
          simp only [e2, Option.map_some, Option.some.injEq, Prod.mk.injEq] at q
          obtain ⟨rfl, rfl⟩ := q
          have pe := pe_bmS (X := X) (o := x) (e := y) (es := []) (apos := apos) (cpos := pos) PySem.F.plainAttrs_str PySem.F.slot_str_index PySem.F.type_str_index (mt_indexX (X := X) (W := fun _ _ _ _ => False) O.calm LamX.takes0) pe_w (pa_cons pe_w pa_nil (star_cons hst)) (attr_base hb) (few_one hst) hl (star_cons hst) rfl
          refine wE_of pe ?_
          unfold tBMS tCons tNil
          -- the text is read first, then the sign
          unfold rd2 at e1
          cases f1 : E.e a g with
          | none => simp only [f1] at e1; cases e1
          | some s1 =>
            obtain ⟨ra, ga⟩ := s1
            simp only [f1] at e1
            cases f2 : E.e b ga with
            | none => simp only [f2] at e1; cases e1
            | some s2 =>
              obtain ⟨rb, gb⟩ := s2
              simp only [f2] at e1
              cases f3 : rdR ra with
              | none => simp only [f3] at e1; cases e1
              | some xa =>
                cases f4 : rdR rb with
                | none => simp only [f3, f4] at e1; cases e1
                | some xb =>
                  simp only [f3, f4, Option.some.injEq, Prod.mk.injEq] at e1
                  obtain ⟨rfl, rfl, rfl⟩ := e1
                  refine h g ra ga f1 pa T H0 σ H _ rl fun v1 H1 p1 => ?_
                  have hv1 : v1 = .str su := (p1.rd f3).tr.str
                  refine ⟨by rw [hv1]; rfl, ?_⟩
                  refine h2 ga rb gb f2 pa _ H0 σ H1 _ p1.rel fun v2 H2 p2 => ?_
                  have hv2 : v2 = .str sv := (p2.rd f4).tr.str
                  refine ⟨su, sv, hv1, by rw [hv2], fun k hk => ?_, fun hk => ?_⟩
                  · rw [e2] at hk
                    cases hk
                    exact kk _ _ ((p1.two p2 f3 f4).n.res (.same (.int _)))
                  · rw [e2] at hk
                    cases hk
      | _ => simp only [e1] at q; cases q
    | _ => simp only [e1] at q; cases q
theorem ok_join {s : Str} {apos : Pos} (hs : s = "join") (hb : plainBase x = true) (hl : (apos.endLine == pos.line) = true) (hst : notStar y = true) (h : OKe F X x (E.e a)) (h2 : OKe F X y (E.e b)) :
    OKe F X (.Call (.Attribute x s apos) [y] [] pos) (stE E (.join a b)) := by
  subst hs
  intro g r g' q pa T H0 σ H Q rl kk
  simp only [stE] at q
  cases e1 : rd2 E a b g with
  | none => simp only [e1] at q; cases q
  | some t =>
    obtain ⟨u, v, g1⟩ := t
    cases u with
    | str su =>
      cases v with
      | list ds =>
        simp only [e1] at q
        cases e2 : strsD ds with
        | none => simp only [e2] at q; cases q
        | some ys =>
          simp only [e2] at q
          by_cases hz : (ys.map (·.length)).sum + ys.length * su.length ≤ szL
          · rw [if_pos hz] at q
            simp only [Option.some.injEq, Prod.mk.injEq] at q
            obtain ⟨rfl, rfl⟩ := q
            refine wE_of (pe_join pe_w pe_w (star_cons hst) (attr_base hb) hl) ?_
            unfold tM1
            unfold rd2 at e1
            cases f1 : E.e a g with
            | none => simp only [f1] at e1; cases e1
            | some s1 =>
              obtain ⟨ra, ga⟩ := s1
              simp only [f1] at e1
              cases f2 : E.e b ga with
              | none => simp only [f2] at e1; cases e1
              | some s2 =>
                obtain ⟨rb, gb⟩ := s2
                simp only [f2] at e1
                cases f3 : rdR ra with
                | none => simp only [f3] at e1; cases e1
                | some xa =>
                  cases f4 : rdR rb with
                  | none => simp only [f3, f4] at e1; cases e1
                  | some xb =>
                    simp only [f3, f4, Option.some.injEq, Prod.mk.injEq] at e1
                    obtain ⟨rfl, rfl, rfl⟩ := e1
                    refine h g ra ga f1 pa T H0 σ H _ rl fun v1 H1 p1 => ?_
                    have hv1 : v1 = .str su := (p1.rd f3).tr.str
                    refine ⟨⟨su, hv1⟩, ?_⟩
                    refine h2 ga rb gb f2 pa _ H0 σ H1 _ p1.rel fun v2 H2 p2 => ?_
                    have p12 := p1.two p2 f3 f4
                    obtain ⟨aa, vs, rfl, hL, hD⟩ := p12.tr2.list
                    rw [strs_D e2 hD] at hL
                    exact ⟨su, aa, ys, hv1, rfl, .inl (.of hL), hz, kk _ _ (p12.n.res (.same (.str _)))⟩
          · rw [if_neg hz] at q
            cases q
      | _ => simp only [e1] at q; cases q
    | _ => simp only [e1] at q; cases q
end
end DL
end
section
set_option Elab.async false
set_option linter.all false
set_option maxRecDepth 100000
set_option autoImplicit false
set_option maxHeartbeats 2000000
/-! DL, part m: what is walked; names stored, forgotten. -/
namespace DL
open PySem PySem.Spec PyProof.Rows L2
variable [Tabs]

/-! ### the slots -/
section
variable {F : Fm} {K : Fg} {pa : Addr} {T : AS} {H0 H H1 : Hp} {σ σ' : L2.St} {g g1 : G} {v : V} {x : D} {i : Nat}
theorem Own.env {σ σ' : L2.St} {g g' : G} {a : Addr} (h : Own σ g i a) (he : ∀ sv, g.env[i]? = some (some sv) → g'.env[i]? = some (some sv) ∧ σ'[i]? = σ[i]?) : Own σ' g' i a := by
  obtain ⟨xs, h1, ho, h2⟩ := h
  obtain ⟨q1, q2⟩ := he _ h1
  exact ⟨xs, q1, ho, q2.trans h2⟩
/-- what the state says hangs on the known names alone -/
theorem Rel.sig (r : Rel F K pa T H0 σ H g) (hl : σ'.length = σ.length) (h : ∀ (i : Nat) (sv : Sv), g.env[i]? = some (some sv) → σ'[i]? = σ[i]?) : Rel F K pa T H0 σ' H g ∧ ∀ a, Nv pa T σ' g a → Nv pa T σ g a := by
  have own : ∀ i a, Own σ' g i a → Own σ g i a := fun i a ⟨xs, h1, ho, h2⟩ => ⟨xs, h1, ho, (h i _ h1).symm.trans h2⟩
  have sub : ∀ a, Nv pa T σ' g a → Nv pa T σ g a := fun a z => z.imp id fun z => z.imp id fun ⟨i, z⟩ => ⟨i, own i a z⟩
  refine ⟨⟨hl.trans r.len, fun i sv e => ?_, fun i j a h1 h2 => r.ap i j a (own i a h1) (own j a h2), fun xs e => ?_, r.td, r.x0, r.tb, r.fo⟩, sub⟩
  · obtain ⟨v, e1, q⟩ := r.sl i sv e
    exact ⟨v, (h i sv e).trans e1, q.go (.refl _ _) (fun a z => .inr (.inl z)) sub (fun _ z => z) rfl⟩
  · obtain ⟨q1, vs, q2, q3⟩ := r.pn xs e
    exact ⟨q1, vs, q2, q3.mono sub⟩
/-- fewer names are known -/
theorem Rel.less (r : Rel F K pa T H0 σ H g) {env : List (Option Sv)} (hl : env.length = g.env.length) (h : ∀ (i : Nat) (sv : Sv), env[i]? = some (some sv) → g.env[i]? = some (some sv)) :
    Rel F K pa T H0 σ H { g with env := env } ∧ ∀ a, Nv pa T σ { g with env := env } a → Nv pa T σ g a := by
  have own : ∀ i a, Own σ { g with env := env } i a → Own σ g i a := fun i a ⟨xs, h1, ho, h2⟩ => ⟨xs, h i _ h1, ho, h2⟩
  have sub : ∀ a, Nv pa T σ { g with env := env } a → Nv pa T σ g a := fun a z => z.imp id fun z => z.imp id fun ⟨i, z⟩ => ⟨i, own i a z⟩
  refine ⟨⟨r.len.trans hl.symm, fun i sv e => ?_, fun i j a h1 h2 => r.ap i j a (own i a h1) (own j a h2), fun xs e => ?_, r.td, r.x0, r.tb, fun i k js e => r.fo i k js (h i _ e)⟩, sub⟩
  · obtain ⟨v, e1, q⟩ := r.sl i sv (h i sv e)
    exact ⟨v, e1, q.go (.refl _ _) (fun a z => .inr (.inl z)) sub (fun _ z => z) rfl⟩
  · obtain ⟨q1, vs, q2, q3⟩ := r.pn xs e
    exact ⟨q1, vs, q2, q3.mono sub⟩
/-- a datum is stored -/
theorem Rel.stD (r : Rel F K pa T H0 σ H g) (hi : i < g.env.length) (hd : DR K (Nv pa T σ g) H v x) : Rel F K pa T H0 (σ.set i (some v)) H (setD g i x) ∧ ∀ a, Nv pa T (σ.set i (some v)) (setD g i x) a → Nv pa T σ g a := by
  have hiσ : i < σ.length := by rw [r.len]; exact hi
  have at_ : ∀ j sv, (setD g i x).env[j]? = some (some sv) → (j = i ∧ sv = .d x) ∨ (j ≠ i ∧ g.env[j]? = some (some sv) ∧ (σ.set i (some v))[j]? = σ[j]?) := fun j sv h => by
    have h' : (g.env.set i (some (.d x)))[j]? = some (some sv) := h
    by_cases hj : i = j
    · subst hj
      rw [List.getElem?_set_self hi] at h'
      cases h'
      exact .inl ⟨rfl, rfl⟩
    · rw [List.getElem?_set_ne hj] at h'
      exact .inr ⟨fun z => hj z.symm, h', List.getElem?_set_ne hj⟩
  have own : ∀ j a, Own (σ.set i (some v)) (setD g i x) j a → Own σ g j a := fun j a ⟨xs, h1, ho, h2⟩ => by
    rcases at_ j _ h1 with ⟨_, z⟩ | ⟨_, q1, q2⟩
    · rw [z] at ho
      cases ho
    · exact ⟨xs, q1, ho, q2.symm.trans h2⟩
  have sub : ∀ a, Nv pa T (σ.set i (some v)) (setD g i x) a → Nv pa T σ g a := fun a z => z.imp id fun z => z.imp id fun ⟨i, z⟩ => ⟨i, own i a z⟩
  refine ⟨⟨by rw [List.length_set]; show σ.length = (g.env.set i (some (.d x))).length; rw [List.length_set]; exact r.len, fun j sv e => ?_, fun i j a h1 h2 => r.ap i j a (own i a h1) (own j a h2), fun xs e => ?_, r.td, r.x0, r.tb, fun j k js e => ?_⟩, sub⟩
  · rcases at_ j sv e with ⟨rfl, rfl⟩ | ⟨_, q1, q2⟩
    · exact ⟨v, List.getElem?_set_self hiσ, hd.mono sub⟩
    · obtain ⟨u, e1, q⟩ := r.sl j sv q1
      exact ⟨u, q2.trans e1, q.go (.refl _ _) (fun a z => .inr (.inl z)) sub (fun _ z => z) rfl⟩
  · obtain ⟨q1, vs, q2, q3⟩ := r.pn xs e
    exact ⟨q1, vs, q2, q3.mono sub⟩
  · rcases at_ j _ e with ⟨_, z⟩ | ⟨_, q1, _⟩
    · cases z
    · exact r.fo j k js q1
/-- a watched list is written -/
theorem Rel.putT (r : Rel F K pa T H0 σ H g) {p : Addr} {o : HO} {vs : List V} (hT : T p) (hp : H p = some (.lst vs)) (h0 : H0 p = none) (ho : TOk p o) : Rel F K pa T H0 σ (upd H p o) g := by
  have nNv : ∀ a, ¬ Nv pa T σ g a → a ≠ p := fun a h z => h (.inl (z ▸ hT))
  have e : Ext (fun a => a = p) H (upd H p o) := .put rfl hp
  have hm : ∀ a, a = p → Nv pa T σ g a := fun a z => .inl (z ▸ hT)
  refine ⟨r.len, fun i sv q => ?_, r.ap, fun xs q => ?_, fun a q => ?_, ?_, r.tb, r.fo⟩
  · obtain ⟨v, e1, z⟩ := r.sl i sv q
    refine ⟨v, e1, ?_⟩
    have hx : ∀ a φ, ¬ Nv pa T σ g a → H a = some (.ext φ) → ¬ Nv pa T σ g a ∧ upd H p o a = some (.ext φ) := fun a φ n z => ⟨n, (upd_ne (nNv a n)).trans z⟩
    cases sv with
    | d x => exact DR.ext e hm z
    | own xs => obtain ⟨a, ws, e2, e3, e4, e5, e6, e7⟩ := z; exact ⟨a, ws, e2, e.k _ _ e3 (fun z => e6 (z ▸ hT)) (fun _ => nofun), e4.ext e hm, e5, e6, e7⟩
    | scr ns =>
      obtain ⟨a, h1, h2⟩ := z
      refine ⟨a, h1, h2.imp (fun ⟨f1, ob, f2⟩ => ⟨f1, ob, e.k _ _ f2 (fun z => ?_) fun _ => nofun⟩) id⟩
      rw [z, hp] at f2
      cases f2
    | pen => exact z
    | fn k cs => exact CvR.trans (fun _ _ z => DR.ext e hm z) hx (crH.mv hx) z
    | ofn k js => exact OFn.trans hx z
    | dic t kvs => obtain ⟨a, ws, e2, e3, e4, e5, e6, e7⟩ := z; exact ⟨a, ws, e2, e.k _ _ e3 (fun z => e6 (z ▸ hT)) (fun _ => nofun), e4.ext e hm, e5, e6, e7⟩
  · obtain ⟨q1, ws, q2, q3⟩ := r.pn xs q
    exact ⟨q1, ws, e.k _ _ q2 (fun z => q1 (z ▸ hT)) (fun _ => nofun), q3.ext e hm⟩
  · by_cases hap : a = p
    · subst hap
      exact ⟨o, upd_same, ho⟩
    · obtain ⟨u, z, nt⟩ := r.td a q
      exact ⟨u, (upd_ne hap).trans z, nt⟩
  · refine ⟨fun b u h1 h2 h3 => ?_, fun b h => e.t b (r.x0.t b h), fun b h => r.x0.d b (e.d b h)⟩
    have nb : b ≠ p := fun z => by rw [z, h0] at h1; cases h1
    exact (upd_ne nb).trans (r.x0.k b u h1 h2 h3)
theorem Nv.putT {p : Addr} {o : HO} {vs : List V} (hT : T p) (hp : H p = some (.lst vs)) {v : V} {d : D} (q : DR K (Nv pa T σ g) H v d) : DR K (Nv pa T σ g) (upd H p o) v d :=
  DR.ext (m := fun a => a = p) (.put rfl hp) (fun a z => .inl (z ▸ hT)) q
theorem Nv.putTs {p : Addr} {o : HO} {vs : List V} (hT : T p) (hp : H p = some (.lst vs)) {v : List V} {d : List D} (q : DRs K (Nv pa T σ g) H v d) : DRs K (Nv pa T σ g) (upd H p o) v d :=
  DRs.ext (m := fun a => a = p) (.put rfl hp) (fun a z => .inl (z ▸ hT)) q
end

/-! ### forgetting -/
theorem wipeE_length (env : List (Option Sv)) : ∀ vs : List Nat, (wipeE env vs).length = env.length
  | [] => rfl
  | v :: vs => by unfold wipeE; rw [List.length_set, wipeE_length env vs]
theorem wipeE_some {env : List (Option Sv)} {i : Nat} {sv : Sv} : ∀ {vs : List Nat}, (wipeE env vs)[i]? = some (some sv) → env[i]? = some (some sv) ∧ i ∉ vs
  | [], h => ⟨h, by simp⟩
  | v :: vs, h => by
    unfold wipeE at h
    by_cases hv : v = i
    · subst hv
      by_cases hl : v < (wipeE env vs).length
      · rw [List.getElem?_set_self hl] at h; cases h
      · rw [List.getElem?_set, if_pos rfl, if_neg hl] at h; cases h
    · rw [List.getElem?_set_ne hv] at h
      obtain ⟨h1, h2⟩ := wipeE_some h
      exact ⟨h1, fun z => (List.mem_cons.mp z).elim (fun e => hv e.symm) h2⟩
section
variable {F : Fm} {K : Fg} {pa : Addr} {T : AS} {H0 H H1 : Hp} {σ σ' : L2.St} {g g1 : G}
theorem Rel.wipe (r : Rel F K pa T H0 σ H g) (vs : List Nat) : Rel F K pa T H0 (L2.wipe σ vs) H { g with env := wipeE g.env vs } ∧ ∀ a, Nv pa T (L2.wipe σ vs) { g with env := wipeE g.env vs } a → Nv pa T σ g a := by
  obtain ⟨r1, s1⟩ := r.less (wipeE_length g.env vs) fun i sv h => (wipeE_some h).1
  obtain ⟨r2, s2⟩ := r1.sig (σ' := L2.wipe σ vs) (L2.wipe_length σ vs) fun i sv h => L2.wipe_out (wipeE_some h).2
  exact ⟨r2, fun a z => s1 a (s2 a z)⟩
theorem Rel.unwipe {vs : List Nat} {env : List (Option Sv)} {p : Option (List D)} (r : Rel F K pa T H0 (L2.wipe σ vs) H ⟨wipeE env vs, p⟩) : Rel F K pa T H0 σ H ⟨wipeE env vs, p⟩ ∧ ∀ a, Nv pa T σ ⟨wipeE env vs, p⟩ a → Nv pa T (L2.wipe σ vs) ⟨wipeE env vs, p⟩ a :=
  r.sig (L2.wipe_length σ vs).symm fun i sv h => (L2.wipe_out (wipeE_some h).2).symm
end

/-! ### targets -/
def gNames : List Nat → TGs
  | [] => gNil
  | i :: is => gCons (gName i) (gNames is)
def tgG (K : Fg) : Tg → TG
  | .one i => gName i
  | .many is => gTup K is.length (gNames is)
def tgIs : Tg → List Nat
  | .one i => [i]
  | .many is => is
section
variable {P : Program} {w : World} {K : Fg} {mg : Str → Option Value} {base : Heap} {p : Pgm} {n m : Nat} {F : Fm} {X : Cx} {c : Ct}
/-- the names that a frame may store -/
structure XG (X : Cx) (c : Ct) : Prop where
  calm : X.calm = true
  nd : X.N.Nodup
  cN : c.N = X.N
  st : ∀ s, locB c.sc s = true → L2.Loc X.env.scope s ∧ (X.fn s = true ∨ X.env.scope.names.lookup s = some .local)
theorem pg_nm (O : XG X c) {s : Str} {i : Nat} {pos : Pos} (h : c.N[i]? = some s) (hl : locB c.sc s = true) : PG X (.Name s pos) (gName i) := by
  obtain ⟨h1, h2⟩ := O.st s hl
  exact pg_name O.nd (by rw [← O.cN]; exact h) h1 h2
theorem pgs_nm (O : XG X c) : ∀ {es : List Expr} {is : List Nat}, chkNm c es is = true → PGs X es (gNames is) ∧ (assignEach es X.env).length = is.length ∧ (assignEach es X.env).findIdx? (·.1) = none
  | [], [], _ => ⟨pgs_nil, rfl, rfl⟩
  | [], _ :: _, h => by cases h
  | e :: es, [], h => by cases e <;> cases h
  | e :: es, i :: is, h => by
    cases e with
    | Name s pos =>
      simp only [chkNm, Bool.and_eq_true, decide_eq_true_eq] at h
      obtain ⟨h1, h2, h3⟩ := pgs_nm O h.2
      refine ⟨pgs_cons (pg_nm O h.1.1 h.1.2) h1 rfl, ?_, ?_⟩
      · show (assignEach es X.env).length + 1 = is.length + 1
        rw [h2]
      · show List.findIdx? (·.1) ((false, assign (.Name s pos) X.env) :: assignEach es X.env) = none
        rw [List.findIdx?_cons, h3]
        rfl
    | _ => cases h
theorem pg_tg (O : XG X c) {e : Expr} {t : Tg} (h : chkTg c e t = true) : PG X e (tgG X.K t) := by
  cases t with
  | one i =>
    cases e with
    | Name s pos =>
      simp only [chkTg, Bool.and_eq_true, decide_eq_true_eq] at h
      exact pg_nm O h.1 h.2
    | _ => cases h
  | many is =>
    cases e with
    | Tuple es k pos =>
      obtain ⟨h1, h2, h3⟩ := pgs_nm O (show chkNm c es is = true from h)
      exact pg_tup O.calm h1 h2 h3
    | _ => cases h
/-- the names that a target stores are slots -/
theorem chkNm_lt : ∀ {es : List Expr} {is : List Nat}, chkNm c es is = true → ∀ i ∈ is, i < c.N.length
  | [], [], _, i, hi => by cases hi
  | [], _ :: _, h, _, _ => by cases h
  | e :: es, [], h, _, hi => by cases hi
  | e :: es, j :: is, h, i, hi => by
    cases e with
    | Name s pos =>
      simp only [chkNm, Bool.and_eq_true, decide_eq_true_eq] at h
      rcases List.mem_cons.mp hi with z | z
      · rw [z]
        exact (List.getElem?_eq_some_iff.mp h.1.1).1
      · exact chkNm_lt h.2 i z
    | _ => cases h
theorem chkTg_lt {e : Expr} {t : Tg} (h : chkTg c e t = true) : ∀ i ∈ tgIs t, i < c.N.length := by
  cases t with
  | one j =>
    cases e with
    | Name s pos =>
      simp only [chkTg, Bool.and_eq_true, decide_eq_true_eq] at h
      intro i hi
      rw [List.mem_singleton.mp hi]
      exact (List.getElem?_eq_some_iff.mp h.1).1
    | _ => cases h
  | many is =>
    cases e with
    | Tuple es k pos => exact chkNm_lt (show chkNm c es is = true from h)
    | _ => cases h
end
section
variable {F : Fm} {K : Fg} {pa : Addr} {T : AS} {H0 H : Hp} {x : D} {v : V}
theorem setDs_ok : ∀ {is : List Nat} {ds : List D} {vs : List V} {σ : L2.St} {g g' : G} {Q : L2.St → Hp → Prop}, setDs g is ds = some g' → (∀ i ∈ is, i < g.env.length) → Rel F K pa T H0 σ H g → DRs K (Nv pa T σ g) H vs ds →
    (∀ σ', Rel F K pa T H0 σ' H g' → (∀ a, Nv pa T σ' g' a → Nv pa T σ g a) → (∀ js : List Nat, (∀ i ∈ is, i ∈ js) → L2.wipe σ' js = L2.wipe σ js) → g'.pen = g.pen → Q σ' H) → gNames is vs σ H Q
  | [], [], _, σ, g, g', Q, h, _, r, .nil, k => by
    cases h
    exact ⟨rfl, k σ r (fun _ z => z) (fun _ _ => rfl) rfl⟩
  | [], _ :: _, _, _, _, _, _, h, _, _, _, _ => by cases h
  | _ :: _, [], _, _, _, _, _, h, _, _, _, _ => by cases h
  | i :: is, d :: ds, _, σ, g, g', Q, h, hl, r, .cons (v := v) (vs := vs) a b, k => by
    obtain ⟨r1, s1⟩ := r.stD (hl i List.mem_cons_self) a
    refine ⟨v, vs, rfl, ?_⟩
    show gNames is vs (σ.set i (some v)) H Q
    refine setDs_ok (g := setD g i d) h (fun j hj => ?_) r1 (b.mono s1) fun σ' r2 s2 w2 p2 => k σ' r2 (fun a z => s1 a (s2 a z)) (fun js hjs => ?_) (p2.trans rfl)
    · show j < (g.env.set i (some (.d d))).length
      rw [List.length_set]
      exact hl j (List.mem_cons_of_mem _ hj)
    · rw [w2 js fun j hj => hjs j (List.mem_cons_of_mem _ hj)]
      exact wipe_set (hjs i List.mem_cons_self)
where wipe_set {σ : L2.St} {i : Nat} {y : Option V} : ∀ {js : List Nat}, i ∈ js → L2.wipe (σ.set i y) js = L2.wipe σ js
  | [], h => by cases h
  | j :: js, h => by
    show (L2.wipe (σ.set i y) js).set j none = (L2.wipe σ js).set j none
    by_cases hm : i ∈ js
    · rw [wipe_set hm]
    · have e : i = j := (List.mem_cons.mp h).elim id fun z => absurd z hm
      subst e
      have comm : ∀ (ks : List Nat), i ∉ ks → L2.wipe (σ.set i y) ks = (L2.wipe σ ks).set i y := by
        intro ks
        induction ks with
        | nil => intro _; rfl
        | cons k ks ih =>
          intro hk
          show (L2.wipe (σ.set i y) ks).set k none = ((L2.wipe σ ks).set k none).set i y
          rw [ih fun z => hk (List.mem_cons_of_mem _ z), List.set_comm]
          exact fun z => hk (by rw [z]; exact List.mem_cons_self)
      rw [comm js hm, List.set_set]
theorem asg_ok {t : Tg} {σ : L2.St} {g g' : G} {Q : L2.St → Hp → Prop} (h : asgT t x g = some g') (hl : ∀ i ∈ tgIs t, i < g.env.length) (r : Rel F K pa T H0 σ H g) (hd : DR K (Nv pa T σ g) H v x)
    (k : ∀ σ', Rel F K pa T H0 σ' H g' → (∀ a, Nv pa T σ' g' a → Nv pa T σ g a) → L2.wipe σ' (tgIs t) = L2.wipe σ (tgIs t) → g'.pen = g.pen → Q σ' H) : tgG K t v σ H Q := by
  cases t with
  | one i =>
    cases h
    obtain ⟨r1, s1⟩ := r.stD (hl i (by exact List.mem_singleton.mpr rfl)) hd
    exact k _ r1 s1 (setDs_ok.wipe_set (by exact List.mem_singleton.mpr rfl)) rfl
  | many is =>
    cases x with
    | tuple ds =>
      have h' : setDs g is ds = some g' := h
      obtain ⟨a, vs, rfl, h1, h2⟩ := hd.tuple_inv
      have len : ∀ {is : List Nat} {ds : List D} {g g' : G}, setDs g is ds = some g' → ds.length = is.length := by
        intro is
        induction is with
        | nil => intro ds g g' h; cases ds with
          | nil => rfl
          | cons _ _ => cases h
        | cons i is ih => intro ds g g' h; cases ds with
          | nil => cases h
          | cons d ds => rw [List.length_cons, List.length_cons, ih (show setDs (setD g i d) is ds = some g' from h)]
      exact ⟨a, vs, rfl, h1.sq, by rw [h2.length, len h'], setDs_ok h' hl r h2 fun σ' r2 s2 w2 p2 => k σ' r2 s2 (w2 is fun _ z => z) p2⟩
    | _ => cases h
end
end DL
end
section
set_option Elab.async false
set_option linter.all false
set_option maxRecDepth 100000
set_option autoImplicit false
set_option maxHeartbeats 4000000
/-! DL, part n0: enumerate of a tuple. -/
namespace DL
open PySem PySem.Spec PyProof.Rows L2
variable [Tabs]
open AutoSeq1 (wpAny_loadPart')
theorem draws_tup {prog : Program} {w : World} {A : Around} (hh : A.handled = none) (it t : Addr) (ne : t ≠ it) (xs : Array Value) :
    Draws prog w A it [it, t] xs.size (fun i v => xs[i]? = some v) (fun i h => h.IsTupleIter it t i ∧ h.IsTuple t xs) := by
  constructor
  · rintro i h ⟨⟨o, ho, _⟩, _⟩
    exact ⟨o, ho⟩
  · rintro i h h' ⟨⟨o, ho, r⟩, o2, ho2, r2⟩ k
    exact ⟨⟨o, k it (by simp) o ho, r⟩, o2, k t (by simp) o2 ho2, r2⟩
  · intro i s Q E hi st hQ
    refine RZ.nextOf_tuple_item st.1 st.2 (x := xs[i]) (by simp [hi]) fun h' n1 same => ?_
    exact hQ _ h' s.toks (by simp [hi]) ⟨n1, st.2.extBut same.extBut ne⟩ same
  · intro s Q E st hE
    exact RZ.nextOf_tuple_end hh st.1 st.2 (by simp) hE
/-- what enumerate(t) lays: an iterator over t, and the object itself -/
abbrev tItO (t : Addr) : Obj := { cls := .type "tuple_iterator", data := .fields #[.ref t, .int 0 0] }
abbrev enO (it : Addr) : Obj := { cls := .type "enumerate", data := .fields #[.none, .bool false, .ref it, rawInt 0, .none, .none] }
theorem enum_new (t : Addr) (xs : Array Value) (k : Nat) (dd : Option Addr) (sl : Array (Option Value)) :
    Meets (Builtin.«enumerate.__new__» ⟨[.type "enumerate", .ref t], []⟩) (fun _ R s => s.heap.get? t = some { cls := .type "tuple", dict := dd, data := .seq xs k, slots := sl } ∧
      R (.ok (.ret (.ref (s.heap.push (tItO t)).objs.size))) { s with heap := (s.heap.push (tItO t)).push (enO s.heap.objs.size) }) :=
  .of_wp fun prog w A R s both => by
    obtain ⟨hp, ge, dr, tk, os⟩ := s
    obtain ⟨at_, fin⟩ := both
    have sub := sub_enumerate
    have tup : Heap.IsTuple (Shared.heap ⟨hp, ge, dr, tk, os⟩) t xs := ⟨_, at_, rfl, k, rfl⟩
    wp_walk using wpAny_loadPart' at_
    refine wpAny_stack_any fun st => wpAny_pure ?_
    split
    · rename_i c _ _ _ _ _
      cases (c == Value.type "enumerate") <;> (wp_walk using wpAny_loadPart' at_, wpAny_pyIter_tuple tup; exact ⟨_, rfl, fin⟩)
    · wp_walk using wpAny_loadPart' at_, wpAny_pyIter_tuple tup
      exact ⟨_, rfl, fin⟩
section
variable {prog : Program} {w : World} {A : Around} {E : Value → Shared → Prop} {s : Shared}
theorem call_enum_tup {t : Addr} {xs : Array Value} {Q : Value → Shared → Prop} (tup : s.heap.IsTuple t xs)
    (h : ∀ h', IsEnum h' (s.heap.objs.size + 1) s.heap.objs.size 0 .none → h'.IsTupleIter s.heap.objs.size t 0 → (∀ b o, s.heap.get? b = some o → h'.get? b = some o) → Q (.ref (s.heap.objs.size + 1)) { s with heap := h' }) :
    wpAny (model prog w) A (call (.type "enumerate") [.ref t]) Q E s := by
  obtain ⟨⟨c, dd, dt, sl⟩, at_, hc, k, hd⟩ := tup
  simp only at hc hd
  subst hc hd
  refine callType_new F.called_enumerate (by decide) (F.typeCall_enumerate_1 _) (F.newCall_enumerate_1 _) (fun obj => F.args_object_init_2 obj _) F.entry_enumerate_new (enum_new t xs k dd sl) ⟨at_, ?_⟩
  have sz : (s.heap.push (tItO t)).objs.size = s.heap.objs.size + 1 := Heap.size_push ..
  show _ ∧ _
  rw [sz]
  have en : IsEnum ((s.heap.push (tItO t)).push (enO s.heap.objs.size)) (s.heap.objs.size + 1) s.heap.objs.size 0 .none := by
    have q := Heap.get?_push_size (s.heap.push (tItO t)) (o := enO s.heap.objs.size) rfl
    rw [sz] at q
    exact q
  exact ⟨⟨_, en, rfl⟩, h _ en ⟨_, Heap.get?_push_of_some _ (Heap.get?_push_size _ rfl), rfl, rfl⟩ fun b o e => Heap.get?_push_of_some _ (Heap.get?_push_of_some _ e)⟩
end
/-- the tuple at a, N items long, its items in new pairs -/
def IteT (K : Fg) (a : Addr) (N : Nat) : It :=
  ⟨fun i H => ∃ (xs : List V) (x : V), SqT K H a xs ∧ xs[i]? = some x ∧ xs.length ≤ N, fun i H v H' => ∃ T x, v = .ref T ∧ H T = none ∧ H' = upd H T (.tup [.int (i : Nat), x]) ∧ ∀ xs, SqT K H a xs → xs[i]? = some x, fun i H => ∃ xs : List V, SqT K H a xs ∧ xs.length ≤ i ∧ N ≤ xs.length⟩
theorem tup_ne_it {h : Heap} {it a : Addr} {i : Nat} {xs : Array Value} (x : h.IsTupleIter it a i) (t : h.IsTuple a xs) : a ≠ it := by
  rintro rfl
  obtain ⟨o, ho, hc, _⟩ := x
  obtain ⟨o2, ho2, hc2, _⟩ := t
  rw [ho] at ho2
  cases ho2
  rw [hc] at hc2
  exact absurd (Value.type.inj hc2) (by decide)
theorem tup_ne_en {h : Heap} {e it a : Addr} {i : Int} {old : Value} {xs : Array Value} (x : IsEnum h e it i old) (t : h.IsTuple a xs) : e ≠ a := by
  rintro rfl
  obtain ⟨o2, ho2, hc2, _⟩ := t
  have x' : ∃ vs, h.get? e = some { cls := .type "enumerate", data := .fields vs } := ⟨_, x⟩
  obtain ⟨vs, x'⟩ := x'
  rw [x'] at ho2
  cases ho2
  exact absurd (Value.type.inj hc2) (by decide)
theorem turn_enT {P : Program} {w : World} {K : Fg} {elts : List Expr} {kk : Nat} {tpos : Pos} (a e it : Addr) (N : Nat) :
    Turn P w K (.Tuple elts kk tpos) (IteT K a N) [e, it] e (fun i h => (∃ old, IsEnum h e it ((i : Nat) : Int) old) ∧ h.IsTupleIter it a i ∧ e ≠ it ∧ i ≤ N) where
  mem := by simp
  obj := by
    rintro i h ⟨⟨old, he⟩, ⟨o, ho, hc, hd⟩, _⟩ b hb
    rcases List.mem_cons.mp hb with rfl | hb
    · exact ⟨_, he, fun v q => nomatch q⟩
    · cases List.mem_singleton.mp hb
      exact ⟨o, ho, fun v q => by rw [hd] at q; cases q⟩
  keep := by
    rintro i h h' ⟨⟨old, he⟩, ⟨o, ho, r⟩, ne, le⟩ k
    exact ⟨⟨old, k e (by simp) _ he⟩, ⟨o, k it (by simp) o ho, r⟩, ne, le⟩
  item := by
    intro X hP hw hK hc i pins s σ H E I hf st hg
    subst hP hw hK
    obtain ⟨⟨old, he⟩, hit, ne, le⟩ := st
    obtain ⟨xs, x, hq, hx, hN⟩ := hg
    obtain ⟨its, rv, tp, _⟩ := I.tuple hq
    obtain ⟨u, hu, ru⟩ := rv.get hx
    have le2 : e < s.heap.objs.size := Heap.lt_size he
    have li2 : it < s.heap.objs.size := by obtain ⟨_, q, _⟩ := hit; exact Heap.lt_size q
    have hlt : i < its.toArray.size := by
      have := (List.getElem?_eq_some_iff.mp hu).1
      simpa using this
    have hle : i + 1 ≤ N := by
      have := (List.getElem?_eq_some_iff.mp hx).1
      omega
    have na := tup_ne_it hit tp
    have nb := tup_ne_en he tp
    refine wpAny_pyNext_enum_itemD (draws_tup (A := X.A.in1) (I.ok.hd hc) it a na its.toArray) he ⟨hit, tp⟩ hlt ne (by simp [ne, nb]) fun z h1 tk hz out nxt hT hsz hk => ?_
    have ez : z = u := by
      have : its.toArray[i]? = some u := by simpa using hu
      rw [this] at hz
      exact (Option.some.inj hz).symm
    subst ez
    refine ⟨_, rfl, wpAny_letOwnedTupleGo_enum (s := { s with heap := h1, toks := tk + 1 }) out fun h2 en same => ?_⟩
    have hT2 : h2.get? s.heap.objs.size = some { cls := .type "tuple", data := .seq #[.int i tk, z] } := (same.2 _ (Nat.ne_of_gt le2)).trans hT
    have laid : ObjOk X.prog X.w (upd H s.heap.objs.size (.tup [.int (i : Nat), x])) h2 s.heap.objs.size (.tup [.int (i : Nat), x]) :=
      ⟨by show 2 ≤ sizeLine; decide, [.int i tk, z], .cons ⟨_, rfl⟩ (.cons ru .nil), ⟨_, hT2, rfl, _, rfl⟩⟩
    have J : Inv X pins σ (upd H s.heap.objs.size (.tup [.int (i : Nat), x])) { s with heap := h2, toks := tk + 1 } :=
      I.turnedNew (ch := [e, it]) (fun b ob hb q => (same.2 b (fun z => hb (by simp [z]))).trans (hk b ob (fun z => hb (by simp [z])) (fun z => hb (by simp [z])) q)) hf (Nat.le_refl _) laid
    refine ⟨.ref s.heap.objs.size, _, J, rfl, ⟨_, x, rfl, I.hok.fresh (Nat.le_refl _), rfl, fun ys hy => by rw [I.tuple_inj hy hq]; exact hx⟩, ⟨⟨z, ?_⟩, ?_, ne, hle⟩, fun b hb => ?_⟩
    · rw [show ((i + 1 : Nat) : Int) = (i : Int) + 1 by omega]
      exact en
    · obtain ⟨⟨o, ho, r⟩, _⟩ := nxt
      exact ⟨o, (same.2 it (Ne.symm ne)).trans ho, r⟩
    · have lb : b < s.heap.objs.size := by
        rcases List.mem_cons.mp hb with rfl | hb
        · exact le2
        · cases List.mem_singleton.mp hb
          exact li2
      rw [upd_ne (Nat.ne_of_lt lb)]
      exact (hf b hb).1
  done := by
    intro X hP hw hK hc i pins s σ H E I hf st hg
    subst hP hw hK
    obtain ⟨⟨old, he⟩, hit, ne, le⟩ := st
    obtain ⟨xs, hq, hx, hN⟩ := hg
    obtain ⟨its, rv, tp, _⟩ := I.tuple hq
    obtain ⟨f0, f1, f2, f3, f4, f5⟩ := hf it (by simp)
    have e1 : i = its.toArray.size := by
      have := rv.length
      simp only [List.size_toArray]
      omega
    subst e1
    exact wpAny_pyNext_enum_endD (draws_tup (A := X.A.in1) (I.ok.hd hc) it a (tup_ne_it hit tp) its.toArray) he ⟨hit, tp⟩ fun h1 eb => ⟨rfl, I.turned (t' := s.toks) (fun b o hb q => eb b o hb q) f0 f1 f3 f4 f5⟩
  self := fun A i s Q E st h => let ⟨⟨_, he⟩, _⟩ := st; wpAny_pyIter_enum he h
def iEnT (K : Fg) (ta : TA) : TI := fun σ H R => ta σ H fun vs H1 => ∃ a xs, vs = [.ref a] ∧ SqT K H1 a xs ∧ R (IteT K a xs.length) H1
def iEnA (K : Fg) (ta : TA) : TI := fun σ H R => ta σ H fun vs H1 => ∃ a xs, vs = [.ref a] ∧ ((SqL K H1 a xs ∧ R (Ite K a) H1) ∨ (SqT K H1 a xs ∧ R (IteT K a xs.length) H1))
theorem pi_enA {X : Cx} {e : Expr} {ta : TA} {p pos tpos : Pos} {elts : List Expr} {kk : Nat} (hg : Gl X "enumerate") (hm : X.mg "enumerate" = none) (ha : PA X [e] ta) (hs : starEach [e] X.env = [(false, eval e X.env)] := by rfl) :
    PI X (.Tuple elts kk tpos) (.Call (.Name "enumerate" p) [e] [] pos) (iEnA X.K ta) := by
  constructor
  intro pins s σ H R I h
  refine Call_ (ld_blt I hg hm boot_enumerate (PyProof.Rows.callWith_type1 (thn (ha.run pos pins s σ H _ I h) fun us s1 ⟨vs, H1, I1, r1, q1⟩ => ?_) hs rfl))
  obtain ⟨a, xs, rfl, q1⟩ := q1
  obtain ⟨u, rfl, ru⟩ := vals1 r1
  obtain rfl : u = Value.ref a := ru
  have fresh : ∀ b, b ∈ [s1.heap.objs.size + 1, s1.heap.objs.size] → FpOk X pins H1 b := fun b hb => by
    have ge : s1.heap.objs.size ≤ b := by
      rcases List.mem_cons.mp hb with rfl | hb
      · exact Nat.le_add_right _ _
      · cases List.mem_singleton.mp hb
        exact Nat.le_refl _
    exact I1.fpOk ge (I1.hok.fresh ge)
  rcases q1 with ⟨hq, q⟩ | ⟨hq, q⟩
  · obtain ⟨its, rv, pl, _⟩ := I1.list hq
    refine call_enumerate_list pl.isList fun h1 he hit _ hk => wpAny_pyIter_enum he ?_
    exact ⟨_, _, _, _, H1, rfl, I1.kept (t' := s1.toks) hk, turn_enum a (s1.heap.objs.size + 1) s1.heap.objs.size, ⟨⟨.none, he⟩, hit, Nat.succ_ne_self _⟩, fresh, q⟩
  · obtain ⟨its, rv, tp, _⟩ := I1.tuple hq
    refine call_enum_tup tp fun h1 he hit hk => wpAny_pyIter_enum he ?_
    exact ⟨_, _, _, _, H1, rfl, I1.kept (t' := s1.toks) hk, turn_enT a (s1.heap.objs.size + 1) s1.heap.objs.size xs.length, ⟨⟨.none, he⟩, hit, Nat.succ_ne_self _, Nat.zero_le _⟩, fresh, q⟩
end DL
end
section
set_option Elab.async false
set_option linter.all false
set_option maxRecDepth 100000
set_option autoImplicit false
set_option maxHeartbeats 2000000
/-! DL, part n: walks over data. -/
namespace DL
open PySem PySem.Spec PyProof.Rows L2
variable [Tabs]

/-- what J gives, turn by turn: ds, while the values of L stand for their data -/
structure Src (K : Fg) (J : It) (ds : List D) (L : List (V × D)) (Z : List (Addr × HO)) : Prop where
  stop : ∀ N H, (∀ q ∈ L, DR K N H q.1 q.2) → (∀ z ∈ Z, H z.1 = some z.2) → J.stop ds.length H
  go : ∀ N H i, i < ds.length → (∀ q ∈ L, DR K N H q.1 q.2) → (∀ z ∈ Z, H z.1 = some z.2) → J.go i H
  yld : ∀ N H i d x H', ds[i]? = some d → (∀ q ∈ L, DR K N H q.1 q.2) → (∀ z ∈ Z, H z.1 = some z.2) → J.yld i H x H' →
    (H' = H ∨ ∃ q ws, H q = none ∧ H' = upd H q (.tup ws)) ∧ ((∀ a, N a → ∃ o, H a = some o) → DR K N H' x d)
section
variable {K : Fg} {a b : Addr} {ds es : List D}
theorem src_list : Src K (Itl K a) ds [(.ref a, .list ds)] [] where
  stop := fun N H h _ => by
    obtain ⟨a', xs, e, h1, h2⟩ := (h _ (List.mem_singleton.mpr rfl)).list_inv
    cases e
    exact ⟨xs, h1.sq, by rw [h2.length]; exact Nat.le_refl _⟩
  go := fun N H i hi h _ => by
    obtain ⟨a', xs, e, h1, h2⟩ := (h _ (List.mem_singleton.mpr rfl)).list_inv
    cases e
    obtain ⟨v, h3, _⟩ := h2.get (List.getElem?_eq_getElem hi)
    exact ⟨xs, v, h1.sq, h3⟩
  yld := fun N H i d x H' hd h _ y => by
    obtain ⟨a', xs, e, h1, h2⟩ := (h _ (List.mem_singleton.mpr rfl)).list_inv
    cases e
    obtain ⟨rfl, y⟩ := y
    refine ⟨.inl rfl, fun _ => ?_⟩
    obtain ⟨d', h3, h4⟩ := h2.get' (y xs h1.sq)
    rw [hd] at h3
    cases h3
    exact h4
theorem src_tup : Src K (Itt K a) ds [(.ref a, .tuple ds)] [] where
  stop := fun N H h _ => by
    obtain ⟨a', xs, e, h1, h2⟩ := (h _ (List.mem_singleton.mpr rfl)).tuple_inv
    cases e
    exact ⟨xs, h1.sq, by rw [h2.length]; exact Nat.le_refl _⟩
  go := fun N H i hi h _ => by
    obtain ⟨a', xs, e, h1, h2⟩ := (h _ (List.mem_singleton.mpr rfl)).tuple_inv
    cases e
    obtain ⟨v, h3, _⟩ := h2.get (List.getElem?_eq_getElem hi)
    exact ⟨xs, v, h1.sq, h3⟩
  yld := fun N H i d x H' hd h _ y => by
    obtain ⟨a', xs, e, h1, h2⟩ := (h _ (List.mem_singleton.mpr rfl)).tuple_inv
    cases e
    obtain ⟨rfl, y⟩ := y
    refine ⟨.inl rfl, fun _ => ?_⟩
    obtain ⟨d', h3, h4⟩ := h2.get' (y xs h1.sq)
    rw [hd] at h3
    cases h3
    exact h4
theorem src_str {z : Str} : Src K (Its z) (signs z) [] [] where
  stop := fun N H _ _ => by
    show z.cps.size ≤ (signs z).length
    unfold signs
    rw [List.length_map, Array.length_toList]
    exact Nat.le_refl _
  go := fun N H i hi _ _ => by
    unfold signs at hi
    rw [List.length_map, Array.length_toList] at hi
    exact hi
  yld := fun N H i d x H' hd _ _ y => by
    obtain ⟨rfl, c, hc, rfl⟩ := y
    refine ⟨.inl rfl, fun _ => ?_⟩
    unfold signs at hd
    rw [List.getElem?_map, Array.getElem?_toList, hc] at hd
    cases hd
    exact .str _
theorem src_range {lo : Int} {n : Nat} : Src K (Itr lo n) ((List.range n).map fun (k : Nat) => PyData.int (lo + (k : Int))) [] [] where
  stop := fun N H _ _ => by rw [List.length_map, List.length_range]; exact Nat.le_refl _
  go := fun N H i hi _ _ => by rw [List.length_map, List.length_range] at hi; exact hi
  yld := fun N H i d x H' hd _ _ y => by
    obtain ⟨rfl, rfl⟩ := y
    refine ⟨.inl rfl, fun _ => ?_⟩
    rw [List.getElem?_map] at hd
    cases e : (List.range n)[i]? with
    | none => rw [e] at hd; cases hd
    | some j =>
      rw [e] at hd
      cases hd
      obtain ⟨h1, h2⟩ := List.getElem?_eq_some_iff.mp e
      rw [List.getElem_range] at h2
      subst h2
      exact .int _
theorem src_rangeC {lo c : Int} {n : Nat} : Src K (Itc lo c n) ((List.range n).map fun (k : Nat) => PyData.int (lo + (k : Int) * c)) [] [] where
  stop := fun N H _ _ => by rw [List.length_map, List.length_range]; exact Nat.le_refl _
  go := fun N H i hi _ _ => by rw [List.length_map, List.length_range] at hi; exact hi
  yld := fun N H i d x H' hd _ _ y => by
    obtain ⟨rfl, rfl⟩ := y
    refine ⟨.inl rfl, fun _ => ?_⟩
    rw [List.getElem?_map] at hd
    cases e : (List.range n)[i]? with
    | none => rw [e] at hd; cases hd
    | some j =>
      rw [e] at hd
      cases hd
      obtain ⟨h1, h2⟩ := List.getElem?_eq_some_iff.mp e
      rw [List.getElem_range] at h2
      subst h2
      exact .int _
theorem pair_new {N : AS} {H : Hp} {T : Addr} {x y : V} {d e : D} (hT : H T = none) (hx : DR K N H x d) (hy : DR K N H y e) (hN : ∀ a, N a → ∃ o, H a = some o) : DR K N (upd H T (.tup [x, y])) (.ref T) (.tuple [d, e]) := by
  have up : ∀ {v z}, DR K N H v z → DR K N (upd H T (.tup [x, y])) v z := fun {v z} q => DR.ext (m := fun _ => False) (.new hT) (fun _ h => h.elim) q
  refine .tup (.inl ⟨fun z => ?_, .of upd_same⟩) (.cons (up hx) (.cons (up hy) .nil))
  obtain ⟨o, h⟩ := hN T z
  rw [hT] at h
  cases h
theorem src_enum : Src K (Ite K a) (enuD ds) [(.ref a, .list ds)] [] where
  stop := fun N H h _ => by
    obtain ⟨a', xs, e, h1, h2⟩ := (h _ (List.mem_singleton.mpr rfl)).list_inv
    cases e
    refine ⟨xs, h1.sq, ?_⟩
    unfold enuD
    rw [h2.length, List.length_map, List.length_zipIdx]
    exact Nat.le_refl _
  go := fun N H i hi h _ => by
    obtain ⟨a', xs, e, h1, h2⟩ := (h _ (List.mem_singleton.mpr rfl)).list_inv
    cases e
    unfold enuD at hi
    rw [List.length_map, List.length_zipIdx] at hi
    obtain ⟨v, h3, _⟩ := h2.get (List.getElem?_eq_getElem hi)
    exact ⟨xs, v, h1.sq, h3⟩
  yld := fun N H i d x H' hd h _ y => by
    obtain ⟨a', xs, e, h1, h2⟩ := (h _ (List.mem_singleton.mpr rfl)).list_inv
    cases e
    obtain ⟨T, x', rfl, hT, rfl, y⟩ := y
    refine ⟨.inr ⟨T, _, hT, rfl⟩, fun hN => ?_⟩
    obtain ⟨d', h3, h4⟩ := h2.get' (y xs h1.sq)
    unfold enuD at hd
    rw [List.getElem?_map, List.getElem?_zipIdx, h3] at hd
    simp only [Option.map_some, Nat.zero_add, Option.some.injEq] at hd
    subst hd
    exact pair_new hT (.int _) h4 hN
theorem src_enumT : Src K (IteT K a ds.length) (enuD ds) [(.ref a, .tuple ds)] [] where
  stop := fun N H h _ => by
    obtain ⟨a', xs, e, h1, h2⟩ := (h _ (List.mem_singleton.mpr rfl)).tuple_inv
    cases e
    have hl := h2.length
    refine ⟨xs, h1.sq, ?_, ?_⟩
    · unfold enuD
      rw [List.length_map, List.length_zipIdx]
      omega
    · omega
  go := fun N H i hi h _ => by
    obtain ⟨a', xs, e, h1, h2⟩ := (h _ (List.mem_singleton.mpr rfl)).tuple_inv
    cases e
    unfold enuD at hi
    rw [List.length_map, List.length_zipIdx] at hi
    obtain ⟨v, h3, _⟩ := h2.get (List.getElem?_eq_getElem hi)
    exact ⟨xs, v, h1.sq, h3, by have := h2.length; omega⟩
  yld := fun N H i d x H' hd h _ y => by
    obtain ⟨a', xs, e, h1, h2⟩ := (h _ (List.mem_singleton.mpr rfl)).tuple_inv
    cases e
    obtain ⟨T, x', rfl, hT, rfl, y⟩ := y
    refine ⟨.inr ⟨T, _, hT, rfl⟩, fun hN => ?_⟩
    obtain ⟨d', h3, h4⟩ := h2.get' (y xs h1.sq)
    unfold enuD at hd
    rw [List.getElem?_map, List.getElem?_zipIdx, h3] at hd
    simp only [Option.map_some, Nat.zero_add, Option.some.injEq] at hd
    subst hd
    exact pair_new hT (.int _) h4 hN
theorem src_zip : Src K (Itz K a b) (zipD ds es) [(.ref a, .list ds), (.ref b, .list es)] [] where
  stop := fun N H h _ => by
    obtain ⟨a', xs, e, h1, h2⟩ := (h (.ref a, .list ds) (by simp)).list_inv
    cases e
    obtain ⟨b', ys, e, h3, h4⟩ := (h (.ref b, .list es) (by simp)).list_inv
    cases e
    refine ⟨xs, ys, h1.sq, h3.sq, ?_⟩
    unfold zipD
    rw [h2.length, h4.length, List.length_map, List.length_zip]
    omega
  go := fun N H i hi h _ => by
    obtain ⟨a', xs, e, h1, h2⟩ := (h (.ref a, .list ds) (by simp)).list_inv
    cases e
    obtain ⟨b', ys, e, h3, h4⟩ := (h (.ref b, .list es) (by simp)).list_inv
    cases e
    unfold zipD at hi
    rw [List.length_map, List.length_zip] at hi
    obtain ⟨v, q1, _⟩ := h2.get (List.getElem?_eq_getElem (show i < ds.length by omega))
    obtain ⟨u, q2, _⟩ := h4.get (List.getElem?_eq_getElem (show i < es.length by omega))
    exact ⟨xs, ys, v, u, h1.sq, h3.sq, q1, q2⟩
  yld := fun N H i d x H' hd h _ y => by
    obtain ⟨a', xs, e, h1, h2⟩ := (h (.ref a, .list ds) (by simp)).list_inv
    cases e
    obtain ⟨b', ys, e, h3, h4⟩ := (h (.ref b, .list es) (by simp)).list_inv
    cases e
    obtain ⟨T, x', y', rfl, hT, rfl, y1, y2⟩ := y
    refine ⟨.inr ⟨T, _, hT, rfl⟩, fun hN => ?_⟩
    obtain ⟨d', q1, q2⟩ := h2.get' (y1 xs h1.sq)
    obtain ⟨e', q3, q4⟩ := h4.get' (y2 ys h3.sq)
    unfold zipD at hd
    have ez : (ds.zip es)[i]? = some (d', e') := List.getElem?_zip_eq_some.mpr ⟨q1, q3⟩
    rw [List.getElem?_map, ez] at hd
    cases hd
    exact pair_new hT q2 q4 hN
theorem src_zipT : Src K (RZ.ItzT K a b) (zipD ds es) [(.ref a, .tuple ds), (.ref b, .tuple es)] [] where
  stop := fun N H h _ => by
    obtain ⟨a', xs, e, h1, h2⟩ := (h (.ref a, .tuple ds) (by simp)).tuple_inv
    cases e
    obtain ⟨b', ys, e, h3, h4⟩ := (h (.ref b, .tuple es) (by simp)).tuple_inv
    cases e
    refine ⟨xs, ys, h1.sq, h3.sq, ?_⟩
    unfold zipD
    rw [h2.length, h4.length, List.length_map, List.length_zip]
    omega
  go := fun N H i hi h _ => by
    obtain ⟨a', xs, e, h1, h2⟩ := (h (.ref a, .tuple ds) (by simp)).tuple_inv
    cases e
    obtain ⟨b', ys, e, h3, h4⟩ := (h (.ref b, .tuple es) (by simp)).tuple_inv
    cases e
    unfold zipD at hi
    rw [List.length_map, List.length_zip] at hi
    obtain ⟨v, q1, _⟩ := h2.get (List.getElem?_eq_getElem (show i < ds.length by omega))
    obtain ⟨u, q2, _⟩ := h4.get (List.getElem?_eq_getElem (show i < es.length by omega))
    exact ⟨xs, ys, v, u, h1.sq, h3.sq, q1, q2⟩
  yld := fun N H i d x H' hd h _ y => by
    obtain ⟨a', xs, e, h1, h2⟩ := (h (.ref a, .tuple ds) (by simp)).tuple_inv
    cases e
    obtain ⟨b', ys, e, h3, h4⟩ := (h (.ref b, .tuple es) (by simp)).tuple_inv
    cases e
    obtain ⟨T, x', y', rfl, hT, rfl, y1, y2⟩ := y
    refine ⟨.inr ⟨T, _, hT, rfl⟩, fun hN => ?_⟩
    obtain ⟨d', q1, q2⟩ := h2.get' (y1 xs h1.sq)
    obtain ⟨e', q3, q4⟩ := h4.get' (y2 ys h3.sq)
    unfold zipD at hd
    have ez : (ds.zip es)[i]? = some (d', e') := List.getElem?_zip_eq_some.mpr ⟨q1, q3⟩
    rw [List.getElem?_map, ez] at hd
    cases hd
    exact pair_new hT q2 q4 hN
end
section
variable {P : Program} {w : World} {K : Fg} {mg : Str → Option Value} {base : Heap} {p : Pgm} {n m : Nat} {F : Fm} {X : Cx} {c : Ct} {E : Ev} {a : IE} {pa : Addr} {T : AS} {H0 H : Hp} {σ : L2.St} {g : G} {pins : List (Addr × Obj)} {s : Shared}
def OKk (F : Fm) (X : Cx) (e : Expr) (f : G → Option (D × G)) : Prop := ∀ g x g', f g = some (x, g') → ∀ pa T H0 σ H (Q : VK), Rel F X.K pa T H0 σ H g →
  (∀ v H', PostK F X.K pa T H0 σ H g v H' x g' → Q v H') → wE X e σ H Q
theorem OKe.kp {e : Expr} (h : OKe F X e (E.e a)) : OKk F X e (kp1 E a) := by
  intro g x g' q pa T H0 σ H Q r k
  unfold kp1 at q
  cases e1 : E.e a g with
  | none => simp only [e1] at q; cases q
  | some rg =>
    obtain ⟨r1, g1⟩ := rg
    simp only [e1] at q
    exact h g r1 g1 e1 pa T H0 σ H Q r fun v H' p => k v H' (p.keep q)
/-- one behind the other, kept -/
theorem evDs_one {i : IE} {g g' : G} {d : D} (q : evDs E [i] g = some ([d], g')) : kp1 E i g = some (d, g') := by
  unfold evDs at q
  unfold kp1
  cases f1 : E.e i g with
  | none => simp only [f1] at q; cases q
  | some rg =>
    obtain ⟨r1, ga⟩ := rg
    simp only [f1] at q ⊢
    cases f2 : keepR r1 ga with
    | none => simp only [f2] at q; cases q
    | some dg =>
      obtain ⟨dd, gb⟩ := dg
      simp only [f2, evDs, Option.some.injEq, Prod.mk.injEq, List.cons.injEq, and_true] at q ⊢
      exact q
theorem evDs_cons {i : IE} {is : List IE} {g g' : G} {d : D} {ds : List D} (q : evDs E (i :: is) g = some (d :: ds, g')) : ∃ g1, kp1 E i g = some (d, g1) ∧ evDs E is g1 = some (ds, g') := by
  unfold evDs at q
  unfold kp1
  cases f1 : E.e i g with
  | none => simp only [f1] at q; cases q
  | some rg =>
    obtain ⟨r1, ga⟩ := rg
    simp only [f1] at q ⊢
    cases f2 : keepR r1 ga with
    | none => simp only [f2] at q; cases q
    | some dg =>
      obtain ⟨dd, gb⟩ := dg
      simp only [f2] at q
      cases f3 : evDs E is gb with
      | none => simp only [f3] at q; cases q
      | some dg3 =>
        obtain ⟨ds3, g3⟩ := dg3
        simp only [f3, Option.some.injEq, Prod.mk.injEq, List.cons.injEq] at q
        obtain ⟨⟨rfl, rfl⟩, rfl⟩ := q
        exact ⟨gb, rfl, f3⟩
theorem folded {e : Expr} {env : Env} (h : notSet e = true) (x : Value) : foldedSetIterable e env x = pure x := by
  cases e <;> first | rfl | cases h
theorem ents_len {N : AS} {H : Hp} : ∀ {es : List Ent} {kvs : List (D × D)}, Ents K N H es kvs → es.length = kvs.length
  | [], _, .nil => rfl
  | _ :: _, _ :: _, .cons _ _ _ q => by rw [List.length_cons, List.length_cons, ents_len q]
theorem ents_dr {N : AS} {H : Hp} : ∀ {es : List Ent} {kvs : List (D × D)}, Ents K N H es kvs → ∀ z ∈ (es.zip kvs).map (fun z => (z.1.kv, z.2.1)), DR K N H z.1 z.2
  | [], _, .nil, z, h => by cases h
  | e :: es, y :: kvs, .cons _ b _ q, z, h => by
    rw [List.zip_cons_cons, List.map_cons] at h
    rcases List.mem_cons.mp h with w | w
    · rw [w]; exact b
    · exact ents_dr q z w
theorem src_dic {a : Addr} {q : DE} {kvs : List (D × D)} (hl : q.es.length = kvs.length) : Src K (Itx P w a q) (ddKeys kvs) ((q.es.zip kvs).map fun z => (z.1.kv, z.2.1)) [(a, DicO P w true a q)] where
  stop := fun N H _ hz => ⟨hz _ (List.mem_singleton.mpr rfl), by unfold ddKeys; rw [List.length_map, hl]; exact Nat.le_refl _⟩
  go := fun N H i hi _ hz => ⟨hz _ (List.mem_singleton.mpr rfl), by unfold ddKeys at hi; rw [List.length_map] at hi; rw [hl]; exact hi⟩
  yld := fun N H i d x H' hd h _ y => by
    obtain ⟨rfl, e, he, rfl⟩ := y
    refine ⟨.inl rfl, fun _ => h (e.kv, d) ?_⟩
    unfold ddKeys at hd
    rw [List.getElem?_map] at hd
    cases hk : kvs[i]? with
    | none => rw [hk] at hd; cases hd
    | some y =>
      rw [hk] at hd
      cases hd
      exact List.mem_map.mpr ⟨(e, y), List.mem_of_getElem? (List.getElem?_zip_eq_some.mpr ⟨he, hk⟩), rfl⟩
/-- a name's dict, as it stands -/
theorem dic_at (O : XO P w K mg base p n F X c) (rl : Rel F X.K pa T H0 σ H g) (I : Inv X pins σ H s) {i : Nat} {t : Bool} {kvs : List (D × D)} (e : g.env[i]? = some (some (.dic t kvs))) :
    ∃ a es xs, σ[i]? = some (some (.ref a)) ∧ t = true ∧ H a = some (DicO X.prog X.w true a es) ∧ EntR X.K (Nv pa T σ g) H es kvs ∧ Paired EX es.es xs ∧ s.heap.DictOfH (nestedKind X.prog X.w) a xs ∧ (a == sysModules) = false ∧ es.es.length ≤ sizeLine := by
  obtain ⟨a, es, e1, e2, e3, _⟩ := rl.dic e
  have ht : t = true := by
    cases t with
    | true => rfl
    | false =>
      obtain ⟨⟨_, _, _, _, z⟩, _⟩ := I.hok a _ e2
      exact z.elim
  subst ht
  have e2' : H a = some (DicO X.prog X.w true a es) := by rw [e2, O.fP, O.fw, O.eP, O.ew]
  obtain ⟨xs, p1, p2, p3, p4⟩ := dic_of I e2' e3
  exact ⟨a, es, xs, e1, rfl, e2', e3, p1, p2, p3, p4⟩
theorem walk_ok (O : XO P w K mg base p n F X c) (h : ∀ e i, chkE p m c e i = true → OKe F X e (E.e i)) {tg e : Expr} {ik : Ik} {its : List IE} (hc : chkIt (chkE p m c) c tg ik its e = true) {g g1 : G} {ds : List D} (q : itsD E ik its g = some (ds, g1)) :
    ∀ pa T H0 σ H (R : It → Hp → Prop), Rel F X.K pa T H0 σ H g → (∀ J H1 L Z, PostN F X.K pa T H0 σ H g H1 g1 → Src X.K J ds L Z → (∀ q ∈ L, DR X.K (Nv pa T σ g1) H1 q.1 q.2) → (∀ z ∈ Z, H1 z.1 = some z.2 ∧ ¬ pm pa g1.pen z.1 ∧ ∀ ps, z.2 ≠ .tbl ps) → (ik ≠ .dic → Z = []) → R J H1) → wI X tg e σ H R := by
  intro pa T H0 σ H R rl k0
  have k : ∀ J H1 L, PostN F X.K pa T H0 σ H g H1 g1 → Src X.K J ds L [] → (∀ q ∈ L, DR X.K (Nv pa T σ g1) H1 q.1 q.2) → R J H1 := fun J H1 L pn S hL => k0 J H1 L [] pn S hL (fun _ h => by cases h) (fun _ => rfl)
  unfold chkIt at hc
  rw [Bool.and_eq_true] at hc
  obtain ⟨hset, hc⟩ := hc
  cases ik with
  | seq =>
    cases its with
    | nil => cases hc
    | cons i is =>
      cases is with
      | cons _ _ => cases hc
      | nil =>
        simp only [itsD] at q
        cases e1 : kp1 E i g with
        | none => simp only [e1] at q; cases q
        | some t =>
          obtain ⟨x, g2⟩ := t
          simp only [e1] at q
          have run := OKe.kp (h e i hc) g x g2 e1 pa T H0 σ H
          cases x with
          | list xs =>
            simp only [seqD, Option.map_some, Option.some.injEq, Prod.mk.injEq] at q
            obtain ⟨rfl, rfl⟩ := q
            refine wI_of (pi_list pe_w) (run _ rl fun v H1 p1 => ?_)
            obtain ⟨a, vs, rfl, h1, h2⟩ := p1.dr.list_inv
            exact ⟨a, rfl, ⟨vs, h1.sq⟩, k _ _ _ p1.n src_list fun q hq => by rw [List.mem_singleton.mp hq]; exact p1.dr⟩
          | tuple xs =>
            simp only [seqD, Option.map_some, Option.some.injEq, Prod.mk.injEq] at q
            obtain ⟨rfl, rfl⟩ := q
            refine wI_of (pi_tup pe_w) (run _ rl fun v H1 p1 => ?_)
            obtain ⟨a, vs, rfl, h1, h2⟩ := p1.dr.tuple_inv
            exact ⟨a, rfl, ⟨vs, h1.sq⟩, k _ _ _ p1.n src_tup fun q hq => by rw [List.mem_singleton.mp hq]; exact p1.dr⟩
          | str z =>
            simp only [seqD, Option.map_some, Option.some.injEq, Prod.mk.injEq] at q
            obtain ⟨rfl, rfl⟩ := q
            refine wI_of (pi_str pe_w) (run _ rl fun v H1 p1 => ?_)
            exact ⟨z, p1.dr.str_inv, k _ _ _ p1.n src_str fun q hq => by cases hq⟩
          | _ => simp only [seqD] at q; cases q
  | rng =>
    cases e with
    | Call f args kws pos =>
      cases f with
      | Name s ps =>
        cases kws with
        | cons _ _ => cases hc
        | nil =>
          simp only [Bool.and_eq_true] at hc
          obtain ⟨⟨hs, hg⟩, hc⟩ := hc
          have hs' := eq_of_beq hs
          subst hs'
          have mr := O.bln (s := "range") (by decide)
          simp only [itsD] at q
          cases e1 : evDs E its g with
          | none => simp only [e1] at q; cases q
          | some t =>
            obtain ⟨xs, g2⟩ := t
            simp only [e1] at q
            cases e2 : rngD xs with
            | none => simp only [e2] at q; cases q
            | some ys =>
              simp only [e2, Option.map_some, Option.some.injEq, Prod.mk.injEq] at q
              obtain ⟨rfl, rfl⟩ := q
              have run := ok_ds h hc g xs g2 e1 pa T H0 σ H
              have hl1 := chkEs_len hc
              have hl2 := evDs_len g xs g2 e1
              unfold rngD at e2
              split at e2
              · rename_i j
                split at e2
                · rename_i hb
                  cases e2
                  have hl : args.length = 1 := by rw [hl1, ← hl2]; rfl
                  match args, hl with
                  | [a1], _ =>
                    have st : notStar a1 = true := by
                      cases its with
                      | nil => cases hc
                      | cons i is => simp only [chkEs, Bool.and_eq_true] at hc; exact hc.1.1
                    refine wI_of (pi_range1 (gl_of O hg) mr pa_w (by rw [star_cons st]; rfl)) (run _ rl fun vs H1 p1 => ?_)
                    cases p1.dr with
                    | cons q1 q2 => cases q2; rw [q1.int_inv]; exact ⟨j, rfl, hb.1, hb.2, k _ _ _ p1.n src_range fun q hq => by cases hq⟩
                · cases e2
              · rename_i i j
                split at e2
                · rename_i hb
                  cases e2
                  have hl : args.length = 2 := by rw [hl1, ← hl2]; rfl
                  match args, hl with
                  | [a1, a2], _ =>
                    have st : notStar a1 = true ∧ notStar a2 = true := by
                      cases its with
                      | nil => cases hc
                      | cons i is => cases is with
                        | nil => simp [chkEs] at hc
                        | cons i2 is2 => simp only [chkEs, Bool.and_eq_true] at hc; exact ⟨hc.1.1, hc.2.1.1⟩
                    refine wI_of (pi_range2 (gl_of O hg) mr pa_w (by rw [star_cons st.1, star_cons st.2]; rfl) (by rw [star_cons st.2]; rfl)) (run _ rl fun vs H1 p1 => ?_)
                    cases p1.dr with
                    | cons q1 q2 => cases q2 with
                      | cons q2 q3 => cases q3; rw [q1.int_inv, q2.int_inv]; exact ⟨i, j, rfl, hb, k _ _ _ p1.n src_range fun q hq => by cases hq⟩
                · cases e2
              · rename_i i j
                split at e2
                · rename_i hb
                  cases e2
                  have hl : args.length = 3 := by rw [hl1, ← hl2]; rfl
                  match args, hl with
                  | [a1, a2, a3], _ =>
                    have st : notStar a1 = true ∧ notStar a2 = true ∧ notStar a3 = true := by
                      cases its with
                      | nil => cases hc
                      | cons i is => cases is with
                        | nil => simp [chkEs] at hc
                        | cons i2 is2 => cases is2 with
                          | nil => simp [chkEs] at hc
                          | cons i3 is3 => simp only [chkEs, Bool.and_eq_true] at hc; exact ⟨hc.1.1, hc.2.1.1, hc.2.2.1.1⟩
                    refine wI_of (pi_range3 (gl_of O hg) mr pa_w (star_cons st.1) (by rw [star_cons st.2.1, star_cons st.2.2]; rfl)) (run _ rl fun vs H1 p1 => ?_)
                    cases p1.dr with
                    | cons q1 q2 => cases q2 with
                      | cons q2 q3 => cases q3 with
                        | cons q3 q4 => cases q4; rw [q1.int_inv, q2.int_inv, q3.int_inv]; exact ⟨i, j, -1, (i - j).toNat, rfl, RgC.neg (by omega) (by omega) (by omega) (by omega), k _ _ _ p1.n src_rangeC fun q hq => by cases hq⟩
                · cases e2
              · cases e2
      | _ => cases hc
    | _ => cases hc
  | enu =>
    rw [Bool.and_eq_true] at hc
    obtain ⟨ht, hc⟩ := hc
    cases e with
    | Call f args kws pos =>
      cases f with
      | Name s ps =>
        cases kws with
        | cons _ _ => cases hc
        | nil =>
          simp only [Bool.and_eq_true] at hc
          obtain ⟨⟨⟨hs, hg⟩, hn⟩, hc⟩ := hc
          have hs' := eq_of_beq hs
          subst hs'
          have mr := O.bln (s := "enumerate") (by decide)
          have hl1 := chkEs_len hc
          match its, args, hl1, eq_of_beq hn with
          | [i], [a1], _, _ =>
            simp only [chkEs, Bool.and_eq_true] at hc
            simp only [itsD] at q
            cases e1 : kp1 E i g with
            | none => simp only [e1] at q; cases q
            | some t =>
              obtain ⟨x, g2⟩ := t
              cases x with
              | list xs =>
                simp only [e1, Option.some.injEq, Prod.mk.injEq] at q
                obtain ⟨rfl, rfl⟩ := q
                cases tg with
                | Tuple elts kk tpos =>
                  refine wI_of (pi_enA (gl_of O hg) mr (pa_cons pe_w pa_nil (star_cons hc.1.1)) (by rw [star_cons hc.1.1]; rfl)) (OKe.kp (h a1 i hc.1.2) g _ g2 e1 pa T H0 σ H _ rl fun v H1 p1 => ?_)
                  obtain ⟨a, vs, rfl, h1, h2⟩ := p1.dr.list_inv
                  exact ⟨a, vs, rfl, .inl ⟨h1.sq, k _ _ _ p1.n src_enum fun q hq => by rw [List.mem_singleton.mp hq]; exact p1.dr⟩⟩
                | _ => cases ht
              | tuple xs =>
                simp only [e1, Option.some.injEq, Prod.mk.injEq] at q
                obtain ⟨rfl, rfl⟩ := q
                cases tg with
                | Tuple elts kk tpos =>
                  refine wI_of (pi_enA (gl_of O hg) mr (pa_cons pe_w pa_nil (star_cons hc.1.1)) (by rw [star_cons hc.1.1]; rfl)) (OKe.kp (h a1 i hc.1.2) g _ g2 e1 pa T H0 σ H _ rl fun v H1 p1 => ?_)
                  obtain ⟨a, vs, rfl, h1, h2⟩ := p1.dr.tuple_inv
                  exact ⟨a, vs, rfl, .inr ⟨h1.sq, h2.length ▸ k _ _ _ p1.n src_enumT fun q hq => by rw [List.mem_singleton.mp hq]; exact p1.dr⟩⟩
                | _ => cases ht
              | _ => simp only [e1] at q; cases q
      | _ => cases hc
    | _ => cases hc
  | dic =>
    simp only at hc
    split at hc
    · rename_i i x px
      simp only [Bool.and_eq_true, decide_eq_true_eq] at hc
      obtain ⟨⟨h1, h2⟩, h3⟩ := hc
      simp only [itsD] at q
      split at q
      · rename_i t kvs e0
        simp only [Option.some.injEq, Prod.mk.injEq] at q
        obtain ⟨rfl, rfl⟩ := q
        obtain ⟨n1, n2, _⟩ := okN_of h3
        intro pins s I
        obtain ⟨a, es, xs, sa, rfl, e5, er, pr, dd, hsm, hl⟩ := dic_at O rl I e0
        obtain ⟨a', es', sa', _, _, _, nT, npm⟩ := rl.dic e0
        rw [sa] at sa'
        cases sa'
        refine (pi_dic (tg := tg) (pe_var (pos := px) (by rw [← O.cN]; exact h1) (by rw [← O.cs]; exact vis_of h2) n1 n2)).run pins s σ H R I ⟨.ref a, sa, a, es, rfl, e5, ?_⟩
        refine k0 _ H _ [(a, DicO X.prog X.w true a es)] ⟨.refl _ _, rl, rfl, fun _ z => z⟩ (src_dic (ents_len er)) (ents_dr er) (fun z hz => ?_) (fun z => absurd rfl z)
        rw [List.mem_singleton.mp hz]
        exact ⟨e5, npm, fun ps => nofun⟩
      · cases q
    · cases hc
  | zip =>
    rw [Bool.and_eq_true] at hc
    obtain ⟨ht, hc⟩ := hc
    cases e with
    | Call f args kws pos =>
      cases f with
      | Name s ps =>
        cases kws with
        | cons _ _ => cases hc
        | nil =>
          simp only [Bool.and_eq_true] at hc
          obtain ⟨⟨⟨hs, hg⟩, hn⟩, hc⟩ := hc
          have hs' := eq_of_beq hs
          subst hs'
          have mr := O.bln (s := "zip") (by decide)
          have hl1 := chkEs_len hc
          match its, args, hl1, eq_of_beq hn with
          | [i, i2], [a1, a2], _, _ =>
            have hc0 := hc
            simp only [chkEs, Bool.and_eq_true] at hc
            simp only [itsD] at q
            cases e1 : evDs E [i, i2] g with
            | none => simp only [e1] at q; cases q
            | some t =>
              obtain ⟨xs, g2⟩ := t
              simp only [e1] at q
              split at q
              · rename_i xs ys g3 eq
                simp only [Option.some.injEq, Prod.mk.injEq] at eq q
                obtain ⟨rfl, rfl⟩ := eq
                obtain ⟨rfl, rfl⟩ := q
                cases tg with
                | Tuple elts kk tpos =>
                  refine wI_of (RZ.pi_zipA (gl_of O hg) mr pa_w (star_cons hc.1.1) (by rw [star_cons hc.2.1.1]; rfl)) (ok_ds h hc0 g _ _ e1 pa T H0 σ H _ rl fun vs H1 p1 => ?_)
                  cases p1.dr with
                  | cons q1 q2 => cases q2 with
                    | cons q2 q3 =>
                      cases q3
                      obtain ⟨a, vs, rfl, h1, h2⟩ := q1.list_inv
                      obtain ⟨b, ws, rfl, h3, h4⟩ := q2.list_inv
                      exact ⟨a, b, vs, ws, rfl, .inl ⟨h1.sq, h3.sq, k _ _ _ p1.n src_zip fun q hq => by
                        rcases List.mem_cons.mp hq with z | z
                        · rw [z]; exact q1
                        · rw [List.mem_singleton.mp z]; exact q2⟩⟩
                | _ => cases ht
              · rename_i xs ys g3 eq
                simp only [Option.some.injEq, Prod.mk.injEq] at eq q
                obtain ⟨rfl, rfl⟩ := eq
                obtain ⟨rfl, rfl⟩ := q
                cases tg with
                | Tuple elts kk tpos =>
                  refine wI_of (RZ.pi_zipA (gl_of O hg) mr pa_w (star_cons hc.1.1) (by rw [star_cons hc.2.1.1]; rfl)) (ok_ds h hc0 g _ _ e1 pa T H0 σ H _ rl fun vs H1 p1 => ?_)
                  cases p1.dr with
                  | cons q1 q2 => cases q2 with
                    | cons q2 q3 =>
                      cases q3
                      obtain ⟨a, vs, rfl, h1, h2⟩ := q1.tuple_inv
                      obtain ⟨b, ws, rfl, h3, h4⟩ := q2.tuple_inv
                      exact ⟨a, b, vs, ws, rfl, .inr ⟨h1.sq, h3.sq, k _ _ _ p1.n src_zipT fun q hq => by
                        rcases List.mem_cons.mp hq with z | z
                        · rw [z]; exact q1
                        · rw [List.mem_singleton.mp z]; exact q2⟩⟩
                | _ => cases ht
              · cases q
      | _ => cases hc
    | _ => cases hc
end
end DL
end
section
set_option Elab.async false
set_option linter.all false
set_option maxRecDepth 100000
set_option autoImplicit false
set_option maxHeartbeats 2000000
/-! DL, part o: comprehensions. -/
namespace DL
open PySem PySem.Spec PyProof.Rows L2
variable [Tabs]
section
variable {P : Program} {w : World} {K : Fg} {mg : Str → Option Value} {base : Heap} {p : Pgm} {n m : Nat} {F : Fm} {X : Cx} {c : Ct} {E : Ev}
theorem Ext.skip {m : AS} {H H1 : Hp} {q : Addr} {o : HO} {vs : List V} (e : Ext m H H1) (h : H q = none) (h1 : H1 q = some (.lst vs)) : Ext m H (upd H1 q o) :=
  ⟨fun b u q1 q2 q3 => (upd_ne (fun z : b = q => by rw [z, h] at q1; cases q1)).trans (e.k b u q1 q2 q3), fun b z => tab_upd (fun ps q => by rw [h1] at q; cases q) (fun ps q => by rw [h1] at q; cases q) b (e.t b z), fun b z => e.d b (upd_no b z)⟩
theorem wipe_wipe (σ : L2.St) (vs : List Nat) : L2.wipe (L2.wipe σ vs) vs = L2.wipe σ vs := by
  have lem : ∀ (ks js : List Nat), (∀ k ∈ ks, k ∈ js) → L2.wipe (L2.wipe σ ks) js = L2.wipe σ js := by
    intro ks
    induction ks with
    | nil => intro js _; rfl
    | cons k ks ih =>
      intro js h
      show L2.wipe ((L2.wipe σ ks).set k none) js = L2.wipe σ js
      rw [setDs_ok.wipe_set (h k List.mem_cons_self)]
      exact ih js fun j hj => h j (List.mem_cons_of_mem _ hj)
  exact lem vs vs fun _ h => h
theorem nmOf_ix (N : List Str) (own : List Nat) : (nmOf N own).map (·.2) = own := by
  unfold nmOf
  rw [List.map_map]
  exact List.map_id own
/-- the words of a comprehension's block, whatever frame it runs in -/
def wEb (X : Cx) (scope : Scope) (e : Expr) : TE := fun σ H Q => ∀ (s : Shared) (H1 : Hp) (C : Addr) (cl : List (Str × Addr)) (fp : List Addr), wE (X.blk s H1 scope (compEnvC scope cl C X.env) fp) e σ H Q
def wTb (X : Cx) (scope : Scope) (e : Expr) : TT := fun σ H Q => ∀ (s : Shared) (H1 : Hp) (C : Addr) (cl : List (Str × Addr)) (fp : List Addr), wT (X.blk s H1 scope (compEnvC scope cl C X.env) fp) e σ H Q
def _root_.DL.Fm.inn (F : Fm) : Fm := { F with on := false }
theorem Rel.inn {pa : Addr} {T : AS} {H0 H : Hp} {σ : L2.St} {g : G} (r : Rel F K pa T H0 σ H g) : Rel F.inn K pa T H0 σ H g := ⟨r.len, r.sl, r.ap, r.pn, r.td, r.x0, r.tb, r.fo⟩
theorem Rel.out {pa : Addr} {T : AS} {H0 H : Hp} {σ : L2.St} {g : G} (r : Rel F.inn K pa T H0 σ H g) : Rel F K pa T H0 σ H g := ⟨r.len, r.sl, r.ap, r.pn, r.td, r.x0, r.tb, r.fo⟩
theorem PostN.out {pa : Addr} {T : AS} {H0 H H' : Hp} {σ : L2.St} {g g' : G} (r : PostN F.inn K pa T H0 σ H g H' g') : PostN F K pa T H0 σ H g H' g' := ⟨r.ext, r.rel.out, r.pen, r.sub⟩
theorem PostK.out {pa : Addr} {T : AS} {H0 H H' : Hp} {σ : L2.St} {g g' : G} {v : V} {x : D} (r : PostK F.inn K pa T H0 σ H g v H' x g') : PostK F K pa T H0 σ H g v H' x g' := ⟨r.ext, r.rel.out, r.dr, r.pen, r.sub⟩
theorem XO.blk (O : XO P w K mg base p n F X c) {scope : Scope} (hk : scope.kind = .function) (s : Shared) (H1 : Hp) (C : Addr) (cl : List (Str × Addr)) (fp : List Addr) : XO P w K mg base p n F.inn (X.blk s H1 scope (compEnvC scope cl C X.env) fp) (c.inn (relS scope c.sc)) where
  eP := O.eP
  ew := O.ew
  eK := O.eK
  em := O.em
  eb := O.eb
  room := O.room
  gd := O.gd
  calm := O.calm
  nd := O.nd
  cN := O.cN
  cs := by rw [O.cs]; rfl
  kf := hk
  xe := rfl
  cd := O.cd
  fN := O.fN
  fP := O.fP
  fw := O.fw
  fon := rfl
  ffs := O.ffs
  fcl := fun h => by cases h
  ccb := O.ccb
  nms := O.nms
  tbs := O.tbs
  bl := O.bl
  cst := O.cst
theorem XG.blk (O : XO P w K mg base p n F X c) {scope : Scope} (s : Shared) (H1 : Hp) (C : Addr) (cl : List (Str × Addr)) (fp : List Addr) : XG (X.blk s H1 scope (compEnvC scope cl C X.env) fp) (c.inn scope) where
  calm := O.calm
  nd := O.nd
  cN := O.cN
  st := fun x hx => by
    rcases loc_of hx with h | h
    · have h' := lookup_relS_keep (sc := X.env.scope) (k := .local) (by decide) h
      exact ⟨.inl h', .inr h'⟩
    · have h' := lookup_relS_keep (sc := X.env.scope) (k := .cell) (by decide) h
      refine ⟨.inr h', .inl ?_⟩
      show (scope.names.lookup x == some .cell) = true
      have h : scope.names.lookup x = some .cell := h
      rw [h]
      rfl
/-- a condition's words -/
def cndT (X : Cx) (scope : Scope) : List Expr → TT
  | [q] => wTb X scope q
  | _ => tYes
def evC (E : Ev) (cond : Option IE) (g : G) : Option (Bool × G) := match cond with | none => some (true, g) | some c => E.t c g
theorem lc_read (O : XO P w K mg base p n F X c) (h : ∀ e i, chkE p m c e i = true → OKe F X e (E.e i)) {scope : Scope} (hk : scope.kind = .function) {elt t it : Expr} {ifs : List Expr} {ielt : IE} {tg : Tg} {ik : Ik} {its : List IE} {cond : Option IE} {own : List Nat}
    (htg : chkTg (c.inn scope) t tg = true) (how : tgIs tg = own) (hit : chkIt (chkE p m c) c t ik its it = true)
    (hel : ∀ s H1 C cl fp, OKe F.inn (X.blk s H1 scope (compEnvC scope cl C X.env) fp) elt (E.e ielt))
    (hcn : (ifs = [] ∧ cond = none) ∨ ∃ q iq, ifs = [q] ∧ cond = some iq ∧ ∀ s H1 C cl fp, OKt F.inn (X.blk s H1 scope (compEnvC scope cl C X.env) fp) q (E.t iq))
    {g g' : G} {r : R} (q : stE E (.lc ielt tg ik its cond own) g = some (r, g')) {pa : Addr} {T : AS} {H0 H : Hp} {σ : L2.St} {Q : VK} (hlen : σ.length = X.N.length) (rl : Rel F X.K pa T H0 σ H g) (kk : ∀ v H', PostE F X.K pa T H0 σ H g v H' r g' → Q v H') :
    tLc (wI X t it) (tgG X.K tg) (cndT X scope ifs) (wEb X scope elt) own σ H Q := by
  simp only [stE] at q
  cases e1 : itsD E ik its g with
  | none => simp only [e1] at q; cases q
  | some dg =>
    obtain ⟨ds, g1⟩ := dg
    simp only [e1] at q
    cases e2 : evLc E ielt tg cond own ds [] g1 with
    | none => simp only [e2] at q; cases q
    | some ag =>
      obtain ⟨accF, g2⟩ := ag
      simp only [e2, Option.map_some, Option.some.injEq, Prod.mk.injEq] at q
      obtain ⟨rfl, rfl⟩ := q
      refine walk_ok O h hit e1 pa T H0 σ H _ rl fun J H1 L Z pn S hL hZ _ Da hDa => ?_
      -- the watched addresses, the slots and the state within
      have rl1 := pn.rel
      have nTD : ¬ T Da := fun z => rl1.fresh hDa (.inl z)
      have hD0 : H0 Da = none := rl1.x0.d _ hDa
      have hDH : H Da = none := pn.ext.d _ hDa
      let T1 : AS := fun a => T a ∨ a = Da
      let gw : G → G := fun gi => { gi with env := wipeE gi.env own }
      have rlw : Rel F X.K pa T1 H0 (L2.wipe σ own) (upd H1 Da (.lst [])) (gw g1) := ((rl1.watch (o := .lst []) hDa (tok_lst _ _)).wipe own).1
      have subw : ∀ a, Nv pa T1 (L2.wipe σ own) (gw g1) a → Nv pa T σ g1 a ∨ a = Da := fun a z => by
        rcases ((rl1.watch (o := .lst []) hDa (tok_lst _ _)).wipe own).2 a z with (z | z) | z
        · exact .inl (.inl z)
        · exact .inr z
        · exact .inl (.inr z)
      let Inv1 : Nat → Hp → Prop := fun i Hi => ∃ gi acc vs, evLc E ielt tg cond own (ds.drop i) acc gi = some (accF, g2) ∧ Ext (pm pa g1.pen) H1 Hi ∧ Rel F X.K pa T1 H0 (L2.wipe σ own) Hi (gw gi) ∧ gi.pen.isSome = g1.pen.isSome ∧
        (∀ a, Nv pa T1 (L2.wipe σ own) (gw gi) a → Nv pa T1 (L2.wipe σ own) (gw g1) a) ∧ Hi Da = some (.lst vs) ∧ DRs X.K (Nv pa T1 (L2.wipe σ own) (gw gi)) Hi vs acc ∧ ∀ q ∈ L, DR X.K (Nv pa T1 (L2.wipe σ own) (gw gi)) Hi q.1 q.2
      have hZ' : ∀ {Hi : Hp}, Ext (pm pa g1.pen) H1 Hi → ∀ z ∈ Z, Hi z.1 = some z.2 := fun {Hi} x z hz => x.k _ _ (hZ z hz).1 (hZ z hz).2.1 (hZ z hz).2.2
      have start : Inv1 0 (upd H1 Da (.lst [])) := by
        refine ⟨g1, [], [], by rw [List.drop_zero]; exact e2, .new hDa, rlw, rfl, fun _ z => z, upd_same, .nil, fun q hq => ?_⟩
        have d0 := (hL q hq).grow hDa
        have d1 : DR X.K (fun a => Nv pa T σ g1 a ∨ a = Da) (upd H1 Da (.lst [])) q.1 q.2 := DR.ext (m := fun _ => False) (.new hDa) (fun _ z => z.elim) d0
        exact d1.mono subw
      refine ⟨fun i k Hi => k = ds.length - i ∧ i ≤ ds.length ∧ Inv1 i Hi, ⟨ds.length, by simp, Nat.zero_le _, start⟩, ?_⟩
      rintro i k Hi ⟨rfl, hi, gi, acc, vs, ev1, x1, rli, peni, subi, hDi, hacc, hLi⟩
      by_cases hlt : i < ds.length
      · refine .inr ⟨S.go _ Hi i hlt hLi (hZ' x1), Inv1 (i + 1), fun H' p' => ⟨ds.length - (i + 1), by omega, rfl, hlt, p'⟩, fun x H' y => ?_⟩
        have hd : ds[i]? = some ds[i] := List.getElem?_eq_getElem hlt
        obtain ⟨hH', hxd⟩ := S.yld _ Hi i ds[i] x H' hd hLi (hZ' x1) y
        have hx := hxd fun a z => let ⟨o, h1, _⟩ := rli.nv a z; ⟨o, h1⟩
        have epm : pm pa gi.pen = pm pa g1.pen := pm_eq peni
        -- the heap that the iterator leaves
        have rl' : Rel F X.K pa T1 H0 (L2.wipe σ own) H' (gw gi) := by
          rcases hH' with rfl | ⟨q, ws, hq, rfl⟩
          · exact rli
          · exact rli.lay hq
        have x' : Ext (pm pa gi.pen) Hi H' := by
          rcases hH' with rfl | ⟨q, ws, hq, rfl⟩
          · exact .refl _ _
          · exact .new hq
        have hm' : ∀ {g' : G} {σ' : L2.St}, ∀ a, pm pa g'.pen a → Nv pa T1 σ' g' a := fun {g' σ'} a z => .inr (.inl z)
        have nDp : ∀ {g' : G} {σ' : L2.St} {H' : Hp}, Rel F X.K pa T1 H0 σ' H' g' → ¬ pm pa g'.pen Da := fun {g' σ' H'} r z => by
          obtain ⟨xs, e'⟩ := Option.isSome_iff_exists.mp z.1
          exact (r.pn xs e').1 (.inr z.2.symm)
        rw [List.drop_eq_getElem_cons hlt] at ev1
        unfold evLc at ev1
        cases f1 : asgT tg ds[i] (gw gi) with
        | none => rw [f1] at ev1; cases ev1
        | some ga =>
          rw [f1] at ev1
          have lenN : ∀ j ∈ tgIs tg, j < (gw gi).env.length := fun j hj => by
            have h1 := chkTg_lt htg j hj
            rw [← rl'.len, L2.wipe_length, hlen, ← O.cN]
            exact h1
          refine asg_ok f1 lenN rl' hx fun σ2 ra suba wpa pena => ?_
          rw [how] at wpa
          refine ⟨wpa.trans (wipe_wipe σ own), ?_⟩
          have pena' : pm pa ga.pen = pm pa g1.pen := by rw [pena]; exact epm
          have x'' : Ext (pm pa g1.pen) Hi H' := x'.mono fun a z => by rw [← epm]; exact z
          have ww : L2.wipe σ2 own = L2.wipe σ own := wpa.trans (wipe_wipe σ own)
          -- behind what the block did
          have after : ∀ {H3 : Hp} {gb : G}, PostN F X.K pa T1 H0 σ2 H' ga H3 gb → Ext (pm pa g1.pen) H1 H3 ∧ H3 Da = some (.lst vs) ∧ (gb.pen.isSome = g1.pen.isSome) ∧ (∀ a, Nv pa T1 σ2 gb a → Nv pa T1 (L2.wipe σ own) (gw gi) a) ∧
              (∀ {v d}, DR X.K (Nv pa T1 (L2.wipe σ own) (gw gi)) Hi v d → DR X.K (Nv pa T1 σ2 gb) H3 v d) ∧ (∀ {v d}, DRs X.K (Nv pa T1 (L2.wipe σ own) (gw gi)) Hi v d → DRs X.K (Nv pa T1 σ2 gb) H3 v d) := fun {H3 gb} p3 => by
            have x3 : Ext (pm pa g1.pen) Hi H3 := x''.trans (p3.ext.mono fun a z => by rw [← pena']; exact z)
            have sb : ∀ a, Nv pa T1 σ2 gb a → Nv pa T1 (L2.wipe σ own) (gw gi) a := fun a z => suba a (p3.sub a z)
            have hm : ∀ a, pm pa g1.pen a → Nv pa T1 (L2.wipe σ own) (gw gi) a := fun a z => .inr (.inl (by show pm pa gi.pen a; rw [epm]; exact z))
            refine ⟨x1.trans x3, x3.k _ _ hDi (fun z => nDp rli (by show pm pa gi.pen Da; rw [epm]; exact z)) fun _ => nofun, ?_, sb, fun q => (DR.ext x3 hm q).mono sb, fun q => (DRs.ext x3 hm q).mono sb⟩
            rw [p3.pen, pena]
            exact peni
          have falseEnd : ∀ {H3 : Hp} {gb : G}, PostN F X.K pa T1 H0 σ2 H' ga H3 gb → evLc E ielt tg cond own (ds.drop (i + 1)) acc gb = some (accF, g2) → Inv1 (i + 1) H3 := fun {H3 gb} p3 ev2 => by
            obtain ⟨f1, f2, f3, f4, f5, f6⟩ := after p3
            obtain ⟨rw1, sw1⟩ := p3.rel.wipe own
            rw [ww] at rw1 sw1
            exact ⟨gb, acc, vs, ev2, f1, rw1, f3, fun a z => subi a (f4 a (sw1 a z)), f2, (f6 hacc).mono sw1, fun q hq => (f5 (hLi q hq)).mono sw1⟩
          have trueEnd : ∀ {H3 : Hp} {gb : G}, PostN F X.K pa T1 H0 σ2 H' ga H3 gb → (match E.e ielt gb with
                | none => none
                | some (r, g3) => match keepR r g3 with
                  | none => none
                  | some (d, g4) => if acc.length < szL then evLc E ielt tg cond own (ds.drop (i + 1)) (acc ++ [d]) g4 else none) = some (accF, g2) →
              wEb X scope elt σ2 H3 (fun y H4 => ∃ acc, H4 Da = some (.lst acc) ∧ acc.length < sizeLine ∧ Inv1 (i + 1) (upd H4 Da (.lst (acc ++ [y])))) := fun {H3 gb} p3 ev2 => by
            cases g1e : E.e ielt gb with
            | none => rw [g1e] at ev2; cases ev2
            | some rg =>
              obtain ⟨r3, gc⟩ := rg
              simp only [g1e] at ev2
              cases g2e : keepR r3 gc with
              | none => simp only [g2e] at ev2; cases ev2
              | some dg =>
                obtain ⟨d4, gd⟩ := dg
                simp only [g2e] at ev2
                by_cases hz : acc.length < szL
                · rw [if_pos hz] at ev2
                  intro s Hx C cl fp
                  refine hel s Hx C cl fp gb r3 gc g1e pa T1 H0 σ2 H3 _ p3.rel.inn fun y H4 p4 => ?_
                  have k4 := (p4.keep g2e).out
                  have p34 : PostN F X.K pa T1 H0 σ2 H' ga H4 gd := p3.then k4.n
                  obtain ⟨f1, f2, f3, f4, f5, f6⟩ := after p34
                  have rp := k4.rel.putT (o := .lst (vs ++ [y])) (.inr rfl) f2 hD0 (tok_lst _ _)
                  obtain ⟨rw1, sw1⟩ := rp.wipe own
                  rw [ww] at rw1 sw1
                  refine ⟨vs, f2, by rw [hacc.length, ← szL_eq]; exact hz, gd, acc ++ [d4], vs ++ [y], ev2, f1.skip hDa f2, rw1, f3, fun a z => subi a (f4 a (sw1 a z)), upd_same, ?_, fun q hq => ?_⟩
                  · exact (Nv.putTs (.inr rfl) f2 ((f6 hacc).append (.cons k4.dr .nil))).mono sw1
                  · exact (Nv.putT (.inr rfl) f2 (f5 (hLi q hq))).mono sw1
                · rw [if_neg hz] at ev2
                  cases ev2
          rcases hcn with ⟨rfl, rfl⟩ | ⟨qe, iq, rfl, rfl, hq⟩
          · exact iteT (B := Inv1 (i + 1) H') (trueEnd ⟨.refl _ _, ra, rfl, fun _ z => z⟩ ev1)
          · simp only at ev1
            cases c1 : E.t iq ga with
            | none => rw [c1] at ev1; cases ev1
            | some bg =>
              obtain ⟨bb, gb⟩ := bg
              rw [c1] at ev1
              intro s Hx C cl fp
              refine hq s Hx C cl fp ga bb gb c1 pa T1 H0 σ2 H' _ ra.inn fun H3 p3 => ?_
              have p3 := p3.out
              cases bb with
              | true => exact iteT (trueEnd p3 ev1)
              | false => exact iteF (falseEnd p3 ev1)
      · have ei : i = ds.length := by omega
        subst ei
        refine .inl ⟨S.stop _ Hi hLi (hZ' x1), kk _ _ ?_⟩
        rw [List.drop_length] at ev1
        simp only [evLc, Option.some.injEq, Prod.mk.injEq] at ev1
        obtain ⟨rfl, rfl⟩ := ev1
        obtain ⟨ru, su⟩ := rli.unwipe
        have epm : pm pa g1.pen = pm pa g.pen := pm_eq pn.pen
        have sub1 : ∀ a, Nv pa T σ (gw gi) a → Nv pa T1 (L2.wipe σ own) (gw gi) a := fun a z => su a (z.imp .inl id)
        have nD : ¬ Nv pa T σ (gw gi) Da := by
          rintro (z | z | ⟨j, z⟩)
          · exact nTD z
          · obtain ⟨xs, e'⟩ := Option.isSome_iff_exists.mp z.1
            exact (ru.pn xs e').1 (.inr z.2.symm)
          · exact (ru.ownA z).2.2.1 (.inr rfl)
        refine ⟨pn.ext.trans (x1.mono fun a z => by rw [← epm]; exact z), ?_, ⟨Da, vs, rfl, hDH, hDi, hacc.mono fun a z => z.elim (sub1 a) fun z => .inl (.inr z), nTD⟩, peni.trans pn.pen, fun a z => ?_⟩
        · exact ru.mono fun a z => z.imp id fun z => (V.ref.inj z).symm
        · rcases subw a (subi a (sub1 a z)) with h1 | h1
          · exact pn.sub a h1
          · rw [h1] at z
            exact absurd z nD
end
end DL
end
section
set_option Elab.async false
set_option linter.all false
set_option maxRecDepth 100000
set_option autoImplicit false
set_option maxHeartbeats 4000000
/-! DL, part g0: all(.. for sign in text) whose test reads a name of the def around it. -/
namespace DL
open PySem PySem.Spec PyProof.Rows L2 GxR
variable [Tabs]
/-- the test of a sign, in a block that knows the def's cells as they stand in s0 -/
def SignT (X : Cx) (scope : Scope) (x : Str) (test : Expr) (f : Nat → Bool) (s0 : Shared) : Prop :=
  ∀ (be : Env) (B : Around) (EE : Value → Shared → Prop) (ch : Nat) (tk : Tok) (u : Shared) (mm : Str → Option Value),
    be.scope = scope → be.cells = cloFrom X.env.cells scope.names [] → u.heap.Ns be.locals mm → mm x = some (.str ⟨#[ch]⟩ tk) →
    (∀ (a : Addr) (val : Option Value), s0.heap.IsCell a val → u.heap.IsCell a val) →
    wpAny (model X.prog X.w) B (eval test be) (fun r u' => r = .bool (f ch) ∧ Keeps u u') EE u
section
variable {X : Cx} {pins : List (Addr × Obj)} {σ : L2.St} {H : Hp} {s : Shared}
theorem gen_cap {c P : Addr} {test iter : Expr} {x : Str} {px gp : Pos} {scope : Scope} {te : TE} {k : Nat} {Z : Value → Shared → Prop} {R : Str → (Nat → Bool) → Hp → Prop}
    (room : Room k X.A) (tab : TabB X.base X.mg c P) (code : X.env.code = .ref c) (own : GenS X.env scope x) (pit : PE X iter te) (nofold : ∀ v, genFold iter X.env v = pure v) (I : Inv X pins σ H s)
    (h : te σ H fun v H1 => ∃ a : Str, v = .str a ∧ TabG H1 P ∧ ∃ f : Nat → Bool, (∀ pins s1, Inv X pins σ H1 s1 → SignT X scope x test f s1) ∧ R a f H1)
    (out : ∀ a f H1 g s5, R a f H1 → Ready X pins σ H1 P a f g s5 → Z (.ref g) s5) :
    wpAny (model X.prog X.w) X.A (eval (.GeneratorExp test [⟨.Name x px, iter, [], 0⟩] scope gp) X.env) Z X.xe s := by
  refine wpAny_GeneratorExp_walksQ room.hd own.co (closure_ok own.free) own.cell own.dot own.loc own.kind (by have := room.dp; omega) ?_ nofold
  refine wpAny_mono (pit.run pins s σ H _ I h) ?_ fun _ _ e => e
  rintro xv s1 ⟨v, H1, J, rv, a, rfl, ⟨ps, tabH, trip⟩, f, sf, rr⟩
  obtain ⟨tk0, rfl⟩ := _root_.id rv
  have sign := sf pins s1 J
  refine wpAny_pyIter_str fun itO St W start => ?_
  have tabS : s1.heap.get? P = some { cls := .none, data := .fields ps } := J.hok P _ tabH
  have ltP : P < s1.heap.objs.size := Heap.lt_size tabS
  have tabS2 : (s1.heap.push itO).get? P = some { cls := .none, data := .fields ps } := Heap.get?_push_of_some _ tabS
  have head : PySem.W.CodeHd (s1.heap.push itO) c P := tab.code.keeps fun b u e => Heap.get?_push_of_some _ (J.bk b u e)
  have lim := J.nolimit.push itO
  have onward : ∀ (cv : Value) (h3 : Heap) (tk : Nat) (qs : Array Value), Heap.ExtBut P (s1.heap.push itO) h3 → (s1.heap.push itO).objs.size ≤ h3.objs.size → h3.get? P = some { cls := .none, data := .fields qs } → (∃ more, qs = ps ++ more) → TriplesOk qs.toList →
      wpAny (model X.prog X.w) X.A (builtinsFor X.env.globals X.env.builtins) (fun bl v =>
        ∃ walked foot wrote count at0 st0 pass give, Value.ref s1.heap.objs.size = .ref walked ∧ (∀ B : Around, B.handled = none → Walks X.prog X.w B walked foot wrote count at0 st0) ∧ st0 0 v.heap ∧ (∀ b ∈ foot, b < v.heap.objs.size) ∧ v.heap.NoLimit ∧ cStatics ∉ wrote ∧
          (∀ hr : Heap, (∀ b o, v.heap.get? b = some o → hr.get? b = some o) → QuietGen X.prog X.w (genEnv scope (cloFrom X.env.cells scope.names []) v.heap.objs.size cv bl X.env) x [] test (List.range v.heap.objs.size) wrote at0 pass give hr) ∧
          (∀ ga hh tz gg, gg.bare = true → v.heap.objs.size < ga → hh.objs.size = ga + 1 → (∀ b o, v.heap.get? b = some o → hh.get? b = some o) →
            WalksS X.prog X.w X.A.in4 ga (ga :: v.heap.objs.size :: List.range v.heap.objs.size) (v.heap.objs.size :: wrote) (GenOnlyQ v.gens.size) (passing pass count 0).length
              (fun j y => ∃ i, (passing pass count 0)[j]? = some i ∧ give i y) (GenAt X.prog X.w X.A.in4 ga v.gens.size v.heap.objs.size (List.range v.heap.objs.size) wrote pass count give) →
            GenAt X.prog X.w X.A.in4 ga v.gens.size v.heap.objs.size (List.range v.heap.objs.size) wrote pass count give 0 { v with gens := v.gens.push gg, toks := tz, heap := hh } →
            Z (.ref ga) { v with gens := v.gens.push gg, toks := tz, heap := hh })) X.xe { s1 with heap := h3, toks := tk } := by
    intro cv h3 tk qs but grown tab3 longer trip3
    obtain ⟨bm, ob, b1, b2, b3, b4, b5, b6, b7, b8⟩ := tab.bm
    have statP : cStatics ≠ P := by
      obtain ⟨_, ⟨o', es, ep, q1, q2, _⟩, _⟩ := J.nolimit
      rintro rfl
      rw [tabS] at q1
      cases q1
      cases q2
    have statL : cStatics < s1.heap.objs.size := by
      obtain ⟨_, q, _⟩ := J.nolimit
      exact q.lt
    have pushed : (s1.heap.push itO).objs.size = s1.heap.objs.size + 1 := Heap.size_push ..
    have stays : ∀ b u, b ≠ P → s1.heap.get? b = some u → h3.get? b = some u := fun b u nb e => but b u nb (Heap.get?_push_of_some _ e)
    refine wpAny_builtinsFor (m := X.mg) (by rw [J.ok.glob]; exact ((J.mod.glob.keeps J.bk).push itO).extBut but tab.gP) b1 b2 (stays _ _ b4 (J.bk _ _ b5)) b6 b7 b8 ?_
    refine ⟨s1.heap.objs.size, [s1.heap.objs.size], [s1.heap.objs.size], a.cps.size, SignAt a, St, (fun _ => true), (fun i y => ∃ cc, a.cps[i]? = some cc ∧ y = .bool (f cc)), rfl, W, ?start, ?below, lim.extBut but statP, ?stat, ?quiet, ?last⟩
    case start =>
      refine (W X.A room.hd).frame _ _ _ start fun b hb u e => but b u ?_ e
      cases List.mem_singleton.mp hb
      exact (Nat.ne_of_lt ltP).symm
    case below =>
      intro b hb
      cases List.mem_singleton.mp hb
      show s1.heap.objs.size < h3.objs.size
      omega
    case stat =>
      intro z
      exact Nat.ne_of_lt statL (List.mem_singleton.mp z)
    case quiet =>
      intro hr keep
      constructor
      · intro B EE i v u mm _ _ _ _ _
        simp only [List.forIn_nil]
        exact wpAny_pure ⟨rfl, keeps_refl _⟩
      · intro B EE i v u mm _ at_ _ ns look kept
        obtain ⟨cc, tk', ec, rfl⟩ := at_
        refine wpAny_mono (sign _ B EE cc tk' u mm rfl rfl ns look fun b val hc => ?_) (fun y u' r => ⟨⟨cc, ec, r.1⟩, r.2⟩) fun _ _ e => e
        obtain ⟨o, g1, g2⟩ := hc
        have bP : b ≠ P := by
          rintro rfl
          rw [tabS] at g1
          cases g1
          cases g2
        have g3 := stays b o bP g1
        exact ⟨o, kept b (List.mem_range.mpr (Heap.lt_size g3)) (fun z => Nat.ne_of_lt (Heap.lt_size g1) (List.mem_singleton.mp z)) o (keep b o g3), g2⟩
    case last =>
      intro g h5 tk5 gs bare after size5 keep5 W5 at5
      simp only [GxR.passing_true, List.length_range] at W5
      refine out a f H1 g _ rr ⟨_, _, _, _, _, W5.in4_1, at5, fun j y sj Qj Ej hy hQj => ?_, fun s' mv => ?_⟩
      · obtain ⟨i, hij, cc, hcc, rfl⟩ := hy
        obtain ⟨_, ej⟩ := List.getElem?_eq_some_iff.mp hij
        rw [List.getElem_range] at ej
        subst ej
        have sg : a.cps.toList[j]? = some cc := by rw [Array.getElem?_toList]; exact hcc
        have hj : Qj (trF f a.cps.toList j) sj := hQj
        rw [trF_some sg] at hj
        exact wpAny_truthy_bool hj
      · obtain ⟨more, rfl⟩ := longer
        have nw : ∀ b u, s1.heap.get? b = some u → b ∉ h3.objs.size :: [s1.heap.objs.size] := fun b u e z => by
          have lt := Heap.lt_size e
          rcases List.mem_cons.mp z with z | z
          · have : b < s1.heap.objs.size := lt
            rw [z] at this
            have : (h3.objs.size : Nat) < s1.heap.objs.size := this
            omega
          · exact Nat.ne_of_lt lt (List.mem_singleton.mp z)
        have J5 := inv_tab (more := more) (h' := s'.heap) (g' := s'.gens) (d' := s'.drawn) (t' := s'.toks) J tabH (fun b u nb e => mv.heap b u (nw b u e) (keep5 b u (stays b u nb e))) (mv.heap P _ (nw P _ tabS) (keep5 P _ tab3)) (AllBare.movedS (J.bare.push bare) mv)
        rw [sh_eta s1 s' mv.os] at J5
        exact ⟨_, ⟨⟨ps ++ more, upd_same, trip3⟩, fun b nb => upd_ne nb⟩, J5⟩
  refine ⟨lim, ?_⟩
  cases seen : codeAmong gp ps.toList with
  | none =>
    refine wpAny_genexprCodeX code (head.code tabS2 trip) (head.tab tabS2) seen fun c' h' tk e1 e2 e3 isC _ isT _ => ?_
    obtain ⟨o1, vs, f1, tf, fl, tg, inF, tx, tt, op, _, _, _, _, _, _, _, _, _, htr, _⟩ := isC
    exact onward _ h' tk _ e1 (Nat.le_trans e2 (Nat.le_of_lt e3)) isT.2 ⟨_, rfl⟩ htr
  | some cv =>
    refine wpAny_genexprCode_hit code (head.code tabS2 trip) seen ?_
    exact onward cv (s1.heap.push itO) s1.toks ps (Heap.ExtBut.refl _ _) (Nat.le_refl _) tabS2 ⟨#[], by simp⟩ trip
/-- all(test for x in e), e a text -/
def tAllC (X : Cx) (scope : Scope) (x : Str) (test : Expr) (P : Addr) (te : TE) : TE := fun σ H Q => te σ H fun v H1 => ∃ a : Str, v = .str a ∧ TabG H1 P ∧ ∃ f : Nat → Bool, (∀ pins s1, Inv X pins σ H1 s1 → SignT X scope x test f s1) ∧ ∀ H2, Tabbed P H1 H2 → Q (.bl (a.cps.toList.all f)) H2
theorem pe_allC {c P : Addr} {test iter : Expr} {x : Str} {px p pos gp : Pos} {scope : Scope} {te : TE} {k : Nat}
    (room : Room k X.A) (gl : Gl X "all") (mg : X.mg "all" = none) (tab : TabB X.base X.mg c P) (code : X.env.code = .ref c) (own : GenS X.env scope x) (pit : PE X iter te) (nofold : ∀ v, genFold iter X.env v = pure v) :
    PE X (.Call (.Name "all" p) [.GeneratorExp test [⟨.Name x px, iter, [], 0⟩] scope gp] [] pos) (tAllC X scope x test P te) := by
  have star : starEach [.GeneratorExp test [⟨.Name x px, iter, [], 0⟩] scope gp] X.env = (false, eval (.GeneratorExp test [⟨.Name x px, iter, [], 0⟩] scope gp) X.env) :: starEach [] X.env := rfl
  constructor
  intro pins s σ H Q I h
  refine wpAny_Call_Name_kw (ld_blt I gl mg (by rfl) ?_)
  refine PyProof.Rows.callWith_builtin1 ?_ star (by rfl)
  rw [star]
  show wpAny _ _ (spliced ((false, eval (.GeneratorExp test [⟨.Name x px, iter, [], 0⟩] scope gp) X.env) :: backTo pos (starEach [] X.env))) _ _ s
  refine Calls.spliced_cons (gen_cap (R := fun a f H1 => ∀ H2, Tabbed P H1 H2 → Q (.bl (a.cps.toList.all f)) H2) room tab code own pit nofold I h fun a f H1 g s5 hR hG => ?_)
  obtain ⟨fp, wr, G, F, St, W, hst, htr, hI⟩ := hG
  refine Calls.spliced_nil ?_
  refine call_all_walkS (W.self 0 _ _ _ hst ⟨g, fp, wr, G, _, F, St, _, rfl, W, hst, htr, fun s' mv => ?_⟩)
  obtain ⟨H2, hT, J⟩ := hI s' mv
  refine ⟨.bl _, H2, J, rfl, ?_⟩
  rw [all_signs a f]
  exact hR H2 hT
end
end DL
end
section
set_option Elab.async false
set_option linter.all false
set_option maxRecDepth 100000
set_option autoImplicit false
set_option maxHeartbeats 4000000
/-! DL, part o1: all(sign in y for sign in text), y a name of the def. -/
namespace DL
open PySem PySem.Spec PyProof.Rows L2
variable [Tabs]
section
variable {P : Program} {w : World} {K : Fg} {mg : Str → Option Value} {base : Heap} {p : Pgm} {n m : Nat} {F : Fm} {X : Cx} {c : Ct} {E : Ev}
theorem tabbed_ext {H1 H2 : Hp} {q : Addr} {mm : AS} (h : GxR.TabG H1 q) (wk : Tabs.weak q = true) (t : GxR.Tabbed q H1 H2) : Ext mm H1 H2 := by
  obtain ⟨ps, e, _⟩ := h
  have nq : ∀ b o, H1 b = some o → (∀ ps, o ≠ .tbl ps) → b ≠ q := fun b o e1 e2 z => by
    rw [z, e] at e1
    exact e2 ps (Option.some.inj e1).symm
  refine ⟨fun b o e1 _ e2 => (t.2 b (nq b o e1 e2)).trans e1, fun b hb => ?_, fun b hb => ?_⟩
  · by_cases z : b = q
    · rw [z]
      exact ⟨t.1, fun z => by rw [wk] at z; cases z⟩
    · exact hb.of (t.2 b z) fun c φ e1 => (t.2 c (nq c _ e1 fun _ => nofun)).trans e1
  · by_cases z : b = q
    · obtain ⟨ps', e', _⟩ := t.1
      rw [z, e'] at hb
      cases hb
    · rw [← t.2 b z]; exact hb
theorem gen_own {sc scope : Scope} {x y : Str} (h : genB sc scope x y = true) {env : Env} (he : env.scope = sc) (has : ∀ x, (env.kindOf x = some .cell ∨ env.kindOf x = some .free) → ∃ c, env.cells.lookup x = some c) :
    GxR.GenS env scope x ∧ scope.names.lookup y = some .free ∧ sc.names.lookup y = some .cell := by
  unfold genB at h
  simp only [Bool.and_eq_true, Bool.not_eq_true', beq_iff_eq] at h
  obtain ⟨⟨⟨⟨⟨⟨⟨h1, h2⟩, h3⟩, h4⟩, h5⟩, h6⟩, h7⟩, h8⟩ := h
  refine ⟨⟨h1, h2, fun z hz e => ?_, h4, h5, fun z hz e => has z.1 (.inl ?_)⟩, h7, h8⟩
  · have := List.all_eq_true.mp h3 z hz
    rw [e] at this
    cases this
  · have := List.all_eq_true.mp h6 z hz
    rw [e] at this
    subst he
    have t2 : env.scope.names.lookup z.1 = some .cell := by simpa using this
    exact t2
theorem lookup_mem {α β : Type} [BEq α] [LawfulBEq α] : ∀ {l : List (α × β)} {x : α} {y : β}, l.lookup x = some y → (x, y) ∈ l
  | (a, b) :: r, x, y, h => by
    rw [List.lookup_cons] at h
    cases q : x == a with
    | true =>
      rw [q] at h
      cases h
      have := eq_of_beq q
      subst this
      exact List.mem_cons_self
    | false =>
      rw [q] at h
      exact List.mem_cons_of_mem _ (lookup_mem h)
  | [], _, _, h => by cases h
theorem ok_allG (O : XO P w K mg base p n F X c) {ps pos gp p1 p2 p3 px : Pos} {x y : Str} {j i : Nat} {iter : Expr} {it : IE} {scope : Scope} (hg : glB c.sc "all" = true) (ht : c.N ∈ p.tabs) (hwk : c.N ∈ p.wk) (hj : c.N[j]? = some y) (hb : genB c.sc scope x y = true) (hx : okN x = true) (hy : okN y = true)
    (hi : isNm iter = true) (h : OKe F X iter (E.e it)) :
    OKe F X (.Call (.Name "all" ps) [.GeneratorExp (.Compare (.Name x p1) [.In] [.Name y p2] p3) [⟨.Name x px, iter, [], 0⟩] scope gp] [] pos) (stE E (.allG (.slot j) i it)) := by
  intro g r g' q pa T H0 σ H Q rl kk pins s I
  obtain ⟨cc, Pt, hc, hmem, hweak⟩ := O.cd ht
  have wk : Tabs.weak Pt = true := by rw [hweak]; exact decide_eq_true hwk
  have tb : GxR.TabB X.base X.mg cc Pt := by rw [O.eb, O.em]; exact O.tbs _ hmem
  simp only [stE] at q
  cases e1 : rd1 E it g with
  | none => simp only [e1] at q; cases q
  | some t =>
    obtain ⟨d, g1⟩ := t
    cases d with
    | str a =>
      simp only [e1] at q
      split at q
      · rename_i z e2
        cases q
        have cs' : X.env.scope = c.sc := O.cs.symm
        obtain ⟨own, fy, cy⟩ := gen_own hb cs' I.ok.has
        have nofold : ∀ v, genFold iter X.env v = pure v := by
          cases iter <;> first | (intro v; rfl) | cases hi
        refine (pe_allC (P := Pt) (te := wE X iter) O.room (gl_of O hg) (O.bln (by decide)) tb hc own pe_w nofold).run pins s σ H Q I ?_
        refine OKe.rd h g _ _ e1 pa T H0 σ H _ rl fun v H1 p1 => ?_
        have tG : GxR.TabG H1 Pt := (p1.rel.tab _ hmem).1
        refine ⟨a, p1.tr.str, tG, fun ch => decide (ch ∈ z.cps.toList), fun pins' s1 J => ?_, fun H2 t2 => ?_⟩
        · obtain ⟨v2, f1, f2⟩ := p1.rel.sl j _ e2
          have f3 : v2 = .str z := DR.str_inv f2
          subst f3
          obtain ⟨mm, _, look⟩ := J.loc
          have hN : X.N[j]? = some y := by rw [← O.cN]; exact hj
          obtain ⟨u, ru, lk⟩ := look j y (.str z) hN f1 (.inr (.inl (by rw [cs']; exact cy)))
          obtain ⟨tz, rfl⟩ := _root_.id ru
          have cell : ∃ ca, X.env.cells.lookup y = some ca ∧ s1.heap.IsCell ca (some (.str z tz)) := by
            rcases lk with ⟨k1, _⟩ | ⟨_, ca, k2, k3⟩
            · have k1' : X.env.scope.names.lookup y = some .local := k1
              rw [cs', cy] at k1'
              cases k1'
            · exact ⟨ca, k2, k3⟩
          obtain ⟨ca, k2, k3⟩ := cell
          intro be B EE ch tk u' m' h1 h2 h3 h4 h5
          have kf : be.scope.kind = .function := by rw [h1]; exact own.kind
          refine wpAny_Compare1 ?_
          refine wpAny_Name (wpAny_loadName_local kf (show be.scope.names.lookup x = some .local by rw [h1]; exact own.loc) h3 h4 ?_) (okN_of hx).1
          refine wpAny_Name (wpAny_loadName_free kf (show be.scope.names.lookup y = some .free by rw [h1]; exact fy) (by rw [h2]; exact NdefX.clo_has own.free (lookup_mem fy) k2) (h5 _ _ k3) ?_ (okN_of hy).2.1) (okN_of hy).1
          refine PySem.P.in_str ⟨?_, GxR.keeps_refl _⟩
          rw [PySem.StrLaws.found_one]
        · have e := tabbed_ext (mm := pm pa g'.pen) tG wk t2
          have e' : Ext (pm pa g.pen) H1 H2 := tabbed_ext tG wk t2
          refine kk _ _ ⟨p1.ext.trans e', p1.rel.ext e fun xs ex => ?_, .bl _, p1.pen, p1.sub⟩
          obtain ⟨_, vs, z2, z3⟩ := p1.rel.pn xs ex
          have nP : pa ≠ Pt := by
            rintro rfl
            obtain ⟨qs, e9, _⟩ := tG
            rw [e9] at z2
            cases z2
          exact ⟨vs, (t2.2 pa nP).trans z2, DRs.ext e (fun a z => .inr (.inl z)) z3⟩
      · cases q
    | _ => simp only [e1] at q; cases q
end
end DL
end
section
set_option Elab.async false
set_option linter.all false
set_option maxRecDepth 100000
set_option autoImplicit false
set_option maxHeartbeats 4000000
/-! DL, part o2: functions made in a def. -/
namespace DL
open PySem PySem.Spec PyProof.Rows L2
variable [Tabs]
section
variable {X : Cx} {pins : List (Addr × Obj)} {σ : L2.St} {H : Hp} {s : Shared}
theorem inv_fnV {C : CodeT} {cl : List (Str × Addr)} {c : Addr} {t' : Nat} {doc pm ctv : Value} (I : Inv X pins σ H s) :
    Inv X pins σ (upd H s.heap.objs.size (FnV s.heap.objs.size C cl c)) { s with heap := s.heap.push { cls := .type "function", data := .func (C.fd cl c doc pm ctv) }, toks := t' } := by
  refine I.laid (a := s.heap.objs.size) (fun b u e => Heap.get?_push_of_some _ e) (Nat.le_refl _) ?_
  have e : (s.heap.push ({ cls := .type "function", data := .func (C.fd cl c doc pm ctv) } : Obj)).get? s.heap.objs.size = some ({ cls := .type "function", data := .func (C.fd cl c doc pm ctv) } : Obj) := Heap.get?_push_size _ rfl
  exact ⟨⟨_, _, doc, pm, ctv, e⟩, ⟨_, e⟩, fun h1 h2 ⟨od, sl, d, p, t, z⟩ st => ⟨od, sl, d, p, t, st _ z⟩⟩
/-- what the making of a function leaves -/
structure Made (H H1 : Hp) (C : CodeT) (cl : List (Str × Addr)) (f c' : Addr) : Prop where
  ext : ∀ m, Ext m H H1
  keep : ∀ b o, H b = some o → (∀ ps, o ≠ .tbl ps) → H1 b = some o
  new : H f = none
  fn : H1 f = some (FnV f C cl c')
  co : H1 c' = some (LamX.CodeO c' C.qual)
theorem fn_made {C : CodeT} {c P : Addr} {pos : Pos} {E : Value → Shared → Prop} {Q : Value → Shared → Prop} (I : Inv X pins σ H s) (TB : LamX.TabB X.base X.mg c P) (hcode : X.env.code = .ref c) (hT : TabOk H P) (hw : Tabs.weak P = false)
    (hn : Tabs.nm pos.line pos.col = C.qual) (hfree : ∀ y ∈ C.scope.names, y.2 = .free → ∃ c, X.env.cells.lookup y.1 = some c)
    (h : ∀ (f c' : Addr) (H1 : Hp) (s' : Shared), Inv X pins σ H1 s' → Made H H1 C (cloFrom X.env.cells C.scope.names []) f c' → Q (.ref f) s') :
    wpAny (model X.prog X.w) X.A (makeFunction C.name C.qual C.params C.body C.scope X.env [] [] [] pos pos.line) Q E s := by
  obtain ⟨ps, hP, ht, ha⟩ := hT.2 hw
  have bP : s.heap.BuiltinsAt X.mg P := TB.bm.keeps I.bk
  have hP' : s.heap.get? P = some { cls := .none, data := .fields ps } := I.hok P _ hP
  obtain ⟨name, qual, params, body, scope, fr⟩ := C
  cases hc : codeAmong pos ps.toList with
  | none =>
    have go : ∀ (c' : Addr) (ctv doc : Value) (h' : Heap) (tk : Tok), Heap.ExtBut P s.heap h' → s.heap.objs.size ≤ c' → c' < h'.objs.size → h'.CodeRec (.ref c') qual → h'.get? P = some { cls := .none, data := .fields (ps ++ #[rawInt pos.line, rawInt pos.col, .ref c']) } →
        Q (.ref h'.objs.size) { s with heap := h'.push { cls := .type "function", data := .func (CodeT.fd ⟨name, qual, params, body, scope, fr⟩ (cloFrom X.env.cells scope.names []) c' doc ((X.mg "__name__").getD .none) ctv) }, toks := tk } := fun c' ctv doc h' tk hx hge hlt hrec htb => by
      obtain ⟨c2, oc, vs, t, e2, hoc, hd, hv⟩ := hrec
      cases e2
      have nC : H c' = none := I.hok.fresh hge
      have I1 := LamX.inv_table (t' := tk) (more := #[rawInt pos.line, rawInt pos.col, .ref c']) (h' := h') I hP (fun b o hb e => hx b o hb e) htb hge ⟨oc, vs, t, hoc, hd, hv⟩
      have nF0 : H h'.objs.size = none := I.hok.fresh (Nat.le_trans hge (Nat.le_of_lt hlt))
      have nF := I1.hok.fresh (Nat.le_refl _)
      have I2 := inv_fnV (C := ⟨name, qual, params, body, scope, fr⟩) (cl := cloFrom X.env.cells scope.names []) (c := c') (t' := tk) (doc := doc) (pm := (X.mg "__name__").getD .none) (ctv := ctv) I1
      have nPc : P ≠ c' := ne_of_none hP nC
      have nPf : P ≠ h'.objs.size := ne_of_none hP nF0
      have kp : ∀ b o, H b = some o → (∀ ps, o ≠ .tbl ps) → upd (upd (upd H P (.tbl (ps ++ #[rawInt pos.line, rawInt pos.col, .ref c']))) c' (LamX.CodeO c' qual)) h'.objs.size (FnV h'.objs.size ⟨name, qual, params, body, scope, fr⟩ (cloFrom X.env.cells scope.names []) c') b = some o := fun b o e n => by
        rw [upd_ne (ne_of_none e nF0), upd_ne (ne_of_none e nC), upd_ne (fun z => n ps (Option.some.inj (e.symm.trans (by rw [z]; exact hP))))]
        exact e
      have eL : (ps ++ #[rawInt pos.line, rawInt pos.col, .ref c']).toList = ps.toList ++ [rawInt pos.line, rawInt pos.col, .ref c'] := by simp
      refine h h'.objs.size c' _ _ I2 ⟨fun m => ⟨fun b o e _ n => kp b o e n, fun b tb => ?_, fun b e => upd_no b (upd_no b (upd_no b e))⟩, kp, nF0, upd_same, ?_⟩
      · by_cases hb : b = P
        · subst hb
          have eP : upd (upd (upd H b (.tbl (ps ++ #[rawInt pos.line, rawInt pos.col, .ref c']))) c' (LamX.CodeO c' qual)) h'.objs.size (FnV h'.objs.size ⟨name, qual, params, body, scope, fr⟩ (cloFrom X.env.cells scope.names []) c') b = some (.tbl (ps ++ #[rawInt pos.line, rawInt pos.col, .ref c'])) := by
            rw [upd_ne nPf, upd_ne nPc, upd_same]
          have tr : TriplesOk (ps ++ #[rawInt pos.line, rawInt pos.col, .ref c']).toList := by rw [eL]; exact PySem.TriplesOk_snoc _ _ _ _ ht
          refine ⟨⟨_, eP, tr⟩, fun _ => ⟨_, eP, tr, fun p' cv hcv => ?_⟩⟩
          rw [eL] at hcv
          rcases NdefX.among_app2 _ ht hcv with z | ⟨z, z1, z2⟩
          · obtain ⟨c0, e1, e2⟩ := ha p' cv z
            exact ⟨c0, e1, kp _ _ e2 fun _ => LamX.codeO_ne _⟩
          · refine ⟨c', z, ?_⟩
            rw [upd_ne (Nat.ne_of_lt hlt), upd_same, ← z1, ← z2, hn]
        · refine tb.of ?_ fun d φ e => kp d _ e fun _ => nofun
          obtain ⟨qs, e, _⟩ := tb.1
          rw [upd_ne (ne_of_none e nF0), upd_ne (ne_of_none e nC), upd_ne hb]
      · rw [upd_ne (Nat.ne_of_lt hlt), upd_same]
    cases body with
    | stmts b => exact PySem.W.makeFunction_K (mg := X.mg) (c := c) (P := P) (ps := ps) (closure_ok hfree) I.ok.glob (I.mod.glob.keeps I.bk) hcode (TB.code.keeps I.bk) hP' ht hc TB.gP bP fun c' ctv doc h' tk => go c' ctv doc h' tk
    | expr b => exact PySem.W.kla_makeFunction (mg := X.mg) (c := c) (P := P) (ps := ps) (closure_ok hfree) I.ok.glob (I.mod.glob.keeps I.bk) hcode (TB.code.keeps I.bk) hP' ht hc TB.gP bP fun c' ctv h' tk => go c' ctv .none h' tk
  | some cv =>
    obtain ⟨c', e, hco⟩ := ha pos cv hc
    subst e
    rw [hn] at hco
    have go : ∀ (ctv doc : Value) (h' : Heap) (tk : Tok), (∀ b o, s.heap.get? b = some o → h'.get? b = some o) → s.heap.objs.size ≤ h'.objs.size →
        Q (.ref h'.objs.size) { s with heap := h'.push { cls := .type "function", data := .func (CodeT.fd ⟨name, qual, params, body, scope, fr⟩ (cloFrom X.env.cells scope.names []) c' doc ((X.mg "__name__").getD .none) ctv) }, toks := tk } := fun ctv doc h' tk hx hsz => by
      have I1 : Inv X pins σ H { s with heap := h', toks := tk } := I.kept hx
      have nF : H h'.objs.size = none := I1.hok.fresh (Nat.le_refl _)
      have I2 := inv_fnV (C := ⟨name, qual, params, body, scope, fr⟩) (cl := cloFrom X.env.cells scope.names []) (c := c') (t' := tk) (doc := doc) (pm := (X.mg "__name__").getD .none) (ctv := ctv) I1
      exact h h'.objs.size c' _ _ I2 ⟨fun m => .new nF, fun b o e _ => (upd_ne (ne_of_none e nF)).trans e, nF, upd_same, (upd_ne (ne_of_none hco nF)).trans hco⟩
    cases body with
    | stmts b => exact PySem.W.makeFunction_hit (mg := X.mg) (c := c) (P := P) (ps := ps) (closure_ok hfree) I.ok.glob (I.mod.glob.keeps I.bk) hcode (TB.code.keeps I.bk) hP' ht hc bP fun ctv doc h' tk => go ctv doc h' tk
    | expr b => exact PySem.W.kla_makeFunctionHit (mg := X.mg) (c := c) (P := P) (ps := ps) (closure_ok hfree) I.ok.glob (I.mod.glob.keeps I.bk) hcode (TB.code.keeps I.bk) hP' ht hc bP fun ctv h' tk => go ctv .none h' tk
end
section
variable {P : Program} {w : World} {K : Fg} {mg : Str → Option Value} {base : Heap} {p : Pgm} {n m : Nat} {F : Fm} {X : Cx} {c : Ct} {E : Ev}
theorem lookup_mem2 {l : List (Str × NameKind)} {x : Str} {k : NameKind} (h : l.lookup x = some k) : (x, k) ∈ l := PySem.mem_of_lookup h
/-- what the check of a making says -/
structure MkOk (X : Cx) (F : Fm) (p : Pgm) (c : Ct) (k : Nat) (C : CodeT) (pos : Pos) (js : List Nat) (P : Addr) (cc : Addr) : Prop where
  tb : LamX.TabB X.base X.mg cc P
  code : X.env.code = .ref cc
  mem : (cc, P) ∈ Tabs.l
  wk : Tabs.weak P = false
  nm : Tabs.nm pos.line pos.col = C.qual
  q : X.env.qual ++ C.name = C.qual
  df : C.params.defaults = []
  kd : C.params.kw_defaults = []
  free : ∀ y ∈ C.scope.names, y.2 = .free → y.1 ∈ C.fr ∧ (X.env.scope.names.lookup y.1 = some .cell ∨ X.env.scope.names.lookup y.1 = some .free)
  frm : ∀ y ∈ C.fr, (y, NameKind.free) ∈ C.scope.names
  len : C.fr.length = js.length
  at_ : ∀ (i : Nat) (y : Str), C.fr[i]? = some y → ∃ j, js[i]? = some j ∧ X.N[j]? = some y
  ck : Tabs.chk k C
  on : F.on = true
  cl : F.cl = X.env.cells
  sc : F.sc = X.env.scope
  fn : F.N = X.N
theorem mk_ok (O : XO P w K mg base p n F X c) {k : Nat} {name : Str} {params : Arguments} {body : FuncBody} {scope : Scope} {pos : Pos} {js : List Nat} (h : mkB p c k name params body scope pos js = true) :
    ∃ P cc, MkOk X F p c k ⟨name, c.q ++ name, params, body, scope, frOf c js⟩ pos js P cc := by
  unfold mkB at h
  simp only [Bool.and_eq_true, decide_eq_true_eq, Bool.not_eq_true', decide_eq_false_iff_not, List.isEmpty_iff, List.all_eq_true, Bool.or_eq_true, beq_iff_eq] at h
  obtain ⟨⟨⟨⟨⟨⟨⟨⟨⟨h1, h2⟩, h3⟩, h4⟩, h5⟩, h6⟩, h7⟩, h8⟩, h9⟩, h10⟩ := h
  obtain ⟨cc, Pt, hc, hmem, hweak⟩ := O.cd h2
  obtain ⟨f1, f2, f3, _⟩ := O.fcl h1
  have tb : GxR.TabB X.base X.mg cc Pt := by rw [O.eb, O.em]; exact O.tbs _ hmem
  refine ⟨Pt, cc, ⟨tb.code, tb.bm, tb.gP⟩, hc, hmem, by rw [hweak]; exact decide_eq_false h3, by rw [O.nms]; exact h4, by rw [f2], h5, h6, fun y hy e => ?_, h8, by show (frOf c js).length = _; unfold frOf; rw [List.length_map], fun i y e => ?_, O.ccb _ _ h10, by rw [O.fon]; exact h1, f1, f3, O.fN⟩
  · have e' : y.2 = .free := e
    rcases h7 y hy with z | ⟨z1, z2⟩
    · rw [e'] at z; cases z
    · exact ⟨z1, by rw [← O.cs]; exact z2⟩
  · have e' : (frOf c js)[i]? = some y := e
    unfold frOf at e'
    rw [List.getElem?_map] at e'
    cases ej : js[i]? with
    | none => rw [ej] at e'; cases e'
    | some j =>
      rw [ej] at e'
      have hj := h9 j (List.mem_of_getElem? ej)
      refine ⟨j, rfl, ?_⟩
      have e2 : (c.N[j]?).getD "" = y := Option.some.inj e'
      rw [List.getElem?_eq_getElem hj] at e2
      rw [← O.cN, List.getElem?_eq_getElem hj]
      exact congrArg some e2
/-- the cells of what is made -/
theorem MkOk.caps {X : Cx} {F : Fm} {p : Pgm} {c : Ct} {k : Nat} {C : CodeT} {pos : Pos} {js : List Nat} {Pt cc : Addr} (M : MkOk X F p c k C pos js Pt cc) (ok : X.Ok) :
    (∀ y ∈ C.scope.names, y.2 = .free → ∃ c, X.env.cells.lookup y.1 = some c) ∧
    (∀ x y a, (cloFrom X.env.cells C.scope.names []).lookup x = some a → (cloFrom X.env.cells C.scope.names []).lookup y = some a → x = y) ∧ (∀ y a, (cloFrom X.env.cells C.scope.names []).lookup y = some a → y ∈ C.fr) ∧
    ∀ (i : Nat) (y : Str), C.fr[i]? = some y → ∃ (j : Nat) (a : Addr), js[i]? = some j ∧ F.N[j]? = some y ∧ F.cl.lookup y = some a ∧ (cloFrom X.env.cells C.scope.names []).lookup y = some a ∧ F.vc y := by
  have hf : ∀ y ∈ C.scope.names, y.2 = .free → ∃ c, X.env.cells.lookup y.1 = some c := fun y hy e => (M.free y hy e).2.elim (fun z => ok.has _ (.inl z)) fun z => ok.has _ (.inr z)
  refine ⟨hf, fun x y a h1 h2 => ok.inj x y a (NdefX.clo_cm hf h1) (NdefX.clo_cm hf h2), fun y a h => ?_, fun i y e => ?_⟩
  · rcases cloFrom_mem (PySem.mem_of_lookup h) with hm | ⟨h1, _⟩
    · cases hm
    · exact (M.free _ h1 rfl).1
  · obtain ⟨j, e1, e2⟩ := M.at_ i y e
    have hm := M.frm y (List.mem_of_getElem? e)
    obtain ⟨a, ha⟩ := hf _ hm rfl
    refine ⟨j, a, e1, by rw [M.fn]; exact e2, by rw [M.cl]; exact ha, NdefX.clo_has hf hm ha, ?_⟩
    unfold Fm.vc
    rw [M.sc]
    exact (M.free _ hm rfl).2
theorem defs_none {params : Arguments} {env : Env} (h1 : params.defaults = []) (h2 : params.kw_defaults = []) : defaultsOf params env = ([], []) := by
  cases params
  simp only at h1 h2
  subst h1 h2
  rfl
theorem Made.rel {C : CodeT} {cl : List (Str × Addr)} {f c' pa : Addr} {H0 H H1 : Hp} {T : AS} {σ : L2.St} {g : G} (M : Made H H1 C cl f c') (rl : Rel F K pa T H0 σ H g) : Rel F K pa T H0 σ H1 g :=
  rl.ext (M.ext _) fun xs e => by
    obtain ⟨_, ws, h2, h3⟩ := rl.pn xs e
    exact ⟨ws, M.keep _ _ h2 fun _ => nofun, DRs.ext (m := fun _ => False) (M.ext _) (fun _ z => z.elim) h3⟩
theorem cvs_data {N : AS} {H : Hp} {Cr Cr' : Addr → V → Prop} : ∀ {cs : List Cv} {ws : List V}, (∀ c, c ∈ cs → ∃ d, c = .d d) → CvRs K N H Cr ws cs → CvRs K N H Cr' ws cs
  | [], _, _, .nil => .nil
  | _ :: _, _, h, .cons a b => by
    obtain ⟨d, rfl⟩ := h _ List.mem_cons_self
    cases a with
    | d q => exact .cons (.d q) (cvs_data (fun c hc => h c (List.mem_cons_of_mem _ hc)) b)
theorem ok_lam (O : XO P w K mg base p n F X c) {k : Nat} {params : Arguments} {body : Expr} {scope : Scope} {pos : Pos} {js : List Nat} (h : mkB p c k "<lambda>" params (.expr body) scope pos js = true) :
    OKe F X (.Lambda params body scope pos) (stE E (.lam k js)) := by
  intro g r g' q pa T H0 σ H Q rl kk pins s I
  obtain ⟨Pt, cc, M⟩ := mk_ok O h
  simp only [stE] at q
  unfold capsG at q
  by_cases hap : apartG 5 g js = true
  case neg => rw [if_neg hap] at q; cases q
  rw [if_pos hap] at q
  cases e1 : js.mapM (fun i => capG 5 g i) with
  | none => simp only [e1] at q; cases q
  | some cs =>
    simp only [e1, Option.map_some, Option.some.injEq, Prod.mk.injEq] at q
    obtain ⟨rfl, rfl⟩ := q
    obtain ⟨hf, inj, dom, caps⟩ := M.caps I.ok
    refine PySem.W.kla_eval (defs_none M.df M.kd) ?_
    have eq : X.env.qual ++ "<lambda>" = c.q ++ "<lambda>" := M.q
    rw [eq]
    refine fn_made (C := ⟨"<lambda>", c.q ++ "<lambda>", params, .expr body, scope, frOf c js⟩) I M.tb M.code (rl.tab _ M.mem) M.wk M.nm hf fun f c' H1 s' I1 Md => ?_
    refine ⟨.ref f, H1, I1, rfl, kk _ _ ?_⟩
    have r1 := Md.rel rl
    have tk : ∀ a, Nv pa T σ g a → ∃ o, H1 a = some o ∧ H a = some o ∧ TOk a o := fun a z => by
      obtain ⟨o, e, nt⟩ := rl.nv a z
      exact ⟨o, Md.keep _ _ e nt.1, e, nt⟩
    have nfN : ¬ Nv pa T σ g f := fun z => by
      obtain ⟨o, _, e, _⟩ := tk f z
      rw [Md.new] at e
      cases e
    have ncN : ¬ Nv pa T σ g c' := fun z => by
      obtain ⟨o, e, _, nt⟩ := tk c' z
      rw [Md.co] at e
      exact nt.2 _ (Option.some.inj e).symm
    obtain ⟨ws, h3, h4⟩ := mapM_cap (n := 5) (cap_ok r1 (O.fm I1) (.inl M.on) 5) e1
    have cr : ∀ (i : Nat) (y : Str), (frOf c js)[i]? = some y → ∃ (a : Addr) (w : V), (cloFrom X.env.cells scope.names []).lookup y = some a ∧ ws[i]? = some w ∧ crO F σ a w := fun i y e => by
      obtain ⟨j, a, q1, q2, q3, q4, q5⟩ := caps i y e
      obtain ⟨w, f1, f2⟩ := h4 i j q1
      exact ⟨a, w, q4, f1, M.on, y, j, q3, q2, f2, q5⟩
    refine ⟨Md.ext _, r1, ⟨.fn M.ck nfN Md.fn ncN Md.co inj dom (fun i y e => ?_) (CvRs.trans (fun _ _ z => z) (fun _ _ n z => ⟨n, z⟩) (fun a w z => ⟨crX.toV z, apart_ok (O.fm I1) M.on hap dom caps z⟩) h3), fun hd => .fn M.ck nfN Md.fn ncN Md.co inj dom cr (cvs_data hd h3)⟩, rfl, fun _ z => z⟩
    obtain ⟨a, w, q1, q2, q3⟩ := cr i y e
    exact ⟨a, w, q1, q2, .inr q3⟩
end
end DL
end
section
set_option Elab.async false
set_option linter.all false
set_option maxRecDepth 100000
set_option autoImplicit false
set_option maxHeartbeats 4000000
/-! DL, part o3: dicts whose keys are tuples. -/
namespace DL
open PySem PySem.Spec PyProof.Rows L2
variable [Tabs]
section
variable {P : Program} {w : World} {K : Fg} {mg : Str → Option Value} {base : Heap} {p : Pgm} {n m : Nat} {F : Fm} {X : Cx} {c : Ct} {E : Ev} {pa : Addr} {T : AS} {H0 H H1 : Hp} {σ : L2.St} {g g1 : G} {pins : List (Addr × Obj)} {s : Shared}
theorem noSl_of {e : Expr} (h : notSlice e = true) : NoSl e := by
  intro ov iv
  cases e <;> first | rfl | cases h
/-- a key that was read -/
theorem key_at {N : AS} {v : V} {u : Value} {x : D} {kk : NestedKey} (I : Inv X pins σ H s) (q : TR X.K N H v x) (r : RelV v u) (h : keyD true x = some kk) : ∃ b, v = .ref b ∧ u = .ref b ∧ DR X.K N H (.ref b) x ∧ (nkD x = some kk ∧ kk.depth ≤ 8) ∧ (nestedKind X.prog X.w).is s.heap kk b := by
  obtain ⟨h1, h2, h3⟩ := keyD_of h
  cases x with
  | tuple ds =>
    have d := q.tupD
    obtain ⟨b, vs, rfl, _, _⟩ := d.tuple_inv
    obtain rfl : u = Value.ref b := r
    exact ⟨b, rfl, rfl, d, ⟨h2, h3⟩, nk_is I d h2 (u := .ref b) rfl, h3⟩
  | _ => cases h1
theorem XO.hu9 (O : XO P w K mg base p n F X c) : X.A.units + 9 < cLine := by have := O.hu; omega
/-- d[k] -/
theorem ok_dget (O : XO P w K mg base p n F X c) {x : Str} {i : Nat} {px pos : Pos} {ke : Expr} {k : IE} (h1 : c.N[i]? = some x) (h2 : visB c.sc x = true) (h3 : okN x = true) (hs : notSlice ke = true) (hk : OKe F X ke (E.e k)) :
    OKe F X (.Subscript (.Name x px) ke pos) (stE E (.dget i k)) := by
  intro g r g' q pa T H0 σ H Q rl kk pins s I
  simp only [stE] at q
  split at q
  case h_2 => cases q
  rename_i t0 kvs0 e0
  cases e1 : rd1 E k g with
  | none => simp only [e1] at q; cases q
  | some xg =>
    obtain ⟨xd, g1⟩ := xg
    simp only [e1] at q
    split at q
    case h_2 => cases q
    rename_i t kvs e2
    cases e3 : keyD t xd with
    | none => simp only [e3] at q; cases q
    | some nk =>
      cases e4 : dfind kvs nk with
      | none => simp only [e3, e4] at q; cases q
      | some vd =>
        simp only [e3, e4, Option.map_some, Option.some.injEq, Prod.mk.injEq] at q
        obtain ⟨rfl, rfl⟩ := q
        obtain ⟨n1, n2, _⟩ := okN_of h3
        obtain ⟨a, es0, xs0, sa, _⟩ := dic_at O rl I e0
        refine subD_of PySem.F.slot_dict_getitem.lookup (noSl_of hs) (thn ((pe_var (pos := px) (by rw [← O.cN]; exact h1) (by rw [← O.cs]; exact vis_of h2) n1 n2).run pins s σ H (fun v H1 => v = .ref a ∧ H1 = H) I ⟨.ref a, sa, rfl, rfl⟩) fun u s1 ⟨v, H1, I1, r1, q1⟩ => ?_)
        obtain ⟨ev, eH⟩ := q1
        subst ev
        rw [eH] at I1
        obtain rfl : u = Value.ref a := r1
        refine thn (OKe.rd hk g xd g1 e1 pa T H0 σ H (fun v H' => PostR F X.K pa T H0 σ H g v H' xd g1) rl (fun _ _ z => z) pins s1 I1) fun iv s2 ⟨y, H2, I2, ry, p1⟩ => ?_
        obtain ⟨a', es, xs, sa', rfl, e5, er, pr, dd, hsm, hl⟩ := dic_at O p1.rel I2 e2
        rw [sa] at sa'
        cases sa'
        obtain ⟨b, rfl, rfl, db, hnk, his⟩ := key_at I2 p1.tr ry e3
        have ff := find_ok er pr nk
        rw [e4] at ff
        obtain ⟨pp, vv, f1, f2, f3⟩ := ff
        refine ⟨dd.typeIs, wpAny_getItem_heap (room_in1 O.hu9) his dd f1 ⟨vv, H2, I2.tok _, f2, kk _ _ ⟨p1.ext, p1.rel, f3, p1.pen, p1.sub⟩⟩⟩
/-- k in d, k not in d: the steps -/
theorem din_steps (O : XO P w K mg base p n F X c) {x : Str} {i : Nat} {px : Pos} {ke : Expr} {k : IE} {neg : Bool} (h1 : c.N[i]? = some x) (h2 : visB c.sc x = true) (h3 : okN x = true) (hk : OKe F X ke (E.e k)) {r : R} {g' : G} (q : stE E (.din neg i k) g = some (r, g')) (rl : Rel F X.K pa T H0 σ H g) {Q : Value → Shared → Prop} (I : Inv X pins σ H s)
    (kk : ∀ b H' s', r = .d (.bool b) → Inv X pins σ H' s' → PostN F X.K pa T H0 σ H g H' g' → Q (.bool b) s') :
    wpAny (model X.prog X.w) X.A (eval ke X.env) (fun v s1 => wpAny (model X.prog X.w) X.A (eval (.Name x px) X.env) (fun u s2 => wpAny (model X.prog X.w) X.A (compareOp (if neg = true then .NotIn else .In) v u) Q X.xe s2) X.xe s1) X.xe s := by
  simp only [stE] at q
  cases e1 : rd1 E k g with
  | none => simp only [e1] at q; cases q
  | some xg =>
    obtain ⟨xd, g1⟩ := xg
    simp only [e1] at q
    split at q
    case h_2 => cases q
    rename_i t kvs e2
    cases e3 : keyD t xd with
    | none => simp only [e3] at q; cases q
    | some nk =>
      simp only [e3, Option.map_some, Option.some.injEq, Prod.mk.injEq] at q
      obtain ⟨rfl, rfl⟩ := q
      obtain ⟨n1, n2, _⟩ := okN_of h3
      refine thn (OKe.rd hk g xd g1 e1 pa T H0 σ H (fun v H' => PostR F X.K pa T H0 σ H g v H' xd g1) rl (fun _ _ z => z) pins s I) fun iv s1 ⟨y, H1, I1, ry, p1⟩ => ?_
      obtain ⟨a, es, xs, sa, rfl, e5, er, pr, dd, hsm, hl⟩ := dic_at O p1.rel I1 e2
      refine thn ((pe_var (pos := px) (by rw [← O.cN]; exact h1) (by rw [← O.cs]; exact vis_of h2) n1 n2).run pins s1 σ H1 (fun v H2 => v = .ref a ∧ H2 = H1) I1 ⟨.ref a, sa, rfl, rfl⟩) fun u s2 ⟨v, H2, I2, r1, q1⟩ => ?_
      obtain ⟨ev, eH⟩ := q1
      subst ev
      rw [eH] at I2
      obtain rfl : u = Value.ref a := r1
      obtain ⟨a', es, xs, sa', _, e5, er, pr, dd, hsm, hl⟩ := dic_at O p1.rel I2 e2
      rw [sa] at sa'
      cases sa'
      obtain ⟨b, rfl, rfl, db, hnk, his⟩ := key_at I2 p1.tr ry e3
      have hf : (dfind kvs nk).isSome = (atKey xs nk).isSome := (any_find er nk).trans (any_at pr nk).symm
      cases neg with
      | false =>
        refine wpAny_in_heap (room_in1 O.hu9) his hsm dd ?_
        rw [← hf]
        exact kk _ H1 _ (by simp) (I2.tok _) p1.n
      | true =>
        refine wpAny_notIn_heap (room_in1 O.hu9) his hsm dd ?_
        rw [← hf]
        exact kk _ H1 _ (by simp) (I2.tok _) p1.n
theorem ok_din (O : XO P w K mg base p n F X c) {x : Str} {i : Nat} {px pos : Pos} {ke : Expr} {k : IE} {neg : Bool} (h1 : c.N[i]? = some x) (h2 : visB c.sc x = true) (h3 : okN x = true) (hk : OKe F X ke (E.e k)) :
    OKe F X (.Compare ke [if neg = true then .NotIn else .In] [.Name x px] pos) (stE E (.din neg i k)) := by
  intro g r g' q pa T H0 σ H Q rl kk pins s I
  refine wpAny_Compare1 (din_steps O h1 h2 h3 hk q rl I fun b H' s' e J pn => ?_) (by cases neg <;> rfl)
  subst e
  exact ⟨.bl b, H', J, rfl, kk _ _ ⟨pn.ext, pn.rel, .bl b, pn.pen, pn.sub⟩⟩
theorem okt_din (O : XO P w K mg base p n F X c) {x : Str} {i : Nat} {px pos : Pos} {ke : Expr} {k : IE} {neg : Bool} (h1 : c.N[i]? = some x) (h2 : visB c.sc x = true) (h3 : okN x = true) (hk : OKe F X ke (E.e k)) {b : Bool} {g' : G} (q : stE E (.din neg i k) g = some (.d (.bool b), g')) (rl : Rel F X.K pa T H0 σ H g) {Q : Bool → Hp → Prop}
    (kk : ∀ H', PostN F X.K pa T H0 σ H g H' g' → Q b H') : wT X (.Compare ke [if neg = true then .NotIn else .In] [.Name x px] pos) σ H Q := by
  intro pins s I
  refine wpAny_isTrue_Compare1 (din_steps O h1 h2 h3 hk q rl I fun b' H' s' e J pn => ?_) (by cases neg <;> rfl)
  cases e
  exact wpAny_truthy_bool ⟨H', J, kk _ pn⟩
end
end DL
end
section
set_option Elab.async false
set_option linter.all false
set_option maxRecDepth 100000
set_option autoImplicit false
set_option maxHeartbeats 4000000
/-! DL, part o4: new dicts whose keys are tuples. -/
namespace DL
open PySem PySem.Spec PyProof.Rows L2
variable [Tabs]
section
variable {F : Fm} {K : Fg} {pa : Addr} {T : AS} {H0 H H1 : Hp} {σ : L2.St} {g g1 : G}
/-- a watched object is written -/
theorem Rel.putX (r : Rel F K pa T H0 σ H g) {p : Addr} {o u : HO} (hT : T p) (hp : H p = some u) (tk : TOk p u) (nf : ∀ ob z, u ≠ .frz ob z) (h0 : H0 p = none) (ho : TOk p o) : Rel F K pa T H0 σ (upd H p o) g := by
  have nNv : ∀ a, ¬ Nv pa T σ g a → a ≠ p := fun a h z => h (.inl (z ▸ hT))
  have e : Ext (fun a => a = p) H (upd H p o) := .putX rfl hp tk
  have hm : ∀ a, a = p → Nv pa T σ g a := fun a z => .inl (z ▸ hT)
  refine ⟨r.len, fun i sv q => ?_, r.ap, fun xs q => ?_, fun a q => ?_, r.x0.skipX h0 hp tk, r.tb, r.fo⟩
  · obtain ⟨v, e1, z⟩ := r.sl i sv q
    refine ⟨v, e1, ?_⟩
    have hx : ∀ a φ, ¬ Nv pa T σ g a → H a = some (.ext φ) → ¬ Nv pa T σ g a ∧ upd H p o a = some (.ext φ) := fun a φ n z => ⟨n, (upd_ne (nNv a n)).trans z⟩
    cases sv with
    | d x => exact DR.ext e hm z
    | own xs => obtain ⟨a, ws, e2, e3, e4, e5, e6, e7⟩ := z; exact ⟨a, ws, e2, e.k _ _ e3 (fun z => e6 (z ▸ hT)) (fun _ => nofun), e4.ext e hm, e5, e6, e7⟩
    | scr ns =>
      obtain ⟨a, h1, h2⟩ := z
      refine ⟨a, h1, h2.imp (fun ⟨f1, ob, f2⟩ => ⟨f1, ob, e.k _ _ f2 (fun z => ?_) fun _ => nofun⟩) id⟩
      rw [z, hp] at f2
      exact nf _ _ (Option.some.inj f2)
    | pen => exact z
    | fn k cs => exact CvR.trans (fun _ _ z => DR.ext e hm z) hx (crH.mv hx) z
    | ofn k js => exact OFn.trans hx z
    | dic t kvs => obtain ⟨a, ws, e2, e3, e4, e5, e6, e7⟩ := z; exact ⟨a, ws, e2, e.k _ _ e3 (fun z => e6 (z ▸ hT)) (fun _ => nofun), e4.ext e hm, e5, e6, e7⟩
  · obtain ⟨q1, ws, q2, q3⟩ := r.pn xs q
    exact ⟨q1, ws, e.k _ _ q2 (fun z => q1 (z ▸ hT)) (fun _ => nofun), q3.ext e hm⟩
  · by_cases hap : a = p
    · subst hap
      exact ⟨o, upd_same, ho⟩
    · obtain ⟨u, z, nt⟩ := r.td a q
      exact ⟨u, (upd_ne hap).trans z, nt⟩
end
section
variable {P : Program} {w : World} {K : Fg} {mg : Str → Option Value} {base : Heap} {p : Pgm} {n m : Nat} {F : Fm} {X : Cx} {c : Ct} {E : Ev} {pins : List (Addr × Obj)} {s : Shared} {H : Hp} {σ : L2.St}
/-- an empty dict is laid -/
theorem dic_laid (I : Inv X pins σ H s) : ∃ q : DE, q.es = [] ∧ Inv X pins σ (upd H s.heap.objs.size (DicO X.prog X.w true s.heap.objs.size q)) { s with heap := s.heap.push { cls := .type "dict", data := .dict #[] } } := by
  obtain ⟨o, eo, ok⟩ := dicO_ok (P := X.prog) (w := X.w) (H' := upd H s.heap.objs.size (DicO X.prog X.w true s.heap.objs.size ⟨{ cls := .type "dict", data := .dict #[] }, []⟩)) (es := []) (xs := []) (a := s.heap.objs.size) (h' := s.heap.push { cls := .type "dict", data := .dict #[] }) (beq_eq_false_iff_ne.mpr (Ne.symm (Nat.ne_of_lt I.big))) (Nat.zero_le _) .nil (Heap.DictOfH.new s.heap)
  have : o = { cls := .type "dict", data := .dict #[] } := by
    have e := Heap.get?_push_size (h := s.heap) (o := { cls := .type "dict", data := .dict #[] }) rfl
    rw [eo] at e
    exact Option.some.inj e
  subst this
  exact ⟨⟨_, []⟩, rfl, I.laid (t' := s.toks) (fun b o e => Heap.get?_push_of_some _ e) (Nat.le_refl _) ok⟩
/-- {k: v} -/
theorem ok_dnew1 (O : XO P w K mg base p n F X c) {ke ve : Expr} {pos : Pos} {a b : IE} (hs1 : notStar ve = true) (hk : OKe F X ke (E.e a)) (hv : OKe F X ve (E.e b)) : OKe F X (.Dict [some ke] [ve] pos) (stE E (.dnew true (some (a, b)))) := by
  intro g r g' q pa T H0 σ H Q rl kk pins s I
  simp only [stE] at q
  cases e1 : evDs E [a, b] g with
  | none => simp only [e1] at q; cases q
  | some dg =>
    obtain ⟨ds, g2⟩ := dg
    simp only [e1] at q
    split at q
    case h_2 => cases q
    rename_i x y g3 e2
    simp only [Option.some.injEq, Prod.mk.injEq] at e2
    obtain ⟨rfl, rfl⟩ := e2
    cases e3 : keyD true x with
    | none => simp only [e3] at q; cases q
    | some nk =>
      simp only [e3, Option.map_some, Option.some.injEq, Prod.mk.injEq] at q
      obtain ⟨rfl, rfl⟩ := q
      obtain ⟨g1, f1, f2⟩ := evDs_cons e1
      have f2 := evDs_one f2
      obtain ⟨q0, hq0, I1⟩ := dic_laid I
      generalize hD : s.heap.objs.size = D at I1
      have nD : H D = none := by rw [← hD]; exact I.hok.fresh (Nat.le_refl _)
      have hD0 : H0 D = none := rl.x0.d _ nD
      have nTD : ¬ T D := fun z => rl.fresh nD (.inl z)
      have r1 : Rel F X.K pa (fun a => T a ∨ a = D) H0 σ (upd H D (DicO X.prog X.w true D q0)) g := rl.watch nD (tok_dic _ _ _ _ _)
      rw [arm_eval_Dict]
      have hshape : (evalEachOpt [some ke] X.env).zip ((evalEach [ve] X.env).map fun v => do let x ← v; standAt pos; pure x) = [(eval ke X.env, do let x ← eval ve X.env; standAt pos; pure x)].map fun p => (some p.1, p.2) := by
        cases ve <;> first | rfl | cases hs1
      rw [hshape, dictDisplay_pairs _ (by simp) (by simp)]
      refine wpAny_bind (wpAny_standAt (wpAny_bind (wpAny_subDictH (knd := nestedKind X.prog X.w) (Q := fun d s' => wpAny (model X.prog X.w) X.A (pure (Value.ref d)) (EP X pins σ Q) X.xe s') (show X.A.units + 8 < cLine from by have := O.hu9; omega) (by simp) ?_)))
      refine evalPairs_cons (thn (OKe.kp hk g x g1 f1 pa _ H0 σ _ (fun v H' => PostK F X.K pa (fun a => T a ∨ a = D) H0 σ (upd H D (DicO X.prog X.w true D q0)) g v H' x g1) r1 (fun _ _ z => z) pins _ I1) fun u1 s1 ⟨v1, H1, J1, rv1, p1⟩ => ?_)
      refine wpAny_bind (thn (OKe.kp hv g1 y g2 f2 pa _ H0 σ H1 (fun v H' => PostK F X.K pa (fun a => T a ∨ a = D) H0 σ H1 g1 v H' y g2) p1.rel (fun _ _ z => z) pins s1 J1) fun u2 s2 ⟨v2, H2, J2, rv2, p2⟩ => wpAny_bind (wpAny_standAt (wpAny_pure ?_)))
      refine evalPairs_nil ?_
      rw [hD]
      have ep : pm pa g1.pen = pm pa g.pen := pm_eq p1.pen
      have x12 : Ext (pm pa g.pen) (upd H D (DicO X.prog X.w true D q0)) H2 := p1.ext.trans (p2.ext.mono fun a z => by rw [← ep]; exact z)
      have npD : ¬ pm pa g.pen D := fun z => by
        obtain ⟨xs, e⟩ := Option.isSome_iff_exists.mp z.1
        exact (r1.pn xs e).1 (.inr z.2.symm)
      have hD2 : H2 D = some (DicO X.prog X.w true D q0) := x12.k _ _ upd_same npD fun _ => nofun
      have d1 : DR X.K (Nv pa (fun a => T a ∨ a = D) σ g2) H2 v1 x := (DR.ext p2.ext (fun a z => .inr (.inl z)) p1.dr).mono p2.sub
      obtain ⟨bb, rfl, rfl, db, hnk, his⟩ := key_at J2 (.d d1) rv1 e3
      obtain ⟨xs0, pr0, dd0, hsm, _⟩ := dic_of (N := fun _ => False) J2 hD2 (kvs := []) (by show Ents _ _ _ q0.es []; rw [hq0]; exact .nil)
      have hx0 : xs0 = [] := by rw [hq0] at pr0; cases pr0; rfl
      subst hx0
      refine ⟨[(nk, bb, u2)], ⟨rfl, rfl, his, trivial⟩, dd0, fun h' tk hm' hs' => wpAny_pure ?_⟩
      have hst : storedAllH [] [(nk, bb, u2)] = [(nk, bb, u2)] := rfl
      rw [hst] at hm'
      obtain ⟨o, eo, ok⟩ := dicO_ok (H' := upd H2 D (DicO X.prog X.w true D ⟨(h'.get? D).getD q0.o, [⟨nk, .ref bb, v2⟩]⟩)) (es := [⟨nk, .ref bb, v2⟩]) hsm (by show 1 ≤ sizeLine; decide) (.cons ⟨rfl, rfl, rv2⟩ .nil) hm'
      rw [eo] at ok
      have J3 := d_write (t' := tk) J2 (by rw [hD2]; exact True.intro) hs' ⟨o, eo⟩ ok
      refine ⟨.ref D, _, J3, rfl, kk _ _ ⟨?_, ?_, ⟨D, _, rfl, nD, by rw [O.fP, O.fw, ← O.eP, ← O.ew]; exact upd_same, ?_, nTD⟩, p2.pen.trans p1.pen, fun a z => ?_⟩⟩
      · exact (Ext.trans (.new nD) x12).skipX nD hD2 (tok_dic _ _ _ _ _)
      · exact (p2.rel.putX (.inr rfl) hD2 (tok_dic _ _ _ _ _) (fun _ _ => nofun) hD0 (tok_dic _ _ _ _ _)).mono fun a z => z.imp id fun z => (V.ref.inj z).symm
      · have x3 : Ext (fun a => a = D) H2 (upd H2 D (DicO X.prog X.w true D ⟨(some o).getD q0.o, [⟨nk, .ref bb, v2⟩]⟩)) := .putX rfl hD2 (tok_dic _ _ _ _ _)
        have hsub : ∀ a, (Nv pa T σ g2 a ∨ a = D) → Nv pa (fun a => T a ∨ a = D) σ g2 a := fun a z => by
          rcases z with (z | z) | z
          · exact .inl (.inl z)
          · exact .inr z
          · exact .inl (.inr z)
        exact Ents.cons hnk ((DR.ext x3 (fun a z => .inl (.inr z)) db).mono fun a z => by
          rcases z with z | z
          · exact hsub a (.inl z)
          · exact hsub a (.inr z)) ((DR.ext x3 (fun a z => .inl (.inr z)) p2.dr).mono hsub) .nil
      · have z1 : Nv pa (fun a => T a ∨ a = D) σ g2 a := z.imp .inl id
        have z2 := p1.sub a (p2.sub a z1)
        rcases z2 with (z2 | z2) | z2
        · exact .inl z2
        · rcases z with z | z | ⟨i, z⟩
          · exact .inl z
          · rw [z2] at z
            exact absurd ⟨by rw [← p1.pen, ← p2.pen]; exact z.1, z.2⟩ npD
          · exact absurd (.inr z2) (p2.rel.ownA z).2.2.1
        · exact .inr z2
/-- {k: v for name in ..}: what is asked -/
def tDcX (P : Program) (w : World) (K : Fg) (wi : TI) (gt : TG) (tk tv : TE) (vs : List Nat) : TE := fun σ H Q => wi σ H fun J H1 => ∀ Da q0, H1 Da = none → q0.es = [] → ∃ W : Nat → Nat → Hp → Prop, (∃ m, W 0 m (upd H1 Da (DicO P w true Da q0))) ∧ ∀ i m H, W i m H →
  (J.stop i H ∧ Q (.ref Da) H) ∨ (J.go i H ∧ ∃ Nx : Hp → Prop, (∀ H', Nx H' → ∃ m', m' < m ∧ W (i + 1) m' H') ∧ ∀ x H', J.yld i H x H' → gt x (L2.wipe σ vs) H' fun σ2 H2 => L2.wipe σ2 vs = L2.wipe σ vs ∧ tk σ2 H2 fun y H3 => tv σ2 H3 fun z H4 =>
    ∃ (q : DE) (kvs : List (D × D)) (kd vd : D) (nk : NestedKey) (N : AS), H4 Da = some (DicO P w true Da q) ∧ EntR K N H4 q kvs ∧ DR K N H4 y kd ∧ DR K N H4 z vd ∧ keyD true kd = some nk ∧ q.es.length < szL ∧ ∀ q', EntR K N H4 q' (dstore kvs kd nk vd) → Nx (upd H4 Da (DicO P w true Da q')))
theorem dcX_core {X : Cx} {pins : List (Addr × Obj)} {s : Shared} {σ : L2.St} {H : Hp} {Q : VK} {use : Option (Value → Sem Unit)} {Qf : Value → Shared → Prop} (I : Inv X pins σ H s) (hu : X.A.units + 9 < cLine) {kx vx tg iter : Expr} {scope : Scope} {own : List (Str × Nat)} {pos pos' : Pos} {wi : TI} {gt : TG} {tk tv : TE} (hc : X.calm = true) (hN : X.N.Nodup) (hi : PI X tg iter wi) (bk : BlkOk X.N X.env.scope scope own)
    (hg : ∀ (s : Shared) (H : Hp) (C : Addr) (cl : List (Str × Addr)) (fp : List Addr), PG (X.blk s H scope (compEnvC scope cl C X.env) fp) tg gt)
    (hk : ∀ (s : Shared) (H : Hp) (C : Addr) (cl : List (Str × Addr)) (fp : List Addr), PE (X.blk s H scope (compEnvC scope cl C X.env) fp) kx tk)
    (hv : ∀ (s : Shared) (H : Hp) (C : Addr) (cl : List (Str × Addr)) (fp : List Addr), PE (X.blk s H scope (compEnvC scope cl C X.env) fp) vx tv) (hs : ∀ x, foldedSetIterable iter X.env x = pure x)
    (h : tDcX X.prog X.w X.K wi gt tk tv (own.map (·.2)) σ H Q)
    (hRR : ∀ Da C s' mm H', Inv X pins σ H' s' → Q (.ref Da) H' → s'.heap.Ns C mm → FpOk X pins H' C → compPost (model X.prog X.w) X.A X.xe use Qf (.ref Da) C (.ok .next) s') :
    wpAny (model X.prog X.w) X.A (comprehension (.DictComp kx vx [⟨tg, iter, [], 0⟩] scope pos) scope X.env pos' newDict false (eval iter X.env) use) Qf X.xe s := by
  have hfree : ∀ y ∈ scope.names, y.2 = .free → ∃ c, X.env.cells.lookup y.1 = some c := fun y hy e => (bk.free y hy e).elim (fun k => I.ok.has _ (.inl k)) fun k => I.ok.has _ (.inr k)
  refine wpAny_comprehension_free (use := use) rfl hs (closure_ok hfree) bk.kind (fun y hy e => by rw [bk.uniq y hy, e]) (thn (hi.run pins s σ H _ I h) fun xv s1 hx => thn hx fun itv s2 h2 => ?_)
  obtain ⟨it, fp, tn, J, H2, rfl, I2, T, st2, f2, q⟩ := h2
  refine wpAny_newObj_type (newEnv_comp ?_)
  -- the new dict
  obtain ⟨q0, hq0, I3⟩ := dic_laid I2
  have hDn : H2 s2.heap.objs.size = none := I2.hok.fresh (Nat.le_refl _)
  obtain ⟨W, ⟨m0, w0⟩, turn⟩ := q _ q0 hDn hq0
  have sz : ∀ b ∈ fp, b < s2.heap.objs.size := fun b hb => let ⟨o, e, _⟩ := T.obj _ _ st2 b hb; Heap.lt_size e
  have kp3 : ∀ b o, s2.heap.get? b = some o → (s2.heap.push { cls := .type "dict", data := .dict #[] }).get? b = some o := fun b o e => Heap.get?_push_of_some _ e
  generalize hDa : s2.heap.objs.size = Da at I3 w0 turn sz hDn ⊢
  generalize hs3 : ({ s2 with heap := s2.heap.push { cls := .type "dict", data := .dict #[] } } : Shared) = s3 at I3
  have h3 : s3.heap = s2.heap.push { cls := .type "dict", data := .dict #[] } := by rw [← hs3]
  generalize hH3 : upd H2 Da (DicO X.prog X.w true Da q0) = H3 at I3 w0
  have f3 : ∀ b ∈ fp, FpOk X pins H3 b ∧ b < s3.heap.objs.size := fun b hb => by
    refine ⟨⟨?_, (f2 b hb).2⟩, by rw [h3, Heap.size_push, hDa]; exact Nat.lt_succ_of_lt (sz b hb)⟩
    rw [← hH3, upd_ne (Nat.ne_of_lt (sz b hb))]
    exact (f2 b hb).1
  have st3 : tn 0 s3.heap := T.keep _ _ _ st2 fun b _ o e => by rw [h3]; exact kp3 b o e
  have I4 := block_start I3 bk hN f3
  show codeAny _ _ (.compStart (.DictComp kx vx [⟨tg, iter, [], 0⟩] scope pos) 0 (.ref it) (.ref Da) (compEnvC scope (cellsFrom (s3.heap.objs.size + 1) scope.names (cloFrom X.env.cells scope.names [])) s3.heap.objs.size X.env)) (compPost (model X.prog X.w) X.A X.xe use Qf (.ref Da) s3.heap.objs.size) { s3 with heap := pushCells (s3.heap.push { cls := .type "dict", data := .dict #[] }) scope.names }
  have pg := hg s3 H3 s3.heap.objs.size (cellsFrom (s3.heap.objs.size + 1) scope.names (cloFrom X.env.cells scope.names [])) fp
  have pk := hk s3 H3 s3.heap.objs.size (cellsFrom (s3.heap.objs.size + 1) scope.names (cloFrom X.env.cells scope.names [])) fp
  have pv := hv s3 H3 s3.heap.objs.size (cellsFrom (s3.heap.objs.size + 1) scope.names (cloFrom X.env.cells scope.names [])) fp
  generalize hce : compEnvC scope (cellsFrom (s3.heap.objs.size + 1) scope.names (cloFrom X.env.cells scope.names [])) s3.heap.objs.size X.env = ce at I4 pg pk pv ⊢
  have cL : ce.locals = s3.heap.objs.size := by rw [← hce]; rfl
  generalize hs4 : ({ s3 with heap := pushCells (s3.heap.push { cls := .type "dict", data := .dict #[] }) scope.names } : Shared) = s4 at I4 ⊢
  have st4 : tn 0 s4.heap := T.keep _ _ _ st3 fun b _ o e => by rw [← hs4]; exact pushCells_keeps _ _ _ _ (Heap.get?_push_of_some _ e)
  let XB : Cx := X.blk s3 H3 scope ce fp
  have fpB : ∀ {σ' : L2.St} {H' : Hp} {s' : Shared}, Inv XB [] σ' H' s' → (∀ b ∈ fp, H' b = none) → ∀ b ∈ fp, FpOk XB [] H' b := fun {σ' H' s'} J' hn b hb =>
    ⟨hn b hb, (J'.ok.exf b hb).1, J'.ok.exfs b hb, .inl hb, fun x c e => (J'.ok.exf b hb).2 x c e, fun p hp => absurd (show p ∈ ([] : List (Addr × Obj)) ++ [] from hp) (by simp)⟩
  let INV : Nat → Shared → Prop := fun n s' => ∃ i H', Inv XB [] (L2.wipe σ (own.map (·.2))) H' s' ∧ tn i s'.heap ∧ (∀ b ∈ fp, H' b = none) ∧ W i n H'
  have loop : codeAny (model X.prog X.w) X.A (.compLoop (.DictComp kx vx [⟨tg, iter, [], 0⟩] scope pos) 0 (.ref it) (.ref Da) ce) (compPost (model X.prog X.w) X.A X.xe use Qf (.ref Da) s3.heap.objs.size) s4 := by
    refine compLoop_anyD INV ?_ m0 ⟨0, H3, I4, st4, fun b hb => (f3 b hb).1.1, w0⟩
    rintro n s5 ⟨i, H5, I5, st5, n5, w5⟩
    rcases turn i n H5 w5 with ⟨stop, qq⟩ | ⟨go, Nx, hNx, step⟩
    · refine thnF (T.done XB rfl rfl rfl hc i [] s5 _ H5 (fun _ _ => False) I5 (fpB I5 n5) st5 stop) fun r s6 ⟨hr, I6⟩ => ?_
      subst hr
      have I7 : Inv X pins σ H5 s6 := I3.call' (ch := fp) I6.os I6.base I6.hok I6.bare fun b hb => let z := (f3 b hb).1; ⟨z.2.2.2.1, z.2.1, z.2.2.2.2.1, z.2.2.2.2.2⟩
      have nC : H5 s3.heap.objs.size = none := by rw [← cL]; exact I6.free
      obtain ⟨mm, hn, _⟩ := I6.loc
      have hn : s6.heap.Ns ce.locals mm := hn
      rw [cL] at hn
      exact hRR Da s3.heap.objs.size s6 mm H5 I7 qq hn (I3.fpOk (Nat.le_refl _) nC)
    · refine thnF (T.item XB rfl rfl rfl hc i [] s5 _ H5 (fun _ _ => False) I5 (fpB I5 n5) st5 go) fun r s6 ⟨u, hr, h6⟩ => ?_
      subst hr
      refine thnF h6 fun _ s7 ⟨x, H7, I7, r7, y7, st7, n7⟩ => ?_
      refine thnF (pg.run _ s7 _ H7 x u _ (I7.pinned (fpB I7 n7) (T.obj _ _ st7)) r7 (step x H7 y7)) fun _ s8 ⟨σ8, H8, I8, hw8, q8⟩ => ?_
      refine wpAny_pure ?_
      show wpAny _ _ _ _ _ _
      refine thnF (pk.run _ s8 σ8 H8 _ I8 q8) fun uk s9 ⟨yk, H9, I9, r9, q9⟩ => ?_
      refine thnF (pv.run _ s9 σ8 H9 _ I9 q9) fun uv s10 ⟨yv, H10, I10, r10, qd, kvs, kd, vd, nk, N, hD10, er10, dk, dv, hkey, hz, nx⟩ => ?_
      obtain ⟨bb, rfl, rfl, db, hnk, _⟩ := key_at (X := XB) I10 (.d dk) r9 hkey
      refine dic_set (X := XB) hu I10 hD10 er10 hnk db dv r10 hz fun s11 q' I11 er11 => ?_
      obtain ⟨m', hm, w'⟩ := hNx _ (nx q' er11)
      have pin' : ∀ b ∈ fp, ∀ o, s7.heap.get? b = some o → s11.heap.get? b = some o ∧ (upd H10 Da (DicO X.prog X.w true Da q')) b = none := fun b hb o e =>
        let z := I11.pin (b, o) (List.mem_append_right _ (List.mem_append_right _ (mem_pinsAt hb e)))
        ⟨z.1, z.2.1⟩
      have hl : (L2.wipe σ (own.map (·.2))).length = σ8.length := by rw [← hw8, L2.wipe_length]
      refine ⟨m', hm, i + 1, _, (I11.unpinned (pins := [])).weak hl (fun j v e => ?_), T.keep _ _ _ st7 fun b hb o e => (pin' b hb o e).1, fun b hb => ?_, w'⟩
      · rw [← hw8] at e
        exact (wipe_some e).1
      · obtain ⟨o, e, _⟩ := T.obj _ _ st7 b hb
        exact (pin' b hb o e).2
  exact codeAny_compStart_dict loop (T.self X.A 0 _ _ _ st4 loop)
section
variable {X : Cx} {kx vx tg iter : Expr} {scope : Scope} {own : List (Str × Nat)} {pos spos py : Pos} {wi : TI} {gt : TG} {tk tv : TE} {y : Str} {i : Nat}
theorem pe_dcX (hu : X.A.units + 9 < cLine) (hc : X.calm = true) (hN : X.N.Nodup) (hi : PI X tg iter wi) (bk : BlkOk X.N X.env.scope scope own)
    (hg : ∀ (s : Shared) (H : Hp) (C : Addr) (cl : List (Str × Addr)) (fp : List Addr), PG (X.blk s H scope (compEnvC scope cl C X.env) fp) tg gt)
    (hk : ∀ (s : Shared) (H : Hp) (C : Addr) (cl : List (Str × Addr)) (fp : List Addr), PE (X.blk s H scope (compEnvC scope cl C X.env) fp) kx tk)
    (hv : ∀ (s : Shared) (H : Hp) (C : Addr) (cl : List (Str × Addr)) (fp : List Addr), PE (X.blk s H scope (compEnvC scope cl C X.env) fp) vx tv) (hs : ∀ x, foldedSetIterable iter X.env x = pure x) :
    PE X (.DictComp kx vx [⟨tg, iter, [], 0⟩] scope pos) (tDcX X.prog X.w X.K wi gt tk tv (own.map (·.2))) := by
  refine ⟨fun pins s σ H Q I h => ?_⟩
  rw [arm_eval_DictComp]
  refine dcX_core I hu hc hN hi bk hg hk hv hs h fun Da C s' mm H' J q hn f => ⟨mm, hn, fun h'' sb => ?_⟩
  obtain ⟨f0, f1, f2, f3, f4, f5⟩ := f
  exact ⟨.ref Da, H', J.turned (t' := s'.toks) (fun b o hb e => (sb.2 b hb).trans e) f0 f1 f3 f4 f5, rfl, q⟩
/-- stored straight into a name -/
theorem ps_setDcX (hu : X.A.units + 9 < cLine) (hc : X.calm = true) (hN : X.N.Nodup) (hy : X.N[i]? = some y) (hyl : X.env.scope.names.lookup y = some .local)
    (hsw : swapsWith (.DictComp kx vx [⟨tg, iter, [], 0⟩] scope pos) (some (.Name y py)) spos.line X.env = pure true) (hi : PI X tg iter wi) (bk : BlkOk X.N X.env.scope scope own)
    (hg : ∀ (s : Shared) (H : Hp) (C : Addr) (cl : List (Str × Addr)) (fp : List Addr), PG (X.blk s H scope (compEnvC scope cl C X.env) fp) tg gt)
    (hk : ∀ (s : Shared) (H : Hp) (C : Addr) (cl : List (Str × Addr)) (fp : List Addr), PE (X.blk s H scope (compEnvC scope cl C X.env) fp) kx tk)
    (hv : ∀ (s : Shared) (H : Hp) (C : Addr) (cl : List (Str × Addr)) (fp : List Addr), PE (X.blk s H scope (compEnvC scope cl C X.env) fp) vx tv) (hs : ∀ x, foldedSetIterable iter X.env x = pure x) :
    PS X (.Assign [.Name y py] (.DictComp kx vx [⟨tg, iter, [], 0⟩] scope pos) spos) (tAsg (tDcX X.prog X.w X.K wi gt tk tv (own.map (·.2))) (gName i)) := by
  refine ⟨fun pins s σ H D I h => ?_⟩
  rw [exec_Assign_Name_used _ _ _ _ hsw]
  refine wpAny_bind (wpAny_standAt (wpAny_bind ?_))
  show wpAny _ X.A (do let _ ← comprehension (.DictComp kx vx [⟨tg, iter, [], 0⟩] scope pos) scope X.env (firstIterPos [⟨tg, iter, [], 0⟩] pos) newDict false (eval iter X.env) (some (assign (.Name y py) X.env))) _ _ s
  have h : tDcX X.prog X.w X.K wi gt tk tv (own.map (·.2)) σ H (fun x H1 => gName i x σ H1 D.nx) := h
  refine wpAny_bind (thn (dcX_core (Qf := fun _ s' => SP X pins D .next s') I hu hc hN hi bk hg hk hv hs h fun Da C s' mm H' J q hn f => ?_) fun _ s' hq => wpAny_pure (wpAny_pure hq))
  show wpAny _ _ (assign (.Name y py) X.env (.ref Da)) _ _ _
  refine wpAny_assign_Name (store_ok2 (v := V.ref Da) J hN hy (.inl hyl) rfl (fun s2 I2 ⟨a, sb, ha⟩ => ?_) (.inr hyl))
  obtain ⟨f0, f1, f2, f3, f4, f5⟩ := f
  have haC : C ≠ a := ha.elim (fun z => z ▸ f1) fun z => fun e => f4 y a z e.symm
  exact ⟨mm, hn.sameBut sb haC, fun h3 sb3 => ⟨_, H', I2.turned (t' := s2.toks) (fun b o hb e => (sb3.2 b hb).trans e) f0 f1 f3 f4 f5, q⟩⟩
end
/-- {k: v for name in it} -/
theorem dc_read (O : XO P w K mg base p n F X c) (h : ∀ e i, chkE p m c e i = true → OKe F X e (E.e i)) {scope : Scope} {kx vx it tg : Expr} {ik iv ii : IE} {i : Nat}
    (htg : chkTg (c.inn scope) tg (.one i) = true) (hit : chkIt (chkE p m c) c tg .seq [ii] it = true)
    (hk : ∀ s H1 C cl fp, OKe F.inn (X.blk s H1 scope (compEnvC scope cl C X.env) fp) kx (E.e ik)) (hv : ∀ s H1 C cl fp, OKe F.inn (X.blk s H1 scope (compEnvC scope cl C X.env) fp) vx (E.e iv))
    {g g' : G} {r : R} (q : stE E (.dcomp true ik iv i ii) g = some (r, g')) {pa : Addr} {T : AS} {H0 H : Hp} {σ : L2.St} {Q : VK} (hlen : σ.length = X.N.length) (rl : Rel F X.K pa T H0 σ H g) (kk : ∀ v H', PostE F X.K pa T H0 σ H g v H' r g' → Q v H') :
    tDcX X.prog X.w X.K (wI X tg it) (tgG X.K (.one i)) (wEb X scope kx) (wEb X scope vx) [i] σ H Q := by
  simp only [stE] at q
  cases e0 : kp1 E ii g with
  | none => simp only [e0] at q; cases q
  | some xg =>
    obtain ⟨xd, g1⟩ := xg
    simp only [e0] at q
    cases e1' : seqD xd with
    | none => simp only [e1'] at q; cases q
    | some ds =>
      simp only [e1'] at q
      have e1 : itsD E .seq [ii] g = some (ds, g1) := by simp only [itsD, e0, e1', Option.map_some]
      cases e2 : evDc E true ik iv i ds [] g1 with
      | none => simp only [e2] at q; cases q
      | some ag =>
        obtain ⟨accF, g2⟩ := ag
        simp only [e2, Option.map_some, Option.some.injEq, Prod.mk.injEq] at q
        obtain ⟨rfl, rfl⟩ := q
        refine walk_ok O h hit e1 pa T H0 σ H _ rl fun J H1 L Z pn S hL hZ _ Da q0 hDa hq0 => ?_
        have rl1 := pn.rel
        have nTD : ¬ T Da := fun z => rl1.fresh hDa (.inl z)
        have hD0 : H0 Da = none := rl1.x0.d _ hDa
        have hDH : H Da = none := pn.ext.d _ hDa
        let dO : DE → HO := fun q => DicO X.prog X.w true Da q
        let T1 : AS := fun a => T a ∨ a = Da
        let gw : G → G := fun gi => { gi with env := wipeE gi.env [i] }
        have tok : ∀ q, TOk Da (dO q) := fun q => tok_dic _ _ _ _ _
        have rlw : Rel F X.K pa T1 H0 (L2.wipe σ [i]) (upd H1 Da (dO q0)) (gw g1) := ((rl1.watch (o := dO q0) hDa (tok q0)).wipe [i]).1
        have subw : ∀ a, Nv pa T1 (L2.wipe σ [i]) (gw g1) a → Nv pa T σ g1 a ∨ a = Da := fun a z => by
          rcases ((rl1.watch (o := dO q0) hDa (tok q0)).wipe [i]).2 a z with (z | z) | z
          · exact .inl (.inl z)
          · exact .inr z
          · exact .inl (.inr z)
        let Inv1 : Nat → Hp → Prop := fun j Hi => ∃ gi acc qi, evDc E true ik iv i (ds.drop j) acc gi = some (accF, g2) ∧ Ext (pm pa g1.pen) H1 Hi ∧ Rel F X.K pa T1 H0 (L2.wipe σ [i]) Hi (gw gi) ∧ gi.pen.isSome = g1.pen.isSome ∧
          (∀ a, Nv pa T1 (L2.wipe σ [i]) (gw gi) a → Nv pa T1 (L2.wipe σ [i]) (gw g1) a) ∧ Hi Da = some (dO qi) ∧ EntR X.K (Nv pa T1 (L2.wipe σ [i]) (gw gi)) Hi qi acc ∧ ∀ q ∈ L, DR X.K (Nv pa T1 (L2.wipe σ [i]) (gw gi)) Hi q.1 q.2
        have hZ' : ∀ {Hi : Hp}, Ext (pm pa g1.pen) H1 Hi → ∀ z ∈ Z, Hi z.1 = some z.2 := fun {Hi} x z hz => x.k _ _ (hZ z hz).1 (hZ z hz).2.1 (hZ z hz).2.2
        have start : Inv1 0 (upd H1 Da (dO q0)) := by
          refine ⟨g1, [], q0, by rw [List.drop_zero]; exact e2, .new hDa, rlw, rfl, fun _ z => z, upd_same, by show Ents _ _ _ q0.es []; rw [hq0]; exact .nil, fun q hq => ?_⟩
          have d0 := (hL q hq).grow hDa
          have d1 : DR X.K (fun a => Nv pa T σ g1 a ∨ a = Da) (upd H1 Da (dO q0)) q.1 q.2 := DR.ext (m := fun _ => False) (.new hDa) (fun _ z => z.elim) d0
          exact d1.mono subw
        refine ⟨fun j k Hi => k = ds.length - j ∧ j ≤ ds.length ∧ Inv1 j Hi, ⟨ds.length, by simp, Nat.zero_le _, start⟩, ?_⟩
        rintro j k Hi ⟨rfl, hi, gi, acc, qi, ev1, x1, rli, peni, subi, hDi, hacc, hLi⟩
        by_cases hlt : j < ds.length
        · refine .inr ⟨S.go _ Hi j hlt hLi (hZ' x1), Inv1 (j + 1), fun H' p' => ⟨ds.length - (j + 1), by omega, rfl, hlt, p'⟩, fun x H' y => ?_⟩
          have hd : ds[j]? = some ds[j] := List.getElem?_eq_getElem hlt
          obtain ⟨hH', hxd⟩ := S.yld _ Hi j ds[j] x H' hd hLi (hZ' x1) y
          have hx := hxd fun a z => let ⟨o, h1, _⟩ := rli.nv a z; ⟨o, h1⟩
          have epm : pm pa gi.pen = pm pa g1.pen := pm_eq peni
          have rl' : Rel F X.K pa T1 H0 (L2.wipe σ [i]) H' (gw gi) := by
            rcases hH' with rfl | ⟨q, ws, hq, rfl⟩
            · exact rli
            · exact rli.lay hq
          have x' : Ext (pm pa gi.pen) Hi H' := by
            rcases hH' with rfl | ⟨q, ws, hq, rfl⟩
            · exact .refl _ _
            · exact .new hq
          have nDp : ∀ {g' : G} {σ' : L2.St} {H' : Hp}, Rel F X.K pa T1 H0 σ' H' g' → ¬ pm pa g'.pen Da := fun {g' σ' H'} r z => by
            obtain ⟨xs, e'⟩ := Option.isSome_iff_exists.mp z.1
            exact (r.pn xs e').1 (.inr z.2.symm)
          rw [List.drop_eq_getElem_cons hlt] at ev1
          unfold evDc at ev1
          have lenN : ∀ j' ∈ tgIs (.one i), j' < (gw gi).env.length := fun j' hj => by
            have h1 := chkTg_lt htg j' hj
            rw [← rl'.len, L2.wipe_length, hlen, ← O.cN]
            exact h1
          refine asg_ok (t := .one i) (x := ds[j]) (g := gw gi) rfl lenN rl' hx fun σ2 ra suba wpa pena => ?_
          have ww : L2.wipe σ2 [i] = L2.wipe σ [i] := (show L2.wipe σ2 [i] = L2.wipe (L2.wipe σ [i]) [i] from wpa).trans (wipe_wipe σ [i])
          refine ⟨ww, ?_⟩
          have pena' : pm pa (setD (gw gi) i ds[j]).pen = pm pa g1.pen := epm
          have x'' : Ext (pm pa g1.pen) Hi H' := x'.mono fun a z => by rw [← epm]; exact z
          cases f0 : evDs E [ik, iv] (setD (gw gi) i ds[j]) with
          | none => rw [f0] at ev1; cases ev1
          | some dg =>
            obtain ⟨dl, gc⟩ := dg
            rw [f0] at ev1
            split at ev1
            case h_2 => cases ev1
            rename_i kd vd gc' e9
            simp only [Option.some.injEq, Prod.mk.injEq] at e9
            obtain ⟨rfl, rfl⟩ := e9
            cases f3 : keyD true kd with
            | none => simp only [f3] at ev1; cases ev1
            | some nk =>
              simp only [f3] at ev1
              by_cases hz : acc.length < szL
              case neg => rw [if_neg hz] at ev1; cases ev1
              rw [if_pos hz] at ev1
              obtain ⟨gb, f1, f2⟩ := evDs_cons f0
              have f2 := evDs_one f2
              intro s1 Hx1 C1 cl1 fp1
              refine OKe.kp (hk s1 Hx1 C1 cl1 fp1) _ kd gb f1 pa T1 H0 σ2 H' _ ra.inn fun y1 H3 k3 => ?_
              have k3 := k3.out
              intro s2 Hx2 C2 cl2 fp2
              refine OKe.kp (hv s2 Hx2 C2 cl2 fp2) _ vd gc f2 pa T1 H0 σ2 H3 _ k3.rel.inn fun y2 H4 k4 => ?_
              have k4 := k4.out
              have eb : pm pa gb.pen = pm pa g1.pen := (pm_eq k3.pen).trans pena'
              have x34 : Ext (pm pa g1.pen) Hi H4 := (x''.trans (k3.ext.mono fun a z => by rw [← pena']; exact z)).trans (k4.ext.mono fun a z => by rw [← eb]; exact z)
              have sb : ∀ a, Nv pa T1 σ2 gc a → Nv pa T1 (L2.wipe σ [i]) (gw gi) a := fun a z => suba a (k3.sub a (k4.sub a z))
              have hm : ∀ a, pm pa g1.pen a → Nv pa T1 (L2.wipe σ [i]) (gw gi) a := fun a z => .inr (.inl (by show pm pa gi.pen a; rw [epm]; exact z))
              have hD4 : H4 Da = some (dO qi) := x34.k _ _ hDi (fun z => nDp rli (by show pm pa gi.pen Da; rw [epm]; exact z)) fun _ => nofun
              have er4 : EntR X.K (Nv pa T1 σ2 gc) H4 qi acc := (EntR.ext x34 hm hacc).mono sb
              have dk : DR X.K (Nv pa T1 σ2 gc) H4 y1 kd := (DR.ext k4.ext (fun a z => .inr (.inl z)) k3.dr).mono k4.sub
              refine ⟨qi, acc, kd, vd, nk, Nv pa T1 σ2 gc, hD4, er4, dk, k4.dr, f3, by rw [ents_len hacc]; exact hz, fun q' er' => ?_⟩
              have rp := k4.rel.putX (o := dO q') (.inr rfl) hD4 (tok qi) (fun _ _ => nofun) hD0 (tok q')
              obtain ⟨rw1, sw1⟩ := rp.wipe [i]
              rw [ww] at rw1 sw1
              have xp : Ext (fun a => a = Da) H4 (upd H4 Da (dO q')) := .putX rfl hD4 (tok qi)
              have hmD : ∀ a, a = Da → Nv pa T1 σ2 gc a := fun a z => .inl (.inr z)
              refine ⟨gc, dstore acc kd nk vd, q', ev1, (x1.trans x34).skipX hDa hD4 (tok qi), rw1, ?_, fun a z => subi a (sb a (sw1 a z)), upd_same, (EntR.ext xp hmD er').mono sw1, fun q hq => ?_⟩
              · rw [k4.pen, k3.pen]
                exact peni
              · exact (DR.ext xp hmD ((DR.ext x34 hm (hLi q hq)).mono sb)).mono sw1
        · have ei : j = ds.length := by omega
          subst ei
          refine .inl ⟨S.stop _ Hi hLi (hZ' x1), kk _ _ ?_⟩
          rw [List.drop_length] at ev1
          simp only [evDc, Option.some.injEq, Prod.mk.injEq] at ev1
          obtain ⟨rfl, rfl⟩ := ev1
          obtain ⟨ru, su⟩ := rli.unwipe
          have epm : pm pa g1.pen = pm pa g.pen := pm_eq pn.pen
          have sub1 : ∀ a, Nv pa T σ (gw gi) a → Nv pa T1 (L2.wipe σ [i]) (gw gi) a := fun a z => su a (z.imp .inl id)
          have nD : ¬ Nv pa T σ (gw gi) Da := by
            rintro (z | z | ⟨j, z⟩)
            · exact nTD z
            · obtain ⟨xs, e'⟩ := Option.isSome_iff_exists.mp z.1
              exact (ru.pn xs e').1 (.inr z.2.symm)
            · exact (ru.ownA z).2.2.1 (.inr rfl)
          refine ⟨pn.ext.trans (x1.mono fun a z => by rw [← epm]; exact z), ?_, ⟨Da, qi, rfl, hDH, by rw [O.fP, O.fw, ← O.eP, ← O.ew]; exact hDi, hacc.mono fun a z => z.elim (sub1 a) fun z => .inl (.inr z), nTD⟩, peni.trans pn.pen, fun a z => ?_⟩
          · exact ru.mono fun a z => z.imp id fun z => (V.ref.inj z).symm
          · rcases subw a (subi a (sub1 a z)) with h1 | h1
            · exact pn.sub a h1
            · rw [h1] at z
              exact absurd z nD
/-- the pieces of a dict comprehension, checked -/
structure DcOk (P : Program) (w : World) (K : Fg) (mg : Str → Option Value) (base : Heap) (p : Pgm) (n m : Nat) (F : Fm) (X : Cx) (c : Ct) (E : Ev) (scope : Scope) (kx vx tg it : Expr) (ik iv ii : IE) (i : Nat) : Prop where
  blk : blkC c.N c.sc scope (nmOf c.N [i]) = true
  htg : chkTg (c.inn scope) tg (.one i) = true
  hit : chkIt (chkE p m c) c tg .seq [ii] it = true
  hk : ∀ s H1 C cl fp, OKe F.inn (X.blk s H1 scope (compEnvC scope cl C X.env) fp) kx (E.e ik)
  hv : ∀ s H1 C cl fp, OKe F.inn (X.blk s H1 scope (compEnvC scope cl C X.env) fp) vx (E.e iv)
section
variable {scope : Scope} {kx vx tg it : Expr} {ik iv ii : IE} {i : Nat}
theorem DcOk.set (L : DcOk P w K mg base p n m F X c E scope kx vx tg it ik iv ii i) : notSet it = true := by
  have h := L.hit
  unfold chkIt at h
  rw [Bool.and_eq_true] at h
  exact h.1
theorem DcOk.bk (O : XO P w K mg base p n F X c) (L : DcOk P w K mg base p n m F X c E scope kx vx tg it ik iv ii i) : BlkOk X.N X.env.scope scope (nmOf c.N [i]) := by
  have h := blkOk_by L.blk
  rw [← O.cs, ← O.cN]
  exact h
theorem ok_dcomp (O : XO P w K mg base p n F X c) (h : ∀ e i, chkE p m c e i = true → OKe F X e (E.e i)) {pos : Pos} (L : DcOk P w K mg base p n m F X c E scope kx vx tg it ik iv ii i) :
    OKe F X (.DictComp kx vx [⟨tg, it, [], 0⟩] scope pos) (stE E (.dcomp true ik iv i ii)) := by
  intro g r g' q pa T H0 σ H Q rl kk pins s I
  refine (pe_dcX O.hu9 (gt := tgG X.K (.one i)) O.calm O.nd pi_w (L.bk O) (fun s H1 C cl fp => pg_tg (XG.blk O s H1 C cl fp) L.htg) (fun s H1 C cl fp => (⟨fun pins s' σ H Q I h => h s H1 C cl fp pins s' I⟩ : PE (X.blk s H1 scope (compEnvC scope cl C X.env) fp) kx (wEb X scope kx))) (fun s H1 C cl fp => (⟨fun pins s' σ H Q I h => h s H1 C cl fp pins s' I⟩ : PE (X.blk s H1 scope (compEnvC scope cl C X.env) fp) vx (wEb X scope vx))) (folded L.set)).run pins s σ H Q I ?_
  rw [nmOf_ix]
  exact dc_read O h L.htg L.hit L.hk L.hv q I.len rl kk
end
end
end DL
end
section
set_option Elab.async false
set_option linter.all false
set_option maxRecDepth 100000
set_option autoImplicit false
set_option maxHeartbeats 4000000
/-! DL, part p: all expressions, all tests. -/
namespace DL
open PySem PySem.Spec PyProof.Rows L2
variable [Tabs]
section
variable {P : Program} {w : World} {K : Fg} {mg : Str → Option Value} {base : Heap} {p : Pgm} {n m : Nat} {F : Fm} {X : Cx} {c : Ct} {E : Ev}
/-- the pieces of a comprehension, checked -/
structure LcOk (P : Program) (w : World) (K : Fg) (mg : Str → Option Value) (base : Heap) (p : Pgm) (n m : Nat) (F : Fm) (X : Cx) (c : Ct) (E : Ev) (scope : Scope) (elt t it : Expr) (ifs : List Expr) (ielt : IE) (tg : Tg) (ik : Ik) (its : List IE) (cond : Option IE) (own : List Nat) : Prop where
  blk : blkC c.N c.sc scope (nmOf c.N own) = true
  htg : chkTg (c.inn scope) t tg = true
  how : tgIs tg = own
  hit : chkIt (chkE p m c) c t ik its it = true
  hel : ∀ s H1 C cl fp, OKe F.inn (X.blk s H1 scope (compEnvC scope cl C X.env) fp) elt (E.e ielt)
  hcn : (ifs = [] ∧ cond = none) ∨ ∃ q iq, ifs = [q] ∧ cond = some iq ∧ ∀ s H1 C cl fp, OKt F.inn (X.blk s H1 scope (compEnvC scope cl C X.env) fp) q (E.t iq)
section
variable {scope : Scope} {elt t it : Expr} {ifs : List Expr} {ielt : IE} {tg : Tg} {ik : Ik} {its : List IE} {cond : Option IE} {own : List Nat} {pos : Pos}
theorem LcOk.cnd (L : LcOk P w K mg base p n m F X c E scope elt t it ifs ielt tg ik its cond own) : ∀ (s : Shared) (H1 : Hp) (C : Addr) (cl : List (Str × Addr)) (fp : List Addr), PTs (X.blk s H1 scope (compEnvC scope cl C X.env) fp) ifs (cndT X scope ifs) := by
  intro s H1 C cl fp
  rcases L.hcn with ⟨rfl, _⟩ | ⟨q, iq, rfl, _, _⟩
  · exact pts_nil
  · exact pts_one ⟨fun pins s' σ H Q I h => h s H1 C cl fp pins s' I⟩
theorem LcOk.el (X : Cx) (scope : Scope) (elt : Expr) : ∀ (s : Shared) (H1 : Hp) (C : Addr) (cl : List (Str × Addr)) (fp : List Addr), PE (X.blk s H1 scope (compEnvC scope cl C X.env) fp) elt (wEb X scope elt) :=
  fun s H1 C cl fp => ⟨fun pins s' σ H Q I h => h s H1 C cl fp pins s' I⟩
theorem LcOk.set (L : LcOk P w K mg base p n m F X c E scope elt t it ifs ielt tg ik its cond own) : notSet it = true := by
  have h := L.hit
  unfold chkIt at h
  rw [Bool.and_eq_true] at h
  exact h.1
theorem LcOk.bk (O : XO P w K mg base p n F X c) (L : LcOk P w K mg base p n m F X c E scope elt t it ifs ielt tg ik its cond own) : BlkOk X.N X.env.scope scope (nmOf c.N own) := by
  have h := blkOk_by L.blk
  rw [← O.cs, ← O.cN]
  exact h
theorem ok_lc (O : XO P w K mg base p n F X c) (h : ∀ e i, chkE p m c e i = true → OKe F X e (E.e i)) (L : LcOk P w K mg base p n m F X c E scope elt t it ifs ielt tg ik its cond own) :
    OKe F X (.ListComp elt [⟨t, it, ifs, 0⟩] scope pos) (stE E (.lc ielt tg ik its cond own)) := by
  intro g r g' q pa T H0 σ H Q rl kk pins s I
  have bk := L.bk O
  refine (pe_lc (g := tgG X.K tg) O.calm O.nd pi_w bk (fun s H1 C cl fp => pg_tg (XG.blk O s H1 C cl fp) L.htg) L.cnd (LcOk.el X scope elt) (folded L.set)).run pins s σ H Q I ?_
  rw [nmOf_ix]
  exact lc_read O h bk.kind L.htg L.how L.hit L.hel L.hcn q I.len rl kk
end
/-- the pieces from the check -/
theorem lc_parts (S : Snd P w K mg base p n) (O : XO P w K mg base p n F X c) {scope : Scope} {elt t it : Expr} {ifs : List Expr} {ielt : IE} {tg : Tg} {ik : Ik} {its : List IE} {cond : Option IE} {own : List Nat}
    (h : (blkC c.N c.sc scope (nmOf c.N own) && chkTg (c.inn scope) t tg && chkIt (chkE p m c) c t ik its it &&
            (match ifs, cond with
              | [], none => true
              | [q], some iq => chkE p m (c.inn (relS scope c.sc)) q iq
              | _, _ => false) && chkE p m (c.inn (relS scope c.sc)) elt ielt && (match tg with | .one i => own == [i] | .many is => own == is)) = true) :
    LcOk P w K mg base p n m F X c (ev p.fns n) scope elt t it ifs ielt tg ik its cond own := by
  simp only [Bool.and_eq_true] at h
  obtain ⟨⟨⟨⟨⟨h1, h2⟩, h3⟩, h4⟩, h5⟩, h6⟩ := h
  have hk := (blkOk_by h1).kind
  refine ⟨h1, h2, ?_, h3, fun s H1 C cl fp => S.e _ _ _ _ _ m (O.blk hk s H1 C cl fp) h5, ?_⟩
  · cases tg with
    | one i => exact (eq_of_beq h6).symm
    | many is => exact (eq_of_beq h6).symm
  · cases ifs with
    | nil =>
      cases cond with
      | none => exact .inl ⟨rfl, rfl⟩
      | some _ => cases h4
    | cons q rest =>
      cases rest with
      | cons _ _ => cases h4
      | nil =>
        cases cond with
        | none => cases h4
        | some iq => exact .inr ⟨q, iq, rfl, rfl, fun s H1 C cl fp => S.t _ _ _ _ _ m (O.blk hk s H1 C cl fp) h4⟩
theorem dc_parts (S : Snd P w K mg base p n) (O : XO P w K mg base p n F X c) {scope : Scope} {kx vx tg it : Expr} {ik iv ii : IE} {i : Nat}
    (h : (blkC c.N c.sc scope (nmOf c.N [i]) && chkTg (c.inn scope) tg (.one i) && chkIt (chkE p m c) c tg .seq [ii] it && chkE p m (c.inn (relS scope c.sc)) kx ik && chkE p m (c.inn (relS scope c.sc)) vx iv) = true) :
    DcOk P w K mg base p n m F X c (ev p.fns n) scope kx vx tg it ik iv ii i := by
  simp only [Bool.and_eq_true] at h
  obtain ⟨⟨⟨⟨h1, h2⟩, h3⟩, h4⟩, h5⟩ := h
  have hk := (blkOk_by h1).kind
  exact ⟨h1, h2, h3, fun s H1 C cl fp => S.e _ _ _ _ _ m (O.blk hk s H1 C cl fp) h4, fun s H1 C cl fp => S.e _ _ _ _ _ m (O.blk hk s H1 C cl fp) h5⟩
theorem snd_e (S : Snd P w K mg base p n) : ∀ m F X c e ir, XO P w K mg base p (n + 1) F X c → chkE p m c e ir = true → OKe F X e (stE (ev p.fns n) ir) := by
  intro m
  induction m with
  | zero => intro F X c e ir O h; cases h
  | succ m ih =>
    intro F X c e ir O h
    have O' : XO P w K mg base p n F X c := O.le (Nat.le_succ n)
    have he : ∀ e i, chkE p m c e i = true → OKe F X e ((ev p.fns n).e i) := fun e i q => S.e F X c e i m O' q
    have ht : ∀ e i, chkE p m c e i = true → OKt F X e ((ev p.fns n).t i) := fun e i q => S.t F X c e i m O' q
    cases e with
    | BoolOp op vs pos =>
      cases vs with
      | nil => cases h
      | cons x rest =>
        cases rest with
        | nil =>
          have h' : chkE p m c x ir = true := h
          intro g r g' q pa T H0 σ H Q rl kk
          exact wE_of (pe_one pe_w) (ih F X c x ir O h' g r g' q pa T H0 σ H Q rl kk)
        | cons y rest =>
          cases ir with
          | bop isAnd a b =>
            simp only [chkE, Bool.and_eq_true] at h
            exact ok_bop (eq_of_beq h.1.1) (he _ _ h.1.2) (he _ _ h.2)
          | _ => cases h
    | Name s pos =>
      cases ir with
      | slot i =>
        simp only [chkE, Bool.and_eq_true, decide_eq_true_eq] at h
        exact ok_slot O h.1.1.1 h.1.1.2 h.1.2 h.2
      | cst d =>
        simp only [chkE, Bool.and_eq_true] at h
        exact ok_glob O h.1.1 h.1.2 h.2
      | _ => cases h
    | Constant k j pos =>
      cases ir with
      | cst d => exact ok_const (show chkC k d = true from h)
      | _ => cases h
    | Tuple xs k pos =>
      cases ir with
      | tup es =>
        simp only [chkE, Bool.and_eq_true, decide_eq_true_eq] at h
        exact ok_tup (ok_ds he h.2) h.1 (chkEs_len h.2) (fun g ds g' q => evDs_len g ds g' q)
      | _ => cases h
    | List xs pos =>
      cases ir with
      | lst es =>
        simp only [chkE, Bool.and_eq_true, decide_eq_true_eq] at h
        exact ok_lst (ok_ds he h.2) h.1 (fun g ds g' q => evDs_len g ds g' q)
      | _ => cases h
    | BinOp x op y pos =>
      cases ir with
      | bin op' a b =>
        simp only [chkE, Bool.and_eq_true, decide_eq_true_eq] at h
        obtain ⟨⟨rfl, h1⟩, h2⟩ := h
        exact ok_bin (he _ _ h1) (he _ _ h2)
      | _ => cases h
    | UnaryOp op x pos =>
      cases ir with
      | neg a => cases op <;> first | cases h | exact ok_neg (he _ _ h)
      | notE a => cases op <;> first | cases h | exact ok_notE (he _ _ h)
      | _ => cases h
    | Compare x ops ys pos =>
      cases ir with
      | din neg i k =>
        match ops, ys with
        | [o], [.Name z pz] =>
          simp only [chkE, Bool.and_eq_true, decide_eq_true_eq] at h
          obtain ⟨⟨⟨⟨rfl, h1⟩, h2⟩, h3⟩, h4⟩ := h
          exact ok_din O' h1 h2 h3 (he _ _ h4)
        | [], _ => cases h
        | [_], [] => cases h
        | _ :: _ :: _, _ => cases h
        | [_], a :: _ :: _ => cases a <;> cases h
        | [_], [e] => cases e <;> first | (cases h; done) | (simp only [chkE, Bool.and_eq_true, decide_eq_true_eq] at h; obtain ⟨⟨⟨⟨rfl, h1⟩, h2⟩, h3⟩, h4⟩ := h; exact ok_din O' h1 h2 h3 (he _ _ h4))
      | cmp op a b =>
        match ops, ys with
        | [o], [y] =>
          simp only [chkE, Bool.and_eq_true, decide_eq_true_eq] at h
          obtain ⟨⟨⟨rfl, h1⟩, h2⟩, h3⟩ := h
          exact ok_cmp O h1 (he _ _ h2) (he _ _ h3)
        | [], _ => cases h
        | [_], [] => cases h
        | [_], _ :: _ :: _ => cases h
        | _ :: _ :: _, _ => cases h
      | chn op op' a b d =>
        match ops, ys with
        | [o, o'], [y, z] =>
          simp only [chkE, Bool.and_eq_true, decide_eq_true_eq] at h
          obtain ⟨⟨⟨⟨⟨⟨rfl, rfl⟩, h1⟩, h2⟩, h3⟩, h4⟩, h5⟩ := h
          exact ok_chn O h2 (he _ _ h3) (he _ _ h4) (he _ _ h5)
        | [], _ => cases h
        | [_], _ => cases h
        | [_, _], [] => cases h
        | [_, _], [_] => cases h
        | [_, _], _ :: _ :: _ :: _ => cases h
        | _ :: _ :: _ :: _, _ => cases h
      | _ => cases h
    | IfExp t x y pos =>
      cases ir with
      | ife it a b =>
        simp only [chkE, Bool.and_eq_true] at h
        exact ok_ife (ht _ _ h.1.1) (he _ _ h.1.2) (he _ _ h.2)
      | _ => cases h
    | Subscript x y pos =>
      cases ir with
      | dget i k =>
        cases x with
        | Name z pz =>
          simp only [chkE, Bool.and_eq_true, decide_eq_true_eq] at h
          obtain ⟨⟨⟨⟨h1, h2⟩, h3⟩, h4⟩, h5⟩ := h
          exact ok_dget O' h1 h2 h3 h4 (he _ _ h5)
        | _ => cases h
      | idx a i =>
        simp only [chkE, Bool.and_eq_true] at h
        exact ok_idx h.1.1 (he _ _ h.1.2) (he _ _ h.2)
      | slc a lo hi =>
        cases y with
        | Slice l hh st ps =>
          cases st with
          | none =>
            simp only [chkE, Bool.and_eq_true] at h
            exact ok_slc he h.1.1 h.1.2 h.2
          | some _ => cases h
        | _ => cases h
      | rev a =>
        simp only [chkE] at h
        split at h
        · simp only [Bool.and_eq_true, decide_eq_true_eq] at h
          obtain ⟨rfl, h1⟩ := h
          exact ok_rev (he _ _ h1)
        · cases h
      | _ => cases h
    | Call f args kws pos =>
      cases kws with
      | cons _ _ => cases h
      | nil =>
        cases f with
        | Name s ps =>
          cases ir with
          | callS k es =>
            simp only [chkE, Bool.and_eq_true, decide_eq_true_eq, Bool.not_eq_true'] at h
            obtain ⟨⟨⟨⟨⟨h1, h2⟩, h3⟩, h4⟩, h5⟩, h6⟩ := h
            exact ok_callS O S.k he h1 h2 h3 h4 h5 h6
          | call k es =>
            simp only [chkE, Bool.and_eq_true] at h
            obtain ⟨⟨hg, hn⟩, h⟩ := h
            cases ef : p.fns[k]? with
            | none => simp only [ef] at h; cases h
            | some fd =>
              simp only [ef, Bool.and_eq_true, Bool.not_eq_true'] at h
              exact ok_call O S.c he ef (eq_of_beq h.1.1.1) hg hn h.1.2 h.2
          | bi1 b a =>
            simp only [chkE, Bool.and_eq_true] at h
            obtain ⟨⟨hg, hn⟩, h⟩ := h
            obtain ⟨hs, h⟩ := h
            have hs' := eq_of_beq hs
            have one : chkEs (chkE p m c) args [a] = true → (∀ t, b ≠ .isin t) → OKe F X (.Call (.Name s ps) args [] pos) (stE (ev p.fns n) (.bi1 b a)) := fun q hb => by
              match args, q with
              | [y], q =>
                simp only [chkEs, Bool.and_eq_true] at q
                exact ok_bi1 O hb hs' hg hn q.1.1 (he _ _ q.1.2)
              | [], q => cases q
              | _ :: _ :: _, q => simp [chkEs] at q
            cases b with
            | isin t =>
              simp only at h
              split at h
              · simp only [Bool.and_eq_true, Bool.or_eq_true] at h
                obtain ⟨⟨⟨⟨⟨h1, h2⟩, h3⟩, h4⟩, h5⟩, h6⟩ := h
                refine ok_isin O hs' hg hn (eq_of_beq h1) h2 h3 h4 (he _ _ h5) ?_
                rcases h6 with (((h6 | h6) | h6) | h6) | h6
                · exact .inl (eq_of_beq h6)
                · exact .inr (.inl (eq_of_beq h6))
                · exact .inr (.inr (.inl (eq_of_beq h6)))
                · exact .inr (.inr (.inr (.inl (eq_of_beq h6))))
                · exact .inr (.inr (.inr (.inr (eq_of_beq h6))))
              · cases h
            | _ => exact one h (fun t => nofun)
          | bi2 b a d =>
            simp only [chkE, Bool.and_eq_true] at h
            obtain ⟨⟨hg, hn⟩, h⟩ := h
            obtain ⟨⟨hs, _⟩, h⟩ := h
            match args, h with
            | [y, z], q =>
              simp only [chkEs, Bool.and_eq_true] at q
              exact ok_bi2 O (eq_of_beq hs) hg hn q.1.1 q.2.1.1 (he _ _ q.1.2) (he _ _ q.2.1.2)
            | [], q => cases q
            | [_], q => simp [chkEs] at q
            | _ :: _ :: _ :: _, q => simp [chkEs] at q
          | allG y i it =>
            cases y with
            | slot j =>
              simp only [chkE, Bool.and_eq_true] at h
              obtain ⟨⟨hg, hn⟩, h⟩ := h
              obtain ⟨⟨⟨h1, h2⟩, hw⟩, h3⟩ := h
              split at h3
              · simp only [Bool.and_eq_true, decide_eq_true_eq] at h3
                obtain ⟨⟨⟨⟨⟨⟨e1, e2⟩, e3⟩, e4⟩, e5⟩, e6⟩, e7⟩ := h3
                have e1' := eq_of_beq e1
                have h1' := eq_of_beq h1
                subst e1'
                subst h1'
                exact ok_allG O hg (of_decide_eq_true h2) (of_decide_eq_true hw) e2 e3 e4 e5 e6 (he _ _ e7)
              · cases h3
            | _ => simp only [chkE, Bool.and_eq_true] at h; cases h.2
          | rngL t es =>
            simp only [chkE, Bool.and_eq_true] at h
            obtain ⟨⟨hg, hn⟩, h⟩ := h
            obtain ⟨hs, h⟩ := h
            split at h
            · simp only [Bool.and_eq_true, decide_eq_true_eq] at h
              obtain ⟨⟨⟨⟨⟨h1, h2⟩, h3⟩, h4⟩, h5⟩, h6⟩ := h
              exact ok_rngL O he (eq_of_beq hs) hg hn (eq_of_beq h1) h2 h4 h5 h6
            · cases h
          | _ => simp only [chkE, Bool.and_eq_true] at h; cases h.2
        | Attribute o am apos =>
          simp only [chkE, Bool.and_eq_true] at h
          obtain ⟨⟨hb, hl⟩, h⟩ := h
          cases ir with
          | idxS a b =>
            simp only [Bool.and_eq_true] at h
            obtain ⟨⟨h1, h2⟩, h3⟩ := h
            match args, h3 with
            | [y], q =>
              simp only [chkEs, Bool.and_eq_true] at q
              exact ok_idxS O (eq_of_beq h1) hb hl q.1.1 (he _ _ h2) (he _ _ q.1.2)
            | [], q => cases q
            | _ :: _ :: _, q => simp [chkEs] at q
          | join a b =>
            simp only [Bool.and_eq_true] at h
            obtain ⟨⟨h1, h2⟩, h3⟩ := h
            match args, h3 with
            | [y], q =>
              simp only [chkEs, Bool.and_eq_true] at q
              exact ok_join (eq_of_beq h1) hb hl q.1.1 (he _ _ h2) (he _ _ q.1.2)
            | [], q => cases q
            | _ :: _ :: _, q => simp [chkEs] at q
          | _ => cases h
        | _ => cases h
    | Dict ks vs pos =>
      cases ir with
      | dnew t kv =>
        cases kv with
        | none => cases h
        | some ab =>
          obtain ⟨a, b⟩ := ab
          match ks, vs with
          | [some ke], [ve] =>
            simp only [chkE, Bool.and_eq_true] at h
            obtain ⟨⟨⟨rfl, h1⟩, h2⟩, h3⟩ := h
            exact ok_dnew1 O' h1 (he _ _ h2) (he _ _ h3)
          | [], _ => cases h
          | none :: _, _ => cases h
          | some _ :: _ :: _, _ => cases h
          | [some _], [] => cases h
          | [some _], _ :: _ :: _ => cases h
      | _ => cases h
    | DictComp kx vx gs scope pos =>
      cases ir with
      | dcomp t ik iv i ii =>
        simp only [chkE] at h
        split at h
        · simp only [Bool.and_eq_true] at h
          obtain ⟨⟨⟨⟨⟨rfl, h1⟩, h2⟩, h3⟩, h4⟩, h5⟩ := h
          exact ok_dcomp (m := m) O' he (dc_parts S O' (by simp only [Bool.and_eq_true]; exact ⟨⟨⟨⟨h1, h2⟩, h3⟩, h4⟩, h5⟩))
        · cases h
      | _ => cases h
    | Lambda params body scope pos =>
      cases ir with
      | lam k js => exact ok_lam O (show mkB p c k "<lambda>" params (.expr body) scope pos js = true from h)
      | _ => cases h
    | ListComp elt gs scope pos =>
      cases ir with
      | lc ielt tg ik its cond own =>
        simp only [chkE] at h
        split at h
        · exact ok_lc O he (by
            have := lc_parts (m := m) S O' h
            exact ⟨this.blk, this.htg, this.how, this.hit, this.hel, this.hcn⟩)
        · cases h
      | _ => cases h
    | _ => cases h
/-- a plain test -/
theorem plain_true {e : Expr} {env : Env} (h : plainTest e = true) (whole : Sem Value) : isTrue e env whole = (do let v ← whole; standAt e.pos; holding [v] (truthy v)) := by
  cases e with
  | UnaryOp op x pos => cases op <;> first | rfl | cases h
  | BoolOp _ _ _ => cases h
  | IfExp _ _ _ _ => cases h
  | Compare _ _ _ _ => cases h
  | _ => rfl
theorem okt_plain {e : Expr} {ir : IE} (he : OKe F X e (E.e ir)) (h : plainTest e = true) : ∀ g b g', (match rd1 E ir g with
    | none => none
    | some (x, g1) => (truD x).map fun b => (b, g1)) = some (b, g') → ∀ pa T H0 σ H (Q : Bool → Hp → Prop), Rel F X.K pa T H0 σ H g → (∀ H', PostN F X.K pa T H0 σ H g H' g' → Q b H') → wT X e σ H Q := by
  intro g b g' q pa T H0 σ H Q rl kk
  cases e1 : rd1 E ir g with
  | none => simp only [e1] at q; cases q
  | some t =>
    obtain ⟨x, g1⟩ := t
    simp only [e1] at q
    cases e2 : truD x with
    | none => simp only [e2] at q; cases q
    | some b' =>
      simp only [e2, Option.map_some, Option.some.injEq, Prod.mk.injEq] at q
      obtain ⟨rfl, rfl⟩ := q
      exact wT_of (pt_truth pe_w (plain_true h)) (OKe.rd he g x g1 e1 pa T H0 σ H _ rl fun v H1 p1 => ⟨b', tru_D p1.tr e2, kk _ p1.n⟩)
theorem snd_t (S : Snd P w K mg base p n) : ∀ m F X c e ir, XO P w K mg base p (n + 1) F X c → chkE p m c e ir = true → OKt F X e (stT (ev p.fns n) ir) := by
  intro m
  induction m with
  | zero => intro F X c e ir O h; cases h
  | succ m ih =>
    intro F X c e ir O h
    have O' : XO P w K mg base p n F X c := O.le (Nat.le_succ n)
    have he : ∀ e i, chkE p m c e i = true → OKe F X e ((ev p.fns n).e i) := fun e i q => S.e F X c e i m O' q
    have ht : ∀ e i, chkE p m c e i = true → OKt F X e ((ev p.fns n).t i) := fun e i q => S.t F X c e i m O' q
    have hs := S.e F X c e ir (m + 1) O' h
    cases e with
    | BoolOp op vs pos =>
      cases vs with
      | nil => cases h
      | cons x rest =>
        cases rest with
        | nil =>
          have h' : chkE p m c x ir = true := h
          intro g r g' q pa T H0 σ H Q rl kk
          have k1 := ih F X c x ir O h' g r g' q pa T H0 σ H Q rl kk
          cases op with
          | And => exact wT_of (PW.pt (pw_and1 pt_w)) k1
          | Or => exact wT_of (PW.pt (pw_or1 pt_w)) k1
        | cons y rest =>
          cases ir with
          | bop isAnd a b =>
            simp only [chkE, Bool.and_eq_true] at h
            obtain ⟨⟨h1, h2⟩, h3⟩ := h
            have h1 := eq_of_beq h1
            subst h1
            intro g r g' q pa T H0 σ H Q rl kk
            simp only [stT] at q
            cases e1 : (ev p.fns n).t a g with
            | none => simp only [e1] at q; cases q
            | some cg =>
              obtain ⟨cc, g1⟩ := cg
              simp only [e1] at q
              have pwB : ∀ {op : BoolOp}, PW X (.BoolOp op (y :: rest) pos) (wT X (.BoolOp op (y :: rest) pos)) := fun {op} => ⟨fun wh pins s σ H Q I k => k pins s I⟩
              cases op with
              | And =>
                refine wT_of (PW.pt (pw_and pt_w pwB)) (ht _ _ h2 g cc g1 e1 pa T H0 σ H _ rl fun H1 p1 => ?_)
                cases cc with
                | true => exact iteT (ht _ _ h3 g1 r g' q pa T H0 σ H1 Q p1.rel fun H2 p2 => kk H2 (p1.then p2))
                | false => cases q; exact iteF (kk H1 p1)
              | Or =>
                refine wT_of (PW.pt (pw_or pt_w pwB)) (ht _ _ h2 g cc g1 e1 pa T H0 σ H _ rl fun H1 p1 => ?_)
                cases cc with
                | false => exact iteF (ht _ _ h3 g1 r g' q pa T H0 σ H1 Q p1.rel fun H2 p2 => kk H2 (p1.then p2))
                | true => cases q; exact iteT (kk H1 p1)
          | _ => cases h
    | UnaryOp op x pos =>
      cases ir with
      | neg a =>
        cases op with
        | USub => exact okt_plain hs rfl
        | _ => cases h
      | notE a =>
        cases op with
        | Not =>
          have h' : chkE p m c x a = true := h
          intro g r g' q pa T H0 σ H Q rl kk
          simp only [stT] at q
          cases e1 : (ev p.fns n).t a g with
          | none => simp only [e1] at q; cases q
          | some cg =>
            obtain ⟨cc, g1⟩ := cg
            simp only [e1, Option.map_some, Option.some.injEq, Prod.mk.injEq] at q
            obtain ⟨rfl, rfl⟩ := q
            exact wT_of (pt_not pt_w) (ht _ _ h' g cc g1 e1 pa T H0 σ H _ rl fun H1 p1 => kk H1 p1)
        | _ => cases h
      | _ => cases h
    | Compare x ops ys pos =>
      cases ir with
      | din neg i k =>
        have fin : ∀ {o : CmpOp} {z : Str} {pz : Pos}, o = (if neg = true then .NotIn else .In) → c.N[i]? = some z → visB c.sc z = true → okN z = true → chkE p m c x k = true → OKt F X (.Compare x [o] [.Name z pz] pos) (stT (ev p.fns n) (.din neg i k)) := fun {o z pz} ho h1 h2 h3 h4 => by
          subst ho
          intro g r g' q pa T H0 σ H Q rl kk
          simp only [stT] at q
          split at q
          · rename_i r' g1 e1
            simp only [Option.some.injEq, Prod.mk.injEq] at q
            obtain ⟨rfl, rfl⟩ := q
            exact okt_din O' h1 h2 h3 (he _ _ h4) e1 rl kk
          · cases q
        match ops, ys with
        | [o], [.Name z pz] =>
          simp only [chkE, Bool.and_eq_true, decide_eq_true_eq] at h
          obtain ⟨⟨⟨⟨h0, h1⟩, h2⟩, h3⟩, h4⟩ := h
          exact fin h0 h1 h2 h3 h4
        | [], _ => cases h
        | [_], [] => cases h
        | _ :: _ :: _, _ => cases h
        | [_], a :: _ :: _ => cases a <;> cases h
        | [_], [e] => cases e <;> first | (cases h; done) | (simp only [chkE, Bool.and_eq_true, decide_eq_true_eq] at h; obtain ⟨⟨⟨⟨h0, h1⟩, h2⟩, h3⟩, h4⟩ := h; exact fin h0 h1 h2 h3 h4)
      | cmp op a b =>
        match ops, ys with
        | [o], [y] =>
          simp only [chkE, Bool.and_eq_true, decide_eq_true_eq] at h
          obtain ⟨⟨⟨rfl, h1⟩, h2⟩, h3⟩ := h
          intro g r g' q pa T H0 σ H Q rl kk
          simp only [stT] at q
          split at q
          · rename_i r' g1 e1
            simp only [Option.some.injEq, Prod.mk.injEq] at q
            obtain ⟨rfl, rfl⟩ := q
            exact okt_cmp O h1 (he _ _ h2) (he _ _ h3) e1 rl kk
          · cases q
        | [], _ => cases h
        | [_], [] => cases h
        | [_], _ :: _ :: _ => cases h
        | _ :: _ :: _, _ => cases h
      | chn op op' a b d =>
        match ops, ys with
        | [o, o'], [y, z] =>
          simp only [chkE, Bool.and_eq_true, decide_eq_true_eq] at h
          obtain ⟨⟨⟨⟨⟨⟨rfl, rfl⟩, h1⟩, h2⟩, h3⟩, h4⟩, h5⟩ := h
          intro g r g' q pa T H0 σ H Q rl kk
          simp only [stT] at q
          split at q
          · rename_i r' g1 e1
            simp only [Option.some.injEq, Prod.mk.injEq] at q
            obtain ⟨rfl, rfl⟩ := q
            exact okt_chn O h2 (he _ _ h3) (he _ _ h4) (he _ _ h5) e1 rl kk
          · cases q
        | [], _ => cases h
        | [_], _ => cases h
        | [_, _], [] => cases h
        | [_, _], [_] => cases h
        | [_, _], _ :: _ :: _ :: _ => cases h
        | _ :: _ :: _ :: _, _ => cases h
      | _ => cases h
    | IfExp t x y pos =>
      cases ir with
      | ife it a b => intro g r g' q; cases q
      | _ => cases h
    | Name s pos => cases ir <;> first | (cases h; done) | exact okt_plain hs rfl
    | Constant k j pos => cases ir <;> first | (cases h; done) | exact okt_plain hs rfl
    | Tuple xs k pos => cases ir <;> first | (cases h; done) | exact okt_plain hs rfl
    | List xs pos => cases ir <;> first | (cases h; done) | exact okt_plain hs rfl
    | BinOp x op y pos => cases ir <;> first | (cases h; done) | exact okt_plain hs rfl
    | Subscript x y pos => cases ir <;> first | (cases h; done) | exact okt_plain hs rfl
    | Dict ks vs pos => cases ir <;> first | (cases h; done) | exact okt_plain hs rfl
    | DictComp kx vx gs scope pos => cases ir <;> first | (cases h; done) | exact okt_plain hs rfl
    | Lambda params body scope pos => cases ir <;> first | (cases h; done) | exact okt_plain hs rfl
    | ListComp elt gs scope pos => cases ir <;> first | (cases h; done) | exact okt_plain hs rfl
    | Call f args kws pos =>
      cases kws with
      | cons _ _ => cases h
      | nil =>
        cases f with
        | Name s ps =>
          cases ir <;> first | (simp only [chkE, Bool.and_eq_true] at h; cases h.2; done) | exact okt_plain hs rfl
        | Attribute o am apos =>
          simp only [chkE, Bool.and_eq_true] at h
          cases ir <;> first | (cases h.2; done) | exact okt_plain hs rfl
        | _ => cases h
    | _ => cases h
end
end DL
end
section
set_option Elab.async false
set_option linter.all false
set_option maxRecDepth 100000
set_option autoImplicit false
set_option maxHeartbeats 4000000
/-! DL, part q: statements. -/
namespace DL
open PySem PySem.Spec PyProof.Rows L2
variable [Tabs]

structure PostSt (F : Fm) (K : Fg) (pa pa' : Addr) (T : AS) (H0 : Hp) (σ : L2.St) (H : Hp) (g : G) (σ' : L2.St) (H' : Hp) (g' : G) : Prop where
  rel : Rel F K pa' T H0 σ' H' g'
  pas : g.pen.isSome = true → pa' = pa ∧ g'.pen.isSome = true
  pres : ∀ v d, DR K (Nv pa T σ g) H v d → DR K (Nv pa' T σ' g') H' v d
  len : σ'.length = σ.length
def OKss (F : Fm) (X : Cx) (w : L2.Ends → L2.St → Hp → Prop) (f : G → Option (Fl × G)) : Prop := ∀ g fl g', f g = some (fl, g') → ∀ pa T H0 σ H (D : Ends), σ.length = X.N.length → Rel F X.K pa T H0 σ H g →
  (fl = .nx → ∀ pa' σ' H', PostSt F X.K pa pa' T H0 σ H g σ' H' g' → D.nx σ' H') →
  (∀ r, fl = .ret r → ∀ pa' σ' H1 g1 v H', PostSt F X.K pa pa' T H0 σ H g σ' H1 g1 → PostE F X.K pa' T H0 σ' H1 g1 v H' r g' → D.rt v H') → w D σ H
section
variable {F : Fm} {K : Fg} {pa pa' pa'' : Addr} {T : AS} {H0 H H1 H2 : Hp} {σ σ' σ'' : L2.St} {g g1 g2 : G}
theorem PostSt.refl (r : Rel F K pa T H0 σ H g) : PostSt F K pa pa T H0 σ H g σ H g := ⟨r, fun h => ⟨rfl, h⟩, fun _ _ q => q, rfl⟩
theorem PostSt.trans (a : PostSt F K pa pa' T H0 σ H g σ' H1 g1) (b : PostSt F K pa' pa'' T H0 σ' H1 g1 σ'' H2 g2) : PostSt F K pa pa'' T H0 σ H g σ'' H2 g2 :=
  ⟨b.rel, fun h => ⟨(b.pas (a.pas h).2).1.trans (a.pas h).1, (b.pas (a.pas h).2).2⟩, fun v d q => b.pres v d (a.pres v d q), b.len.trans a.len⟩
/-- an expression's state is a statement's -/
theorem PostN.st (p : PostN F K pa T H0 σ H g H1 g1) : PostSt F K pa pa T H0 σ H g σ H1 g1 :=
  ⟨p.rel, fun h => ⟨rfl, by rw [p.pen]; exact h⟩, fun v d q => (DR.ext p.ext (fun a z => .inr (.inl z)) q).mono p.sub, rfl⟩
theorem Rel.stSt (r : Rel F K pa T H0 σ H g) {i : Nat} {v : V} {x : D} (hi : i < g.env.length) (hd : DR K (Nv pa T σ g) H v x) : PostSt F K pa pa T H0 σ H g (σ.set i (some v)) H (setD g i x) := by
  obtain ⟨r1, s1⟩ := r.stD hi hd
  exact ⟨r1, fun h => ⟨rfl, h⟩, fun v d q => q.mono s1, List.length_set ..⟩
/-- a name takes a list or a dict of its own -/
theorem Rel.stNew {q : Addr} {s0 : Sv} {i : Nat} (r : Rel F K pa (fun a => T a ∨ a = q) H0 σ H g) (hi : i < g.env.length) (ho0 : ownB s0 = true) (hsv : SvR F K pa T (fun a => Nv pa T σ g a ∨ a = q) H0 H g.pen (.ref q) s0) :
    Rel F K pa T H0 (σ.set i (some (.ref q))) H { g with env := g.env.set i (some s0) } ∧ ∀ a, Nv pa T (σ.set i (some (.ref q))) { g with env := g.env.set i (some s0) } a → Nv pa T σ g a ∨ a = q := by
  have hiσ : i < σ.length := by rw [r.len]; exact hi
  have npm : ¬ pm pa g.pen q := fun z => by
    obtain ⟨ys, e⟩ := Option.isSome_iff_exists.mp z.1
    exact (r.pn ys e).1 (.inr z.2.symm)
  have at_ : ∀ j sv, (g.env.set i (some s0))[j]? = some (some sv) → (j = i ∧ sv = s0) ∨ (j ≠ i ∧ g.env[j]? = some (some sv) ∧ (σ.set i (some (V.ref q)))[j]? = σ[j]?) := fun j sv h' => by
    by_cases hj : i = j
    · subst hj
      rw [List.getElem?_set_self hi] at h'
      cases h'
      exact .inl ⟨rfl, rfl⟩
    · rw [List.getElem?_set_ne hj] at h'
      exact .inr ⟨fun z => hj z.symm, h', List.getElem?_set_ne hj⟩
  have own : ∀ j a, Own (σ.set i (some (V.ref q))) { g with env := g.env.set i (some s0) } j a → (j = i ∧ a = q) ∨ (j ≠ i ∧ Own σ g j a) := fun j a ⟨sv, h1, ho, h2⟩ => by
    rcases at_ j _ h1 with ⟨rfl, _⟩ | ⟨q0, q1, q2⟩
    · rw [List.getElem?_set_self hiσ] at h2
      cases h2
      exact .inl ⟨rfl, rfl⟩
    · exact .inr ⟨q0, sv, q1, ho, q2.symm.trans h2⟩
  have ownq : ∀ j, ¬ Own σ g j q := fun j h => (r.ownA h).2.2.1 (.inr rfl)
  have sub : ∀ a, Nv pa T (σ.set i (some (V.ref q))) { g with env := g.env.set i (some s0) } a → Nv pa (fun a => T a ∨ a = q) σ g a := by
    rintro a (z | z | ⟨j, z⟩)
    · exact .inl (.inl z)
    · exact .inr (.inl z)
    · rcases own j a z with ⟨_, rfl⟩ | ⟨_, z⟩
      · exact .inl (.inr rfl)
      · exact .inr (.inr ⟨j, z⟩)
  have sub2 : ∀ a, Nv pa T (σ.set i (some (V.ref q))) { g with env := g.env.set i (some s0) } a → Nv pa T σ g a ∨ a = q := fun a z => by
    rcases sub a z with (z | z) | z
    · exact .inl (.inl z)
    · exact .inr z
    · exact .inl (.inr z)
  -- the list's own items stand apart from it: they were there, or are read apart
  refine ⟨⟨by rw [List.length_set]; show σ.length = (g.env.set i (some s0)).length; rw [List.length_set]; exact r.len, fun j sv e => ?_, fun j k a h1 h2 => ?_, fun ys e => ?_, fun a z => r.td a (.inl z), r.x0, r.tb, fun j k js e => ?_⟩, sub2⟩
  · rcases at_ j sv e with ⟨rfl, rfl⟩ | ⟨_, q1, q2⟩
    · exact ⟨.ref q, List.getElem?_set_self hiσ, hsv.go (.refl _ _) (fun a z => .inl (.inr (.inl z))) sub2 (fun _ z => z) rfl⟩
    · obtain ⟨u, e1, hh⟩ := r.sl j sv q1
      exact ⟨u, q2.trans e1, hh.go (.refl _ _) (fun a z => .inr (.inl z)) sub (fun _ z => .inl z) rfl⟩
  · rcases own j a h1 with ⟨j1, j2⟩ | ⟨_, f1⟩
    · rcases own k a h2 with ⟨k1, _⟩ | ⟨_, f2⟩
      · rw [j1, k1]
      · exact absurd (j2 ▸ f2) (ownq k)
    · rcases own k a h2 with ⟨k1, k2⟩ | ⟨_, f2⟩
      · exact absurd (k2 ▸ f1) (ownq j)
      · exact r.ap j k a f1 f2
  · obtain ⟨q1, ws, q2, q3⟩ := r.pn ys e
    exact ⟨fun z => q1 (.inl z), ws, q2, q3.mono sub⟩
  · rcases at_ j _ e with ⟨_, z⟩ | ⟨_, q1, _⟩
    · rw [← z] at ho0
      cases ho0
    · exact r.fo j k js q1
theorem PostE.own {v : V} {xs : List D} {i : Nat} (rl : Rel F K pa T H0 σ H g) (p : PostE F K pa T H0 σ H g v H1 (.fr xs) g1) (hi : i < g1.env.length) : PostSt F K pa pa T H0 σ H g (σ.set i (some v)) H1 (setOwn g1 i xs) := by
  obtain ⟨q, vs, rfl, e1, e2, e3, e4⟩ := p.vr
  have r0 : Rel F K pa (fun a => T a ∨ a = q) H0 σ H1 g1 := p.rel.mono fun a z => z.imp id fun z => by rw [z]
  have npm : ¬ pm pa g1.pen q := fun z => by
    obtain ⟨ys, e⟩ := Option.isSome_iff_exists.mp z.1
    exact (r0.pn ys e).1 (.inr z.2.symm)
  obtain ⟨r1, s1⟩ := r0.stNew (s0 := .own xs) hi rfl ⟨q, vs, rfl, e2, e3, rl.x0.d q e1, e4, npm⟩
  refine ⟨r1, fun h => ⟨rfl, by show g1.pen.isSome = true; rw [p.pen]; exact h⟩, fun v d z => ?_, List.length_set ..⟩
  refine (DR.ext (N := fun a => Nv pa T σ g a ∨ a = q) p.ext (fun a z => .inl (.inr (.inl z))) (z.grow e1)).mono fun a z => ?_
  exact (s1 a z).imp (p.sub a) id
theorem PostE.ownDic {v : V} {t : Bool} {xs : List (D × D)} {i : Nat} (rl : Rel F K pa T H0 σ H g) (p : PostE F K pa T H0 σ H g v H1 (.fd t xs) g1) (hi : i < g1.env.length) : PostSt F K pa pa T H0 σ H g (σ.set i (some v)) H1 (setDic g1 i t xs) := by
  obtain ⟨q, vs, rfl, e1, e2, e3, e4⟩ := p.vr
  have r0 : Rel F K pa (fun a => T a ∨ a = q) H0 σ H1 g1 := p.rel.mono fun a z => z.imp id fun z => by rw [z]
  have npm : ¬ pm pa g1.pen q := fun z => by
    obtain ⟨ys, e⟩ := Option.isSome_iff_exists.mp z.1
    exact (r0.pn ys e).1 (.inr z.2.symm)
  obtain ⟨r1, s1⟩ := r0.stNew (s0 := .dic t xs) hi rfl ⟨q, vs, rfl, e2, e3, rl.x0.d q e1, e4, npm⟩
  refine ⟨r1, fun h => ⟨rfl, by show g1.pen.isSome = true; rw [p.pen]; exact h⟩, fun v d z => ?_, List.length_set ..⟩
  refine (DR.ext (N := fun a => Nv pa T σ g a ∨ a = q) p.ext (fun a z => .inl (.inr (.inl z))) (z.grow e1)).mono fun a z => ?_
  exact (s1 a z).imp (p.sub a) id
theorem PostK.set {v : V} {x : D} {i : Nat} (p : PostK F K pa T H0 σ H g v H1 x g1) (hi : i < g1.env.length) : PostSt F K pa pa T H0 σ H g (σ.set i (some v)) H1 (setD g1 i x) :=
  p.n.st.trans (p.rel.stSt hi p.dr)
/-- an own list or dict is changed -/
theorem Rel.stChg {i : Nat} {a : Addr} {sv s1 : Sv} {o' : HO} (r : Rel F K pa T H0 σ H g) (e : g.env[i]? = some (some sv)) (ho : ownB sv = true) (ho1 : ownB s1 = true) (ea : σ[i]? = some (some (.ref a)))
    (hsv : SvR F K pa T (Nv pa T σ g) H0 (upd H a o') g.pen (.ref a) s1) :
    PostSt F K pa pa T H0 σ H g σ (upd H a o') { g with env := g.env.set i (some s1) } := by
  have hi : i < g.env.length := (List.getElem?_eq_some_iff.mp e).1
  have hown : Own σ g i a := ⟨sv, e, ho, ea⟩
  obtain ⟨⟨u0, ha, tk⟩, e4, e5, e6⟩ := r.ownA hown
  have at_ : ∀ j sv, (g.env.set i (some s1))[j]? = some (some sv) → (j = i ∧ sv = s1) ∨ (j ≠ i ∧ g.env[j]? = some (some sv)) := fun j sv h' => by
    by_cases hj : i = j
    · subst hj
      rw [List.getElem?_set_self hi] at h'
      cases h'
      exact .inl ⟨rfl, rfl⟩
    · rw [List.getElem?_set_ne hj] at h'
      exact .inr ⟨fun z => hj z.symm, h'⟩
  have own : ∀ j b, Own σ { g with env := g.env.set i (some s1) } j b → Own σ g j b := fun j b ⟨zs, h1, hz, h2⟩ => by
    rcases at_ j _ h1 with ⟨rfl, _⟩ | ⟨_, q1⟩
    · exact ⟨sv, e, ho, h2⟩
    · exact ⟨zs, q1, hz, h2⟩
  have sub : ∀ b, Nv pa T σ { g with env := g.env.set i (some s1) } b → Nv pa T σ g b := fun b z => z.imp id fun z => z.imp id fun ⟨j, z⟩ => ⟨j, own j b z⟩
  have hN : Nv pa T σ g a := .inr (.inr ⟨i, hown⟩)
  have x1 : Ext (fun b => b = a) H (upd H a o') := .putX rfl ha tk
  have hm : ∀ b, b = a → Nv pa T σ g b := fun b z => z ▸ hN
  have nb : ∀ b, ¬ Nv pa T σ g b → b ≠ a := fun b n z => n (z ▸ hN)
  have hx : ∀ b φ, ¬ Nv pa T σ g b → H b = some (.ext φ) → ¬ Nv pa T σ { g with env := g.env.set i (some s1) } b ∧ upd H a o' b = some (.ext φ) := fun b φ n z => ⟨fun y => n (sub b y), (upd_ne (nb b n)).trans z⟩
  refine ⟨⟨by show σ.length = (g.env.set i (some s1)).length; rw [List.length_set]; exact r.len, fun j sv h => ?_, fun j k b h1 h2 => r.ap j k b (own j b h1) (own k b h2), fun zs h => ?_, fun b z => ?_, r.x0.skipX e4 ha tk, r.tb, fun j k js h => ?_⟩, fun h => ⟨rfl, h⟩, fun v d q => (DR.ext x1 hm q).mono sub, rfl⟩
  · rcases at_ j sv h with ⟨rfl, rfl⟩ | ⟨hj, q1⟩
    · exact ⟨.ref a, ea, hsv.go (.refl _ _) (fun a z => .inr (.inl z)) sub (fun _ z => z) rfl⟩
    · obtain ⟨u, f1, f2⟩ := r.sl j sv q1
      refine ⟨u, f1, ?_⟩
      cases sv with
      | d x => exact (DR.ext x1 hm f2).mono sub
      | own zs =>
        obtain ⟨b, us, g1, g2, g3, g4, g5, g6⟩ := f2
        subst g1
        have nb : b ≠ a := fun z => hj (r.ap j i a ⟨.own zs, q1, rfl, by rw [f1, z]⟩ hown)
        exact ⟨b, us, rfl, (upd_ne nb).trans g2, (DRs.ext x1 hm g3).mono sub, g4, g5, g6⟩
      | dic t zs =>
        obtain ⟨b, us, g1, g2, g3, g4, g5, g6⟩ := f2
        subst g1
        have nb : b ≠ a := fun z => hj (r.ap j i a ⟨.dic t zs, q1, rfl, by rw [f1, z]⟩ hown)
        exact ⟨b, us, rfl, (upd_ne nb).trans g2, (EntR.ext x1 hm g3).mono sub, g4, g5, g6⟩
      | scr ns =>
        obtain ⟨b, h1, h2⟩ := f2
        refine ⟨b, h1, h2.imp (fun ⟨f1, ob, f2⟩ => ⟨f1, ob, (upd_ne fun z => ?_).trans f2⟩) id⟩
        obtain ⟨v0, w1, w2⟩ := r.sl i sv e
        rw [ea] at w1
        cases w1
        cases sv with
        | own _ => obtain ⟨b', _, w3, w4, _⟩ := w2; cases w3; rw [z, w4] at f2; cases f2
        | dic _ _ => obtain ⟨b', _, w3, w4, _⟩ := w2; cases w3; rw [z, w4] at f2; cases f2
        | _ => cases ho
      | pen => exact f2
      | fn k cs => exact CvR.trans (fun _ _ z => (DR.ext x1 hm z).mono sub) hx (crH.mv hx) f2
      | ofn k js => exact OFn.trans hx f2
  · obtain ⟨q1, us, q2, q3⟩ := r.pn zs h
    have nb : pa ≠ a := fun z => e6 ⟨by rw [show g.pen = some zs from h]; rfl, z.symm⟩
    exact ⟨q1, us, (upd_ne nb).trans q2, (DRs.ext x1 hm q3).mono sub⟩
  · obtain ⟨o, h1, h2⟩ := r.td b z
    exact ⟨o, (upd_ne fun (w : b = a) => e5 (w ▸ z)).trans h1, h2⟩
  · rcases at_ j _ h with ⟨_, z⟩ | ⟨_, q1⟩
    · rw [← z] at ho1
      cases ho1
    · exact r.fo j k js q1
theorem Rel.stApp {i : Nat} {a : Addr} {xs ys : List D} {vs ws : List V} (r : Rel F K pa T H0 σ H g) (e : g.env[i]? = some (some (.own xs))) (ea : σ[i]? = some (some (.ref a))) (ha : H a = some (.lst vs)) (hd : DRs K (Nv pa T σ g) H ws ys) :
    PostSt F K pa pa T H0 σ H g σ (upd H a (.lst ws)) (setOwn g i ys) := by
  obtain ⟨a', vs', e1, e2, e3, e4, e5, e6⟩ := r.own e
  rw [ea] at e1
  cases e1
  have hN : Nv pa T σ g a := .inr (.inr ⟨i, .own xs, e, rfl, ea⟩)
  exact r.stChg (s1 := .own ys) e rfl rfl ea ⟨a, ws, rfl, upd_same, DRs.ext (m := fun b => b = a) (.put rfl ha) (fun b z => z ▸ hN) hd, e4, e5, e6⟩
/-- the pen is written -/
theorem Rel.stPenPut {xs ys : List D} {vs ws : List V} (r : Rel F K pa T H0 σ H g) (e : g.pen = some xs) (ha : H pa = some (.lst vs)) (hd : DRs K (Nv pa T σ g) H ws ys) :
    PostSt F K pa pa T H0 σ H g σ (upd H pa (.lst ws)) { g with pen := some ys } := by
  have hpm : pm pa g.pen pa := ⟨by rw [e]; rfl, rfl⟩
  have ep : pm pa (some ys) = pm pa g.pen := pm_eq (by rw [e]; rfl)
  have sub : ∀ b, Nv pa T σ { g with pen := some ys } b → Nv pa T σ g b := fun b z => z.imp id fun z => z.imp (fun z => by rw [← ep]; exact z) id
  have x1 : Ext (pm pa g.pen) H (upd H pa (.lst ws)) := .put hpm ha
  have hm : ∀ b, pm pa g.pen b → Nv pa T σ g b := fun b z => .inr (.inl z)
  refine ⟨⟨r.len, fun j sv h => ?_, r.ap, fun zs h => ?_, fun b z => ?_, (r.x0.trans x1).mono fun a z => by show pm pa (some ys) a; rw [ep]; exact z, r.tb, r.fo⟩, fun _ => ⟨rfl, rfl⟩, fun v d q => (DR.ext x1 hm q).mono sub, rfl⟩
  · obtain ⟨u, f1, f2⟩ := r.sl j sv h
    exact ⟨u, f1, f2.go x1 hm sub (fun _ z => z) (by rw [e]; rfl)⟩
  · cases (show some ys = some zs from h)
    exact ⟨(r.pn xs e).1, ws, upd_same, (DRs.ext x1 hm hd).mono sub⟩
  · obtain ⟨o, h1, h2⟩ := r.td b z
    exact ⟨o, (upd_ne fun (w : b = pa) => (r.pn xs e).1 (w ▸ z)).trans h1, h2⟩
/-- the pen is made -/
theorem PostE.mkPen {v : V} {xs : List D} {i : Nat} (rl : Rel F K pa T H0 σ H g) (p : PostE F K pa T H0 σ H g v H1 (.fr xs) g1) (hi : i < g1.env.length) (hn : g1.pen = none) :
    ∃ pa', PostSt F K pa pa' T H0 σ H g (σ.set i (some v)) H1 { env := g1.env.set i (some .pen), pen := some xs } := by
  obtain ⟨q, vs, rfl, e1, e2, e3, e4⟩ := p.vr
  have r : Rel F K pa (fun a => T a ∨ a = q) H0 σ H1 g1 := p.rel.mono fun a z => z.imp id fun z => by rw [z]
  have hg : g.pen.isSome = false := by rw [← p.pen, hn]; rfl
  have hiσ : i < σ.length := by rw [r.len]; exact hi
  refine ⟨q, ?_⟩
  have nopm : ∀ a, ¬ pm pa g1.pen a := fun a z => by rw [hn] at z; cases z.1
  have at_ : ∀ j sv, (g1.env.set i (some Sv.pen))[j]? = some (some sv) → (j = i ∧ sv = .pen) ∨ (j ≠ i ∧ g1.env[j]? = some (some sv) ∧ (σ.set i (some (V.ref q)))[j]? = σ[j]?) := fun j sv h' => by
    by_cases hj : i = j
    · subst hj
      rw [List.getElem?_set_self hi] at h'
      cases h'
      exact .inl ⟨rfl, rfl⟩
    · rw [List.getElem?_set_ne hj] at h'
      exact .inr ⟨fun z => hj z.symm, h', List.getElem?_set_ne hj⟩
  have own : ∀ j a, Own (σ.set i (some (V.ref q))) { env := g1.env.set i (some .pen), pen := some xs } j a → Own σ g1 j a := fun j a ⟨sv, h1, ho, h2⟩ => by
    rcases at_ j _ h1 with ⟨_, z⟩ | ⟨q0, q1, q2⟩
    · rw [z] at ho
      cases ho
    · exact ⟨sv, q1, ho, q2.symm.trans h2⟩
  have sub : ∀ a, Nv q T (σ.set i (some (V.ref q))) { env := g1.env.set i (some .pen), pen := some xs } a → Nv pa T σ g1 a ∨ a = q := by
    rintro a (z | z | ⟨j, z⟩)
    · exact .inl (.inl z)
    · exact .inr z.2
    · exact .inl (.inr (.inr ⟨j, own j a z⟩))
  have sub2 : ∀ a, Nv q T (σ.set i (some (V.ref q))) { env := g1.env.set i (some .pen), pen := some xs } a → Nv pa (fun a => T a ∨ a = q) σ g1 a := fun a z => by
    rcases sub a z with (z | z) | z
    · exact .inl (.inl z)
    · exact .inr z
    · exact .inl (.inr z)
  refine ⟨⟨by rw [List.length_set]; show σ.length = (g1.env.set i (some Sv.pen)).length; rw [List.length_set]; exact r.len, fun j sv h => ?_, fun j k a h1 h2 => r.ap j k a (own j a h1) (own k a h2), fun ys h => ?_, fun a z => r.td a (.inl z), r.x0.mono fun a z => absurd z (nopm a), r.tb, fun j k js h => ?_⟩, (fun h => by rw [hg] at h; cases h), fun v d z => ?_, List.length_set ..⟩
  · rcases at_ j sv h with ⟨rfl, rfl⟩ | ⟨_, q1, q2⟩
    · exact ⟨.ref q, List.getElem?_set_self hiσ, rfl, rfl⟩
    · obtain ⟨u, f1, f2⟩ := r.sl j sv q1
      refine ⟨u, q2.trans f1, ?_⟩
      have hx : ∀ a φ, ¬ Nv pa (fun a => T a ∨ a = q) σ g1 a → H1 a = some (.ext φ) → ¬ Nv q T (σ.set i (some (V.ref q))) { env := g1.env.set i (some .pen), pen := some xs } a ∧ H1 a = some (.ext φ) := fun a φ n z => ⟨fun y => n (sub2 a y), z⟩
      cases sv with
      | d x => exact DR.mono sub2 f2
      | own ys =>
        obtain ⟨b, us, g1, g2, g3, g4, g5, g6⟩ := f2
        exact ⟨b, us, g1, g2, g3.mono sub2, g4, fun z => g5 (.inl z), fun z => g5 (.inr z.2)⟩
      | dic t ys =>
        obtain ⟨b, us, g1, g2, g3, g4, g5, g6⟩ := f2
        exact ⟨b, us, g1, g2, g3.mono sub2, g4, fun z => g5 (.inl z), fun z => g5 (.inr z.2)⟩
      | scr ns =>
        obtain ⟨b, h1, h2⟩ := f2
        refine ⟨b, h1, h2.imp (fun ⟨f1, ob, f2⟩ => ⟨fun z => ?_, ob, f2⟩) id⟩
        rw [z.2, e2] at f2
        cases f2
      | pen => exact absurd f2.2 (by rw [hn]; decide)
      | fn k cs => exact CvR.trans (fun _ _ z => z.mono sub2) hx (crH.mv hx) f2
      | ofn k js => exact OFn.trans hx f2
  · cases (show some xs = some ys from h)
    exact ⟨e4, vs, e2, e3.mono sub⟩
  · rcases at_ j _ h with ⟨_, z⟩ | ⟨_, q1, _⟩
    · cases z
    · exact r.fo j k js q1
  · refine (DR.ext (N := fun a => Nv pa T σ g a ∨ a = q) p.ext (fun a z => .inl (.inr (.inl z))) (z.grow e1)).mono fun a z => ?_
    exact (sub a z).imp (p.sub a) id
/-- a name takes a function that was just made -/
theorem Rel.stFn {v : V} {k i : Nat} {js : List Nat} (r : Rel F K pa T H0 σ H g) (hi : i < g.env.length) (hf : i ∈ F.fs) (h : OFn F (Nv pa T σ g) H v k js) :
    PostSt F K pa pa T H0 σ H g (σ.set i (some v)) H { g with env := g.env.set i (some (.ofn k js)) } := by
  have hiσ : i < σ.length := by rw [r.len]; exact hi
  have at_ : ∀ j sv, (g.env.set i (some (Sv.ofn k js)))[j]? = some (some sv) → (j = i ∧ sv = .ofn k js) ∨ (j ≠ i ∧ g.env[j]? = some (some sv) ∧ (σ.set i (some v))[j]? = σ[j]?) := fun j sv h' => by
    by_cases hj : i = j
    · subst hj
      rw [List.getElem?_set_self hi] at h'
      cases h'
      exact .inl ⟨rfl, rfl⟩
    · rw [List.getElem?_set_ne hj] at h'
      exact .inr ⟨fun z => hj z.symm, h', List.getElem?_set_ne hj⟩
  have own : ∀ j a, Own (σ.set i (some v)) { g with env := g.env.set i (some (.ofn k js)) } j a → Own σ g j a := fun j a ⟨sv, h1, ho, h2⟩ => by
    rcases at_ j _ h1 with ⟨_, z⟩ | ⟨_, q1, q2⟩
    · rw [z] at ho
      cases ho
    · exact ⟨sv, q1, ho, q2.symm.trans h2⟩
  have sub : ∀ a, Nv pa T (σ.set i (some v)) { g with env := g.env.set i (some (.ofn k js)) } a → Nv pa T σ g a := fun a z => z.imp id fun z => z.imp id fun ⟨i, z⟩ => ⟨i, own i a z⟩
  refine ⟨⟨by rw [List.length_set]; show σ.length = (g.env.set i (some (Sv.ofn k js))).length; rw [List.length_set]; exact r.len, fun j sv e => ?_, fun i j a h1 h2 => r.ap i j a (own i a h1) (own j a h2), fun xs e => ?_, r.td, r.x0, r.tb, fun j k' js' e => ?_⟩, fun h => ⟨rfl, h⟩, fun v d q => q.mono sub, List.length_set ..⟩
  · rcases at_ j sv e with ⟨rfl, rfl⟩ | ⟨_, q1, q2⟩
    · exact ⟨v, List.getElem?_set_self hiσ, OFn.trans (fun a φ n z => ⟨fun y => n (sub a y), z⟩) h⟩
    · obtain ⟨u, e1, q⟩ := r.sl j sv q1
      exact ⟨u, q2.trans e1, q.go (.refl _ _) (fun a z => .inr (.inl z)) sub (fun _ z => z) rfl⟩
  · obtain ⟨q1, vs, q2, q3⟩ := r.pn xs e
    exact ⟨q1, vs, q2, q3.mono sub⟩
  · rcases at_ j _ e with ⟨rfl, _⟩ | ⟨_, q1, _⟩
    · exact hf
    · exact r.fo j k' js' q1
end
end DL
end
section
set_option Elab.async false
set_option linter.all false
set_option maxRecDepth 100000
set_option autoImplicit false
set_option maxHeartbeats 4000000
/-! DL, part r: statements checked and run. -/
namespace DL
open PySem PySem.Spec PyProof.Rows L2
variable [Tabs]

def isComp : Expr → Bool
  | .ListComp .. | .SetComp .. | .DictComp .. => true
  | _ => false
def isTupE : Expr → Bool
  | .Tuple .. => true
  | _ => false
/-- is the comprehension's list stored straight into the name? -/
def swB (sc : Scope) (x : Str) (px : Pos) (v : Expr) : Bool := match v with
  | .ListComp _ _ scope vpos => lclB sc x && (px.line == vpos.line) && !(scope.names.any fun (n, k) => n == x && (k == .local || k == .cell))
  | .DictComp _ _ _ scope vpos => lclB sc x && (px.line == vpos.line) && !(scope.names.any fun (n, k) => n == x && (k == .local || k == .cell))
  | _ => false
def parB (sc : Scope) (x y : Str) (px py : Pos) (a b : Expr) : Bool :=
  lclB sc x && lclB sc y && !(x == y) && (py.line == px.line) && notStar a && notStar b && !([a, b].all (foldedForSure 8)) && !([a, b].all (constantsAlone 8))
def chkA (p : Pgm) (m : Nat) (c : Ct) (s : Stmt) (i : Nat) (e : IE) : Bool := match s with
  | .Assign [.Name x px] v _ => decide (c.N[i]? = some x) && locB c.sc x && chkE p m c v e && (match v with | .ListComp .. => true | .DictComp .. => true | v => !isComp v)
  | _ => false
def noAnn (a : Arguments) : Bool := a.posonlyargs.isEmpty && a.args.all (fun x => x.annotation.isNone) && a.vararg.isNone && a.kwonlyargs.isEmpty && a.kwarg.isNone
theorem ann_nil {env : Env} {l : List Arg} (h : l.all (fun x => x.annotation.isNone) = true) : annotationsOf l env = [] := by
  induction l with
  | nil => rfl
  | cons x l ih =>
    obtain ⟨nm, an, ps⟩ := x
    rw [List.all_cons, Bool.and_eq_true] at h
    cases an with
    | some _ => cases h.1
    | none => exact ih h.2
theorem annTrees_nil {a : Arguments} {env : Env} (h : noAnn a = true) : annTrees a none env = [] := by
  unfold noAnn at h
  simp only [Bool.and_eq_true, List.isEmpty_iff, Option.isNone_iff_eq_none] at h
  obtain ⟨⟨⟨⟨h1, h2⟩, h3⟩, h4⟩, h5⟩ := h
  obtain ⟨po, ar, va, ko, kd, kw, df⟩ := a
  simp only at h1 h2 h3 h4 h5
  subst h1 h3 h4 h5
  show annotationsOf (ar ++ [] ++ [] ++ [] ++ []) env ++ [] = []
  simp only [List.append_nil]
  exact ann_nil h2
def chkS (p : Pgm) (chkSs : Ct → List Stmt → List IS → Bool) (m : Nat) (c : Ct) (s : Stmt) (ir : IS) : Bool :=
  match ir with
  | .nev => true
  | .set i e => chkA p m c s i e
  | .own i e => chkA p m c s i e
  | .pen i e => chkA p m c s i e
  | .unp is e => (match s with
    | .Assign [.Tuple ts k tp] v _ => chkNm c ts is && chkE p m c v e && !isTupE v
    | _ => false)
  | .par i j _ _ a b => (match s with
    | .Assign [.Tuple [.Name x px, .Name y py] _ _] (.Tuple [ea, eb] _ _) _ => decide (c.N[i]? = some x) && decide (c.N[j]? = some y) && decide (i ≠ j) && parB c.sc x y px py ea eb && chkE p m c ea a && chkE p m c eb b
    | _ => false)
  | .app i e => (match s with
    | .Expr (.Call (.Attribute (.Name x _) mm apos) [v] [] cpos) _ => mm == ("append" : Str) && decide (c.N[i]? = some x) && visB c.sc x && okN x && notStar v && chkE p m c v e && (apos.endLine == cpos.line)
    | _ => false)
  | .sto i k e => (match s with
    | .Assign [.Subscript (.Name x _) ke _] v _ => decide (c.N[i]? = some x) && visB c.sc x && okN x && notSlice ke && chkE p m c ke k && chkE p m c v e
    | _ => false)
  | .exp e => (match s with
    | .Expr v _ => chkE p m c v e && !isComp v
    | _ => false)
  | .iff t a b => (match s with
    | .If te as bs _ => chkE p m c te t && chkSs c as a && chkSs c bs b
    | _ => false)
  | .for_ tg ik its body => (match s with
    | .For t it bs els _ => els.isEmpty && decide (ik ≠ .dic) && chkTg c t tg && chkIt (chkE p m c) c t ik its it && chkSs c bs body
    | _ => false)
  | .ret e => (match s with
    | .Return v _ => (match v with | some v => chkE p m c v e | none => false)
    | _ => false)
  | .ndef i k js => (match s with
    | .FunctionDef name params body [] none [] scope none nm2 pos => nm2 == name && decide (c.N[i]? = some name) && locB c.sc name && decide (i ∈ c.fs) && noAnn params && mkB p c k name params (.stmts body) scope pos js
    | _ => false)
  | .aug i e => (match s with
    | .AugAssign (.Name x _) op v _ => decide (op = .Add) && decide (c.N[i]? = some x) && locB c.sc x && chkE p m c v e
    | _ => false)
  | .whl t body => (match s with
    | .While te bs els _ => els.isEmpty && chkE p m c te t && chkSs c bs body
    | _ => false)
  | .dput i k v => (match s with
    | .Assign [.Subscript (.Name x _) ke _] ve _ => decide (c.N[i]? = some x) && visB c.sc x && okN x && notSlice ke && chkE p m c ke k && chkE p m c ve v
    | _ => false)
def chkSs (p : Pgm) : Nat → Ct → List Stmt → List IS → Bool
  | 0, _, _, _ => false
  | m + 1, c, ss, is => match ss, is with
    | [], [] => true
    | s :: ss, i :: is => chkS p (chkSs p m) m c s i && chkSs p m c ss is
    | _, _ => false

def SndS (P : Program) (w : World) (K : Fg) (mg : Str → Option Value) (base : Heap) (p : Pgm) (n : Nat) : Prop :=
  ∀ F X c sts irs m, XO P w K mg base p n F X c → XG X c → chkSs p m c sts irs = true → OKss F X (wSs X sts) ((ev p.fns n).ss irs)
section
variable {P : Program} {w : World} {K : Fg} {mg : Str → Option Value} {base : Heap} {p : Pgm} {n m : Nat} {F : Fm} {X : Cx} {c : Ct} {E : Ev}
theorem blockK {env : Env} (h : env.scope.kind = .function) : env.blockKind = .function := by
  unfold Env.blockKind
  rw [h]
  rfl
theorem swaps_no {v t : Expr} {line : Nat} {env : Env} (h : isComp v = false) : swapsWith v (some t) line env = pure false := by
  cases v <;> first | rfl | cases h
theorem swaps_lc {elt : Expr} {gs : List Comprehension} {scope : Scope} {vpos px : Pos} {x : Str} {line : Nat} {env : Env} (hk : env.scope.kind = .function) :
    swapsWith (.ListComp elt gs scope vpos) (some (.Name x px)) line env = pure (swB env.scope x px (.ListComp elt gs scope vpos)) := by
  have e : (env.blockKind == ScopeKind.function) = true := by rw [blockK hk]; rfl
  have e2 : (env.kindOf x == some NameKind.local) = lclB env.scope x := by
    unfold lclB
    show (env.scope.names.lookup x == some NameKind.local) = _
    cases q : env.scope.names.lookup x with
    | none => rfl
    | some k => cases k <;> rfl
  show (pure (env.blockKind == ScopeKind.function && env.kindOf x == some NameKind.local && px.line == vpos.line && !(scope.names.any fun (n, k) => n == x && (k == NameKind.local || k == NameKind.cell))) : Sem Bool) = _
  rw [e, e2]
  rfl
theorem swaps_dc {kx vx : Expr} {gs : List Comprehension} {scope : Scope} {vpos px : Pos} {x : Str} {line : Nat} {env : Env} (hk : env.scope.kind = .function) :
    swapsWith (.DictComp kx vx gs scope vpos) (some (.Name x px)) line env = pure (swB env.scope x px (.DictComp kx vx gs scope vpos)) := by
  have e : (env.blockKind == ScopeKind.function) = true := by rw [blockK hk]; rfl
  have e2 : (env.kindOf x == some NameKind.local) = lclB env.scope x := by
    unfold lclB
    show (env.scope.names.lookup x == some NameKind.local) = _
    cases q : env.scope.names.lookup x with
    | none => rfl
    | some k => cases k <;> rfl
  show (pure (env.blockKind == ScopeKind.function && env.kindOf x == some NameKind.local && px.line == vpos.line && !(scope.names.any fun (n, k) => n == x && (k == NameKind.local || k == NameKind.cell))) : Sem Bool) = _
  rw [e, e2]
  rfl
theorem lcl_of {sc : Scope} {s : Str} (h : lclB sc s = true) : sc.names.lookup s = some .local := by
  unfold lclB at h
  split at h
  · assumption
  · cases h
/-- name = value -/
theorem ok_assign (S : Snd P w K mg base p n) (O : XO P w K mg base p (n + 1) F X c) (G1 : XG X c) {s : Stmt} {i : Nat} {ir : IE} (hc : chkA p m c s i ir = true) {g g1 : G} {r : R} (q : stE (ev p.fns n) ir g = some (r, g1))
    {pa : Addr} {T : AS} {H0 H : Hp} {σ : L2.St} {D : Ends} (hlen : σ.length = X.N.length) (rl : Rel F X.K pa T H0 σ H g) (kk : i < σ.length → ∀ v H', PostE F X.K pa T H0 σ H g v H' r g1 → D.nx (σ.set i (some v)) H') : wS X s D σ H := by
  unfold chkA at hc
  split at hc
  · rename_i x px v pos
    simp only [Bool.and_eq_true, decide_eq_true_eq] at hc
    obtain ⟨⟨⟨h1, h2⟩, h3⟩, h4⟩ := hc
    obtain ⟨l1, l2⟩ := G1.st x h2
    have hN : X.N[i]? = some x := by rw [← O.cN]; exact h1
    have hi : i < σ.length := by rw [hlen]; exact (List.getElem?_eq_some_iff.mp hN).1
    have O' : XO P w K mg base p n F X c := O.le (Nat.le_succ n)
    have plain : swapsWith v (some (.Name x px)) pos.line X.env = pure false → wS X (.Assign [.Name x px] v pos) D σ H := fun hs =>
      wS_of (ps_set O.nd hN l1 pe_w hs l2) (snd_e S m F X c v ir O h3 g r g1 q pa T H0 σ H _ rl fun v H' p1 => kk hi v H' p1)
    cases v with
    | ListComp elt gs scope vpos =>
      cases hsw : swB X.env.scope x px (.ListComp elt gs scope vpos) with
      | false => exact plain (by rw [swaps_lc O.kf, hsw])
      | true =>
        cases m with
        | zero => cases h3
        | succ m =>
          have hloc : X.env.scope.names.lookup x = some .local := by
            have h5 := hsw
            unfold swB at h5
            simp only [Bool.and_eq_true] at h5
            exact lcl_of h5.1.1
          cases ir with
          | lc ielt tg ik its cond own =>
            simp only [chkE] at h3
            split at h3
            · rename_i t it ifs
              have L := lc_parts (m := m) S O' h3
              have bk := L.bk O'
              have he : ∀ e i, chkE p m c e i = true → OKe F X e ((ev p.fns n).e i) := fun e i q => S.e F X c e i m O' q
              refine wS_of (ps_setLc (g := tgG X.K tg) O.calm O.nd hN hloc (by rw [swaps_lc O.kf, hsw]) pi_w bk (fun s H1 C cl fp => pg_tg (XG.blk O' s H1 C cl fp) L.htg) L.cnd (LcOk.el X scope elt) (folded L.set)) ?_
              rw [nmOf_ix]
              exact lc_read O' he bk.kind L.htg L.how L.hit L.hel L.hcn q hlen rl fun v H' p1 => kk hi v H' p1
            · cases h3
          | _ => cases h3
    | SetComp _ _ _ _ => cases h4
    | DictComp kx vx gs scope vpos =>
      cases hsw : swB X.env.scope x px (.DictComp kx vx gs scope vpos) with
      | false => exact plain (by rw [swaps_dc O.kf, hsw])
      | true =>
        cases m with
        | zero => cases h3
        | succ m =>
          have hloc : X.env.scope.names.lookup x = some .local := by
            have h5 := hsw
            unfold swB at h5
            simp only [Bool.and_eq_true] at h5
            exact lcl_of h5.1.1
          cases ir with
          | dcomp t ik iv di ii =>
            simp only [chkE] at h3
            split at h3
            · simp only [Bool.and_eq_true] at h3
              obtain ⟨⟨⟨⟨⟨rfl, g1'⟩, g2'⟩, g3'⟩, g4'⟩, g5'⟩ := h3
              have L := dc_parts (m := m) S O' (by simp only [Bool.and_eq_true]; exact ⟨⟨⟨⟨g1', g2'⟩, g3'⟩, g4'⟩, g5'⟩)
              have bk := L.bk O'
              have he : ∀ e i, chkE p m c e i = true → OKe F X e ((ev p.fns n).e i) := fun e i q => S.e F X c e i m O' q
              refine wS_of (ps_setDcX O.hu9 (gt := tgG X.K (.one di)) O.calm O.nd hN hloc (by rw [swaps_dc O.kf, hsw]) pi_w bk (fun s H1 C cl fp => pg_tg (XG.blk O' s H1 C cl fp) L.htg) (fun s H1 C cl fp => (⟨fun pins s' σ H Q I h => h s H1 C cl fp pins s' I⟩ : PE (X.blk s H1 scope (compEnvC scope cl C X.env) fp) kx (wEb X scope kx))) (fun s H1 C cl fp => (⟨fun pins s' σ H Q I h => h s H1 C cl fp pins s' I⟩ : PE (X.blk s H1 scope (compEnvC scope cl C X.env) fp) vx (wEb X scope vx))) (folded L.set)) ?_
              rw [nmOf_ix]
              exact dc_read O' he L.htg L.hit L.hk L.hv q hlen rl fun v H' p1 => kk hi v H' p1
            · cases h3
          | _ => cases h3
    | _ => exact plain (swaps_no rfl)
  · cases hc
theorem ok_S_set (S : Snd P w K mg base p n) (O : XO P w K mg base p (n + 1) F X c) (G1 : XG X c) {s : Stmt} {i : Nat} {e : IE} (hc : chkA p m c s i e = true) : OKss F X (wS X s) (stS (ev p.fns n) (.set i e)) := by
  intro g fl g' q pa T H0 σ H D hlen rl kn kr
  simp only [stS] at q
  cases e1 : stE (ev p.fns n) e g with
  | none => simp only [e1] at q; cases q
  | some rg =>
    obtain ⟨r, g1⟩ := rg
    simp only [e1] at q
    cases e2 : keepR r g1 with
    | none => simp only [e2] at q; cases q
    | some dg =>
      obtain ⟨d, g2⟩ := dg
      simp only [e2, Option.map_some, Option.some.injEq, Prod.mk.injEq] at q
      obtain ⟨rfl, rfl⟩ := q
      refine ok_assign S O G1 hc e1 hlen rl fun hi v H' p1 => ?_
      have k1 := p1.keep e2
      exact kn rfl _ _ _ (k1.set (by rw [← k1.rel.len]; exact hi))
theorem ok_S_own (S : Snd P w K mg base p n) (O : XO P w K mg base p (n + 1) F X c) (G1 : XG X c) {s : Stmt} {i : Nat} {e : IE} (hc : chkA p m c s i e = true) : OKss F X (wS X s) (stS (ev p.fns n) (.own i e)) := by
  intro g fl g' q pa T H0 σ H D hlen rl kn kr
  simp only [stS] at q
  split at q
  · rename_i xs g1 e1
    simp only [Option.some.injEq, Prod.mk.injEq] at q
    obtain ⟨rfl, rfl⟩ := q
    refine ok_assign S O G1 hc e1 hlen rl fun hi v H' p1 => ?_
    exact kn rfl _ _ _ (p1.own rl (by rw [← p1.rel.len]; exact hi))
  · rename_i t kvs g1 e1
    simp only [Option.some.injEq, Prod.mk.injEq] at q
    obtain ⟨rfl, rfl⟩ := q
    refine ok_assign S O G1 hc e1 hlen rl fun hi v H' p1 => ?_
    exact kn rfl _ _ _ (p1.ownDic rl (by rw [← p1.rel.len]; exact hi))
  · cases q
theorem ok_S_pen (S : Snd P w K mg base p n) (O : XO P w K mg base p (n + 1) F X c) (G1 : XG X c) {s : Stmt} {i : Nat} {e : IE} (hc : chkA p m c s i e = true) : OKss F X (wS X s) (stS (ev p.fns n) (.pen i e)) := by
  intro g fl g' q pa T H0 σ H D hlen rl kn kr
  simp only [stS] at q
  split at q
  · rename_i xs g1 e1
    by_cases hp : g1.pen.isSome = true
    · rw [if_pos hp] at q; cases q
    · rw [if_neg hp] at q
      simp only [Option.some.injEq, Prod.mk.injEq] at q
      obtain ⟨rfl, rfl⟩ := q
      refine ok_assign S O G1 hc e1 hlen rl fun hi v H' p1 => ?_
      obtain ⟨pa', st⟩ := p1.mkPen (i := i) rl (by rw [← p1.rel.len]; exact hi) (by
        cases h : g1.pen with
        | none => rfl
        | some _ => rw [h] at hp; exact absurd rfl hp)
      exact kn rfl pa' _ _ st
  · cases q
theorem ok_S_unp (O : XO P w K mg base p n F X c) (G1 : XG X c) (he : ∀ e i, chkE p m c e i = true → OKe F X e (E.e i)) {ts : List Expr} {k : Nat} {tp pos : Pos} {v : Expr} {is : List Nat} {e : IE} (h1 : chkNm c ts is = true) (h2 : chkE p m c v e = true) (h3 : isTupE v = false) :
    OKss F X (wS X (.Assign [.Tuple ts k tp] v pos)) (stS E (.unp is e)) := by
  intro g fl g' q pa T H0 σ H D hlen rl kn kr
  simp only [stS] at q
  cases e1 : E.e e g with
  | none => simp only [e1] at q; cases q
  | some rg =>
    obtain ⟨r, g1⟩ := rg
    simp only [e1] at q
    split at q
    · rename_i ds g2 e2
      cases e3 : setDs g2 is ds with
      | none => simp only [e3] at q; cases q
      | some g3 =>
        simp only [e3, Option.map_some, Option.some.injEq, Prod.mk.injEq] at q
        obtain ⟨rfl, rfl⟩ := q
        have hs : swapsWithSole [.Tuple ts k tp] v pos.line X.env = pure false := by
          show swapsWith v (some (.Tuple ts k tp)) pos.line X.env = pure false
          cases v <;> rfl
        have hw : swappedStores [.Tuple ts k tp] v X.env = pure none := by cases v <;> first | rfl | cases h3
        refine wS_of (ps_asg pe_w (pg_tg (t := .many is) G1 (e := .Tuple ts k tp) h1) hs hw rfl) (he v e h2 g r g1 e1 pa T H0 σ H _ rl fun v1 H1 p1 => ?_)
        have k1 := p1.keep e2
        refine asg_ok (t := .many is) (x := .tuple ds) (g := g2) (g' := g3) e3 (fun j hj => ?_) k1.rel k1.dr fun σ' r2 s2 w2 p2 => ?_
        · have h5 := chkTg_lt (c := c) (e := .Tuple ts k tp) (t := .many is) h1 j hj
          rw [← k1.rel.len, hlen, ← O.cN]
          exact h5
        · refine kn rfl pa σ' H1 (k1.n.st.trans ⟨r2, fun h => ⟨rfl, by rw [p2]; exact h⟩, fun v d z => z.mono s2, ?_⟩)
          have h6 := congrArg List.length w2
          rw [L2.wipe_length, L2.wipe_length] at h6
          exact h6
    · cases q
theorem ok_S_app (O : XO P w K mg base p n F X c) (he : ∀ e i, chkE p m c e i = true → OKe F X e (E.e i)) {x : Str} {i : Nat} {px apos cpos pos : Pos} {v : Expr} {e : IE} (h1 : c.N[i]? = some x) (h2 : visB c.sc x = true) (h3 : okN x = true) (h4 : notStar v = true) (h5 : chkE p m c v e = true) (h6 : (apos.endLine == cpos.line) = true) :
    OKss F X (wS X (.Expr (.Call (.Attribute (.Name x px) "append" apos) [v] [] cpos) pos)) (stS E (.app i e)) := by
  intro g fl g' q pa T H0 σ H D hlen rl kn kr
  simp only [stS] at q
  split at q
  · rename_i xs0 e0
    cases e1 : E.e e g with
    | none => simp only [e1] at q; cases q
    | some rg =>
      obtain ⟨r, g1⟩ := rg
      simp only [e1] at q
      cases e2 : keepR r g1 with
      | none => simp only [e2] at q; cases q
      | some dg =>
        obtain ⟨d, g2⟩ := dg
        simp only [e2] at q
        split at q
        · rename_i xs e3
          by_cases hz : xs.length < szL
          · rw [if_pos hz] at q
            simp only [Option.some.injEq, Prod.mk.injEq] at q
            obtain ⟨rfl, rfl⟩ := q
            obtain ⟨n1, n2, _⟩ := okN_of h3
            have pv : PE X (.Name x px) (tVar i) := pe_var (by rw [← O.cN]; exact h1) (by rw [← O.cs]; exact vis_of h2) n1 n2
            obtain ⟨a, vs0, f1, f2, _⟩ := rl.own e0
            refine wS_of (ps_expr (pe_bm PySem.F.plainAttrs_list PySem.F.slot_list_append PySem.F.type_list_append mt_append pv (pa_cons pe_w pa_nil (star_cons h4)) rfl (few_one h4) h6 (star_cons h4) rfl)) ?_
            refine ⟨.ref a, f1, .inl ⟨rfl, vs0, .of f2⟩, ?_⟩
            refine he v e h5 g r g1 e1 pa T H0 σ H _ rl fun v1 H1 p1 => ?_
            have k1 := p1.keep e2
            obtain ⟨a', vs, b1, b2, b3, _⟩ := k1.rel.own e3
            rw [f1] at b1
            cases b1
            refine ⟨a, vs, v1, rfl, rfl, b2, by rw [b3.length, ← szL_eq]; exact hz, ?_⟩
            exact kn rfl pa σ _ (k1.n.st.trans (k1.rel.stApp e3 f1 b2 (b3.append (.cons k1.dr .nil))))
          · rw [if_neg hz] at q; cases q
        · cases q
  · cases q
theorem ok_S_sto (O : XO P w K mg base p n F X c) (he : ∀ e i, chkE p m c e i = true → OKe F X e (E.e i)) {x : Str} {i : Nat} {px ps pos : Pos} {v ke : Expr} {e k : IE} (h1 : c.N[i]? = some x) (h2 : visB c.sc x = true) (h3 : okN x = true) (h4 : notSlice ke = true) (h5 : chkE p m c ke k = true) (h6 : chkE p m c v e = true) :
    OKss F X (wS X (.Assign [.Subscript (.Name x px) ke ps] v pos)) (stS E (.sto i k e)) := by
  intro g fl g' q pa T H0 σ H D hlen rl kn kr
  simp only [stS] at q
  cases e1 : E.e e g with
  | none => simp only [e1] at q; cases q
  | some rg =>
    obtain ⟨r, g1⟩ := rg
    simp only [e1] at q
    cases e2 : keepR r g1 with
    | none => simp only [e2] at q; cases q
    | some dg =>
      obtain ⟨d, g2⟩ := dg
      simp only [e2] at q
      split at q
      case h_2 => cases q
      rename_i sv0 e0
      cases e3 : rd1 E k g2 with
      | none => simp only [e3] at q; cases q
      | some t3 =>
        obtain ⟨j, g3⟩ := t3
        cases j with
        | int j =>
          simp only [e3] at q
          obtain ⟨n1, n2, _⟩ := okN_of h3
          have pv : PE X (.Name x px) (tVar i) := pe_var (by rw [← O.cN]; exact h1) (by rw [← O.cs]; exact vis_of h2) n1 n2
          have hs : swapsWithSole [.Subscript (.Name x px) ke ps] v pos.line X.env = pure false := by
            show swapsWith v (some (.Subscript (.Name x px) ke ps)) pos.line X.env = pure false
            cases v <;> rfl
          have hgsub : ∀ u, assign (.Subscript (.Name x px) ke ps) X.env u = (do
              let ov ← holding [u] (eval (.Name x px) X.env)
              let iv ← holding [u, ov] (eval ke X.env)
              standAt ps
              holding [u, ov, iv] (setItem ov iv u)
              release [u, ov, iv] []) := by
            intro u
            cases ke <;> first | rfl | cases h4
          refine wS_of (ps_asg pe_w (pg_sub pv pe_w set_list hgsub) hs rfl rfl) (he v e h6 g r g1 e1 pa T H0 σ H _ rl fun v1 H1 p1 => ?_)
          have k1 := p1.keep e2
          -- what the name holds at the end
          cases e4 : g3.env[i]? with
          | none => simp only [e4] at q; cases q
          | some o =>
            cases o with
            | none => simp only [e4] at q; cases q
            | some sv =>
              cases sv with
              | own xs =>
                simp only [e4] at q
                cases e5 : ixN xs.length j with
                | none => simp only [e5] at q; cases q
                | some nn =>
                  simp only [e5, Option.map_some, Option.some.injEq, Prod.mk.injEq] at q
                  obtain ⟨rfl, rfl⟩ := q
                  have hex : ∃ o, σ[i]? = some (some o) := by
                    obtain ⟨o, ho, _⟩ := k1.rel.sl i sv0 e0
                    exact ⟨o, ho⟩
                  obtain ⟨o, ho⟩ := hex
                  refine ⟨o, ho, OKe.rd (he ke k h5) g2 _ g3 e3 pa T H0 σ H1 _ k1.rel fun v2 H2 p2 => ?_⟩
                  obtain ⟨a, vs, b1, b2, b3, _⟩ := p2.rel.own e4
                  rw [ho] at b1
                  cases b1
                  have hx : DR X.K (Nv pa T σ g3) H2 v1 d := (DR.ext p2.ext (fun a z => .inr (.inl z)) k1.dr).mono p2.sub
                  refine ⟨a, vs, j, nn, rfl, p2.tr.int, b2, by rw [b3.length]; exact e5, ?_⟩
                  exact kn rfl pa σ _ ((k1.n.then p2.n).st.trans (p2.rel.stApp e4 ho b2 (b3.set nn hx)))
              | pen =>
                simp only [e4] at q
                cases e6 : g3.pen with
                | none => simp only [e6] at q; cases q
                | some xs =>
                  simp only [e6] at q
                  cases e5 : ixN xs.length j with
                  | none => simp only [e5] at q; cases q
                  | some nn =>
                    simp only [e5, Option.map_some, Option.some.injEq, Prod.mk.injEq] at q
                    obtain ⟨rfl, rfl⟩ := q
                    have hex : ∃ o, σ[i]? = some (some o) := by
                      obtain ⟨o, ho, _⟩ := k1.rel.sl i sv0 e0
                      exact ⟨o, ho⟩
                    obtain ⟨o, ho⟩ := hex
                    refine ⟨o, ho, OKe.rd (he ke k h5) g2 _ g3 e3 pa T H0 σ H1 _ k1.rel fun v2 H2 p2 => ?_⟩
                    obtain ⟨u, hu, hu2⟩ := p2.rel.sl i _ e4
                    rw [ho] at hu
                    cases hu
                    obtain ⟨rfl, _⟩ := hu2
                    obtain ⟨_, vs, b2, b3⟩ := p2.rel.pn xs e6
                    have hx : DR X.K (Nv pa T σ g3) H2 v1 d := (DR.ext p2.ext (fun a z => .inr (.inl z)) k1.dr).mono p2.sub
                    refine ⟨pa, vs, j, nn, rfl, p2.tr.int, b2, by rw [b3.length]; exact e5, ?_⟩
                    exact kn rfl pa σ _ ((k1.n.then p2.n).st.trans (p2.rel.stPenPut e6 b2 (b3.set nn hx)))
              | _ => simp only [e4] at q; cases q
        | _ => simp only [e3] at q; cases q
/-- def name(..): .. -/
theorem ok_S_ndef (O : XO P w K mg base p n F X c) (G1 : XG X c) {name : Str} {params : Arguments} {body : List Stmt} {scope : Scope} {pos : Pos} {i k : Nat} {js : List Nat} (h1 : c.N[i]? = some name) (h2 : locB c.sc name = true) (h3 : i ∈ c.fs) (h4 : noAnn params = true)
    (h : mkB p c k name params (.stmts body) scope pos js = true) : OKss F X (wS X (.FunctionDef name params body [] none [] scope none name pos)) (stS E (.ndef i k js)) := by
  intro g fl g' q pa T H0 σ H D hlen rl kn kr pins s I
  obtain ⟨Pt, cc, M⟩ := mk_ok O h
  simp only [stS, Option.some.injEq, Prod.mk.injEq] at q
  obtain ⟨rfl, rfl⟩ := q
  obtain ⟨hx, hf⟩ := G1.st name h2
  have hN : X.N[i]? = some name := by rw [← O.cN]; exact h1
  have hi : i < g.env.length := by rw [← rl.len, hlen]; exact (List.getElem?_eq_some_iff.mp hN).1
  have hq : qualnameIn X.env name name = c.q ++ name := by
    have e : X.env.qual ++ name = c.q ++ name := M.q
    rw [← e]
    have hk : X.env.kindOf name = some .local ∨ X.env.kindOf name = some .cell := hx
    unfold qualnameIn
    rcases hk with k | k <;> rw [k] <;> first | rfl | exact if_neg (by decide)
  obtain ⟨hfr, inj, dom, caps⟩ := M.caps I.ok
  refine PySem.W.nestDef_K M.df M.kd (annTrees_nil h4) ?_
  rw [hq]
  refine fn_made (C := ⟨name, c.q ++ name, params, .stmts body, scope, frOf c js⟩) I M.tb M.code (rl.tab _ M.mem) M.wk M.nm hfr fun f c' H1 s' I1 Md => ?_
  have r1 := Md.rel rl
  have tk : ∀ a, Nv pa T σ g a → ∃ o, H1 a = some o ∧ H a = some o ∧ TOk a o := fun a z => by
    obtain ⟨o, e, nt⟩ := rl.nv a z
    exact ⟨o, Md.keep _ _ e nt.1, e, nt⟩
  have nfN : ¬ Nv pa T σ g f := fun z => by
    obtain ⟨o, _, e, _⟩ := tk f z
    rw [Md.new] at e
    cases e
  have ncN : ¬ Nv pa T σ g c' := fun z => by
    obtain ⟨o, e, _, nt⟩ := tk c' z
    rw [Md.co] at e
    exact nt.2 _ (Option.some.inj e).symm
  have pn : PostN F X.K pa T H0 σ H g H1 g := ⟨Md.ext _, r1, rfl, fun _ z => z⟩
  have st := pn.st.trans (r1.stFn (i := i) hi (by rw [O.ffs]; exact h3) ⟨f, c', _, _, rfl, M.ck, nfN, Md.fn, ncN, Md.co, inj, dom, M.len, caps⟩)
  exact store_ok I1 O.nd hN hx (v := .ref f) rfl (fun s'' J => ⟨_, H1, J, kn rfl pa _ _ st⟩) hf
/-- while t: .. -/
theorem ok_S_whl (O : XO P w K mg base p n F X c) {te : Expr} {bs : List Stmt} {pos : Pos} {t : IE} {body : List IS} (ht : OKt F X te (E.t t)) (hb : OKss F X (wSs X bs) (E.ss body)) : OKss F X (wS X (.While te bs [] pos)) (stS E (.whl t body)) := by
  intro g fl g' q pa T H0 σ H D hlen rl kn kr
  have q0 : evWh E t body whF g = some (fl, g') := q
  refine wS_of (ps_while (by rw [O.xe]; exact PassesOwn.never) pt_w pss_w) ?_
  let W : Nat → L2.St → Hp → Prop := fun m σi Hi => ∃ pai gi, evWh E t body m gi = some (fl, g') ∧ PostSt F X.K pa pai T H0 σ H g σi Hi gi
  refine ⟨W, ⟨whF, pa, g, q0, .refl rl⟩, ?_⟩
  rintro m σi Hi ⟨pai, gi, ev1, ps⟩
  cases m with
  | zero => cases ev1
  | succ m =>
    unfold evWh at ev1
    cases e1 : E.t t gi with
    | none => rw [e1] at ev1; cases ev1
    | some bg =>
      obtain ⟨b, g1⟩ := bg
      simp only [e1] at ev1
      refine ht gi b g1 e1 pai T H0 σi Hi _ ps.rel fun H1 pn => ?_
      have ps1 := ps.trans pn.st
      cases b with
      | false =>
        rw [if_neg (by decide)]
        simp only [Option.some.injEq, Prod.mk.injEq] at ev1
        obtain ⟨rfl, rfl⟩ := ev1
        exact kn rfl pai σi H1 ps1
      | true =>
        rw [if_pos rfl]
        simp only at ev1
        refine ⟨W m, fun σ' H' z => ⟨m, Nat.lt_succ_self m, z⟩, ?_⟩
        cases e2 : E.ss body g1 with
        | none => rw [e2] at ev1; cases ev1
        | some fg =>
          obtain ⟨f2, g2⟩ := fg
          simp only [e2] at ev1
          refine hb g1 f2 g2 e2 pai T H0 σi H1 _ (by rw [ps1.len]; exact hlen) pn.rel (fun hf pa' σ' H' p' => ?_) (fun r hf pa' σ' H2 g3 v H' p' pe => ?_)
          · subst hf
            exact ⟨pa', g2, ev1, ps1.trans p'⟩
          · subst hf
            simp only [Option.some.injEq, Prod.mk.injEq] at ev1
            obtain ⟨rfl, rfl⟩ := ev1
            exact kr r rfl pa' σ' H2 g3 v H' (ps1.trans p') pe
/-- d[k] = v, by values -/
def rSetX (P : Program) (w : World) (K : Fg) : V → V → V → Hp → (Hp → Prop) → Prop := fun o i v H Q => ∃ (a : Addr) (t : Bool) (q : DE) (kvs : List (D × D)) (kd vd : D) (nk : NestedKey) (N : AS), o = .ref a ∧ H a = some (DicO P w t a q) ∧ EntR K N H q kvs ∧ DR K N H i kd ∧ DR K N H v vd ∧ keyD t kd = some nk ∧ q.es.length < szL ∧
  ∀ q', EntR K N H q' (dstore kvs kd nk vd) → Q (upd H a (DicO P w t a q'))
theorem set_dicX (hu : X.A.units + 9 < cLine) : PSet X (rSetX X.prog X.w X.K) := by
  intro pins s σ H o i v ov iv u Q I ro ri rv h
  obtain ⟨a, t, q, kvs, kd, vd, nk, N, rfl, e1, er, dk, dv, hkey, hz, k⟩ := h
  have ht : t = true := by
    cases t with
    | true => rfl
    | false =>
      obtain ⟨⟨_, _, _, _, z⟩, _⟩ := I.hok a _ e1
      exact z.elim
  subst ht
  obtain rfl : ov = Value.ref a := ro
  obtain ⟨b, rfl, rfl, db, hnk, _⟩ := key_at I (.d dk) ri hkey
  exact dic_put hu I e1 er hnk db dv rv hz fun s' q' J er' => ⟨_, J, k q' er'⟩
theorem ok_S_dput (O : XO P w K mg base p n F X c) (he : ∀ e i, chkE p m c e i = true → OKe F X e (E.e i)) {x : Str} {i : Nat} {px ps pos : Pos} {v ke : Expr} {e k : IE} (h1 : c.N[i]? = some x) (h2 : visB c.sc x = true) (h3 : okN x = true) (h4 : notSlice ke = true) (h5 : chkE p m c ke k = true) (h6 : chkE p m c v e = true) :
    OKss F X (wS X (.Assign [.Subscript (.Name x px) ke ps] v pos)) (stS E (.dput i k e)) := by
  intro g fl g' q pa T H0 σ H D hlen rl kn kr
  simp only [stS] at q
  cases e1 : E.e e g with
  | none => simp only [e1] at q; cases q
  | some rg =>
    obtain ⟨r, g1⟩ := rg
    simp only [e1] at q
    cases e2 : keepR r g1 with
    | none => simp only [e2] at q; cases q
    | some dg =>
      obtain ⟨d, g2⟩ := dg
      simp only [e2] at q
      split at q
      case h_2 => cases q
      rename_i t0 kvs0 e0
      cases e3 : kp1 E k g2 with
      | none => simp only [e3] at q; cases q
      | some xg =>
        obtain ⟨xd, g3⟩ := xg
        simp only [e3] at q
        split at q
        case h_2 => cases q
        rename_i t kvs e4
        cases e5 : keyD t xd with
        | none => simp only [e5] at q; cases q
        | some nk =>
          simp only [e5] at q
          by_cases hz : kvs.length < szL
          case neg => rw [if_neg hz] at q; cases q
          rw [if_pos hz] at q
          simp only [Option.some.injEq, Prod.mk.injEq] at q
          obtain ⟨rfl, rfl⟩ := q
          obtain ⟨n1, n2, _⟩ := okN_of h3
          have pv : PE X (.Name x px) (tVar i) := pe_var (by rw [← O.cN]; exact h1) (by rw [← O.cs]; exact vis_of h2) n1 n2
          have hs : swapsWithSole [.Subscript (.Name x px) ke ps] v pos.line X.env = pure false := by
            show swapsWith v (some (.Subscript (.Name x px) ke ps)) pos.line X.env = pure false
            cases v <;> rfl
          have hgsub : ∀ u, assign (.Subscript (.Name x px) ke ps) X.env u = (do
              let ov ← holding [u] (eval (.Name x px) X.env)
              let iv ← holding [u, ov] (eval ke X.env)
              standAt ps
              holding [u, ov, iv] (setItem ov iv u)
              release [u, ov, iv] []) := by
            intro u
            cases ke <;> first | rfl | cases h4
          refine wS_of (ps_asg pe_w (pg_sub pv pe_w (set_dicX O.hu9) hgsub) hs rfl rfl) (he v e h6 g r g1 e1 pa T H0 σ H _ rl fun v1 H1 p1 => ?_)
          have k1 := p1.keep e2
          obtain ⟨a, _, sa, _⟩ := k1.rel.dic e0
          refine ⟨.ref a, sa, OKe.kp (he ke k h5) g2 xd g3 e3 pa T H0 σ H1 _ k1.rel fun v2 H2 p2 => ?_⟩
          obtain ⟨a', qd, sa', b2, b3, b4, b5, b6⟩ := p2.rel.dic e4
          rw [sa] at sa'
          cases sa'
          have hx : DR X.K (Nv pa T σ g3) H2 v1 d := (DR.ext p2.ext (fun a z => .inr (.inl z)) k1.dr).mono p2.sub
          refine ⟨a, t, qd, kvs, xd, d, nk, Nv pa T σ g3, rfl, by rw [b2, O.fP, O.fw, O.eP, O.ew], b3, p2.dr, hx, e5, by rw [ents_len b3]; exact hz, fun q' er' => ?_⟩
          have hN : Nv pa T σ g3 a := .inr (.inr ⟨i, own_d e4 sa⟩)
          have x1 : Ext (fun b => b = a) H2 (upd H2 a (DicO X.prog X.w t a q')) := .putX rfl b2 (tok_dic _ _ _ _ _)
          refine kn rfl pa σ _ ((k1.n.then p2.n).st.trans (p2.rel.stChg (s1 := .dic t (dstore kvs xd nk d)) e4 rfl rfl sa ⟨a, q', rfl, ?_, EntR.ext x1 (fun b z => z ▸ hN) er', b4, b5, b6⟩))
          rw [O.fP, O.fw, ← O.eP, ← O.ew]
          exact upd_same
/-- x += e, ints -/
theorem ok_S_aug (O : XO P w K mg base p n F X c) (G1 : XG X c) (he : ∀ e i, chkE p m c e i = true → OKe F X e (E.e i)) {x : Str} {px pos : Pos} {i : Nat} {v : Expr} {e : IE} (h1 : c.N[i]? = some x) (h2 : locB c.sc x = true) (h3 : chkE p m c v e = true) : OKss F X (wS X (.AugAssign (.Name x px) .Add v pos)) (stS E (.aug i e)) := by
  intro g fl g' q pa T H0 σ H D hlen rl kn kr
  simp only [stS] at q
  split at q
  case h_2 => cases q
  rename_i a e0
  split at q
  case h_2 => cases q
  rename_i b g1 e1
  simp only [Option.some.injEq, Prod.mk.injEq] at q
  obtain ⟨rfl, rfl⟩ := q
  obtain ⟨hx, hf⟩ := G1.st x h2
  have hN : X.N[i]? = some x := by rw [← O.cN]; exact h1
  obtain ⟨u, f1, f2⟩ := rl.sl i _ e0
  have f3 : u = .int a := DR.int_inv f2
  subst f3
  refine wS_of (ps_aug O.nd hN hx pe_w ip_add hf) ⟨.int a, f1, OKe.rd (he v e h3) g _ g1 e1 pa T H0 σ H _ rl fun y H1 p1 => ?_⟩
  refine ⟨a, b, rfl, p1.tr.int, kn rfl pa _ _ (p1.n.st.trans (p1.rel.stSt (i := i) ?_ (.int _)))⟩
  rw [← p1.rel.len, hlen]
  exact (List.getElem?_eq_some_iff.mp hN).1
end
end DL
end
section
set_option Elab.async false
set_option linter.all false
set_option maxRecDepth 100000
set_option autoImplicit false
set_option maxHeartbeats 4000000
/-! DL, part s: two names at once, branches, loops, blocks. -/
namespace DL
open PySem PySem.Spec PyProof.Rows L2
variable [Tabs]
section
variable {P : Program} {w : World} {K : Fg} {mg : Str → Option Value} {base : Heap} {p : Pgm} {n m : Nat} {F : Fm} {X : Cx} {c : Ct} {E : Ev}
theorem swapped_par {x y : Str} {px py p1 p2 : Pos} {k1 k2 : Nat} {a b : Expr} {env : Env} (hk : env.scope.kind = .function) (h : parB env.scope x y px py a b = true) :
    swappedStores [.Tuple [.Name x px, .Name y py] k1 p1] (.Tuple [a, b] k2 p2) env = pure (some [x, y]) := by
  unfold parB at h
  simp only [Bool.and_eq_true, Bool.not_eq_true'] at h
  obtain ⟨⟨⟨⟨⟨⟨⟨h1, h2⟩, h3⟩, h4⟩, h5⟩, h6⟩, h7⟩, h8⟩ := h
  have l1 : env.kindOf x = some .local := lcl_of h1
  have l2 : env.kindOf y = some .local := lcl_of h2
  have hst : ([a, b].any fun | .Starred .. => true | _ => false) = false := by
    rw [List.any_cons, List.any_cons]
    cases a <;> first | (cases h5; done) | (cases b <;> first | (cases h6; done) | rfl)
  have hp : (py.line == px.line) = true := h4
  have hxy : (y == x) = false := by
    cases q : (y == x) with
    | false => rfl
    | true =>
      have := eq_of_beq q
      subst this
      simp at h3
  unfold swappedStores
  simp only [pure_bind, blockK hk, List.length_cons, List.length_nil, h7, h8, List.filterMap_cons, List.filterMap_nil, l1, l2, List.head?_cons, Option.map_some, Option.getD_some, Expr.pos]
  cases a <;> first | (cases h5; done) | (cases b <;> first | (cases h6; done) | (simp [List.eraseDups_cons, hp, hxy, h4]; done))

/-! ### what is about to be stored -/
def ownQ (v : V) : Sv → AS
  | .own _ => fun a => v = .ref a
  | .dic _ _ => fun a => v = .ref a
  | _ => fun _ => False
def PdV (F : Fm) (K : Fg) (pa : Addr) (T : AS) (H0 : Hp) (σ : L2.St) (H : Hp) (g : G) (v : V) : Sv → Prop
  | .d x => DR K (Nv pa T σ g) H v x
  | .own xs => ∃ q vs, v = .ref q ∧ H q = some (.lst vs) ∧ DRs K (fun a => Nv pa T σ g a ∨ a = q) H vs xs ∧ H0 q = none ∧ ¬ T q
  | .dic t xs => ∃ q vs, v = .ref q ∧ H q = some (DicO F.P F.w t q vs) ∧ EntR K (fun a => Nv pa T σ g a ∨ a = q) H vs xs ∧ H0 q = none ∧ ¬ T q
  | _ => False
structure PostP (F : Fm) (K : Fg) (pa : Addr) (T : AS) (H0 : Hp) (σ : L2.St) (H : Hp) (g : G) (v : V) (H' : Hp) (sv : Sv) (g' : G) : Prop where
  ext : Ext (pm pa g.pen) H H'
  rel : Rel F K pa (fun a => T a ∨ ownQ v sv a) H0 σ H' g'
  vr : PdV F K pa T H0 σ H' g' v sv
  pen : g'.pen.isSome = g.pen.isSome
  sub : ∀ a, Nv pa T σ g' a → Nv pa T σ g a
  fr : ∀ a, ownQ v sv a → H a = none
def setSv (g : G) (i : Nat) (sv : Sv) : G := { g with env := g.env.set i (some sv) }
section
variable {F : Fm} {pa : Addr} {T : AS} {H0 H H1 H2 : Hp} {σ : L2.St} {g g1 g2 g3 : G} {v v1 v2 : V} {r : R} {s1 s2 sv : Sv}
theorem PostE.pd (rl : Rel F K pa T H0 σ H g) (q : PostE F K pa T H0 σ H g v H1 r g1) {o : Bool} (e : keepO o r g1 = some (sv, g2)) : PostP F K pa T H0 σ H g v H1 sv g2 := by
  cases o with
  | true =>
    cases r with
    | fr xs =>
      cases e
      obtain ⟨a, vs, e0, e1, e2, e3, e4⟩ := q.vr
      refine ⟨q.ext, q.rel, ⟨a, vs, e0, e2, e3, rl.x0.d a e1, e4⟩, q.pen, q.sub, fun b z => ?_⟩
      have z' : v = .ref b := z
      rw [e0] at z'
      cases z'
      exact e1
    | fd t xs =>
      cases e
      obtain ⟨a, vs, e0, e1, e2, e3, e4⟩ := q.vr
      refine ⟨q.ext, q.rel, ⟨a, vs, e0, e2, e3, rl.x0.d a e1, e4⟩, q.pen, q.sub, fun b z => ?_⟩
      have z' : v = .ref b := z
      rw [e0] at z'
      cases z'
      exact e1
    | _ => cases e
  | false =>
    have e' : (keepR r g1).map (fun dg => (Sv.d dg.1, dg.2)) = some (sv, g2) := by cases r <;> exact e
    cases k : keepR r g1 with
    | none => rw [k] at e'; cases e'
    | some dg =>
      obtain ⟨d, g3⟩ := dg
      rw [k] at e'
      cases e'
      have kk := q.keep k
      exact ⟨kk.ext, kk.rel.mono fun a z => z.elim id fun z => z.elim, kk.dr, kk.pen, kk.sub, fun a z => z.elim⟩
/-- kept aside while the rest goes on -/
theorem PdV.move {pa : Addr} {σ' : L2.St} (h : PdV F K pa T H0 σ H1 g1 v sv) (r1 : Rel F K pa (fun a => T a ∨ ownQ v sv a) H0 σ H1 g1) (x : Ext (pm pa g1.pen) H1 H2) {s2 : Sv} {v2 : V} (hf : ∀ a, ownQ v2 s2 a → H1 a = none)
    (sub : ∀ a, Nv pa T σ' g2 a → (Nv pa T σ g1 a ∨ ownQ v sv a) ∨ ownQ v2 s2 a) : PdV F K pa T H0 σ' H2 g2 v sv := by
  have gr : ∀ {N : AS} {u : V} {d : D}, DR K N H1 u d → DR K (fun a => N a ∨ ownQ v2 s2 a) H1 u d := fun {N u d} q => by
    cases s2 with
    | own ys =>
      cases v2 with
      | ref b => exact (q.grow (hf b rfl)).mono fun a z => z.imp id fun z => (V.ref.inj z).symm
      | _ => exact q.mono fun a z => z.elim id fun z => by cases (show _ = V.ref a from z)
    | dic t ys =>
      cases v2 with
      | ref b => exact (q.grow (hf b rfl)).mono fun a z => z.imp id fun z => (V.ref.inj z).symm
      | _ => exact q.mono fun a z => z.elim id fun z => by cases (show _ = V.ref a from z)
    | _ => exact q.mono fun a z => z.elim id fun z => z.elim
  have grs : ∀ {N : AS} {u : List V} {d : List D}, DRs K N H1 u d → DRs K (fun a => N a ∨ ownQ v2 s2 a) H1 u d := fun {N u d} q => by
    cases s2 with
    | own ys =>
      cases v2 with
      | ref b => exact (q.grow (hf b rfl)).mono fun a z => z.imp id fun z => (V.ref.inj z).symm
      | _ => exact q.mono fun a z => z.elim id fun z => by cases (show _ = V.ref a from z)
    | dic t ys =>
      cases v2 with
      | ref b => exact (q.grow (hf b rfl)).mono fun a z => z.imp id fun z => (V.ref.inj z).symm
      | _ => exact q.mono fun a z => z.elim id fun z => by cases (show _ = V.ref a from z)
    | _ => exact q.mono fun a z => z.elim id fun z => z.elim
  have gre : ∀ {N : AS} {u : DE} {d : List (D × D)}, EntR K N H1 u d → EntR K (fun a => N a ∨ ownQ v2 s2 a) H1 u d := fun {N u d} q => q.trans fun _ _ z => gr z
  have hm : ∀ {N : AS} a, pm pa g1.pen a → (Nv pa T σ g1 a ∨ N a) := fun {N} a z => .inl (.inr (.inl z))
  cases sv with
  | d d =>
    have h0 : DR K (Nv pa T σ g1) H1 v d := h
    show DR K (Nv pa T σ' g2) H2 v d
    exact (DR.ext x (fun a z => .inl (.inr (.inl z))) (gr h0)).mono fun a z => (sub a z).imp (fun z => z.elim id fun z => z.elim) id
  | own xs =>
    obtain ⟨q, vs, rfl, e1, e2, e3, e4⟩ := h
    have nn := Rel.not_nv (T := T) (v := .ref q) r1 rfl e4
    refine ⟨q, vs, rfl, x.k _ _ e1 (fun z => nn (.inr (.inl z))) fun _ => nofun, ?_, e3, e4⟩
    refine (DRs.ext x (fun a z => .inl (.inl (.inr (.inl z)))) (grs e2)).mono fun a z => ?_
    rcases z with z | z
    · exact (sub a z).imp (fun z => z.imp id fun z => (V.ref.inj z).symm) id
    · exact .inl (.inr z)
  | dic t xs =>
    obtain ⟨q, vs, rfl, e1, e2, e3, e4⟩ := h
    have nn := Rel.not_nv (T := T) (v := .ref q) r1 rfl e4
    refine ⟨q, vs, rfl, x.k _ _ e1 (fun z => nn (.inr (.inl z))) fun _ => nofun, ?_, e3, e4⟩
    refine (EntR.ext x (fun a z => .inl (.inl (.inr (.inl z)))) (gre e2)).mono fun a z => ?_
    rcases z with z | z
    · exact (sub a z).imp (fun z => z.imp id fun z => (V.ref.inj z).symm) id
    · exact .inl (.inr z)
  | _ => exact h.elim
/-- it is stored -/
theorem PdV.store {i : Nat} (h : PdV F K pa T H0 σ H g v sv) (rl : Rel F K pa (fun a => T a ∨ ownQ v sv a) H0 σ H g) (hi : i < g.env.length) :
    Rel F K pa T H0 (σ.set i (some v)) H (setSv g i sv) ∧ ∀ a, Nv pa T (σ.set i (some v)) (setSv g i sv) a → Nv pa T σ g a ∨ ownQ v sv a := by
  cases sv with
  | d x =>
    obtain ⟨r1, s1⟩ := (rl.mono (T' := T) fun a z => .inl z).stD hi h
    exact ⟨r1, fun a z => .inl (s1 a z)⟩
  | own xs =>
    obtain ⟨q, vs, rfl, e1, e2, e3, e4⟩ := h
    have r0 : Rel F K pa (fun a => T a ∨ a = q) H0 σ H g := rl.mono fun a z => z.imp id fun z => by show V.ref q = .ref a; rw [z]
    have npm : ¬ pm pa g.pen q := fun z => by
      obtain ⟨ys, e⟩ := Option.isSome_iff_exists.mp z.1
      exact (r0.pn ys e).1 (.inr z.2.symm)
    obtain ⟨r1, s1⟩ := r0.stNew (s0 := .own xs) hi rfl ⟨q, vs, rfl, e1, e2, e3, e4, npm⟩
    exact ⟨r1, fun a z => (s1 a z).imp id fun z => by show V.ref q = .ref a; rw [z]⟩
  | dic t xs =>
    obtain ⟨q, vs, rfl, e1, e2, e3, e4⟩ := h
    have r0 : Rel F K pa (fun a => T a ∨ a = q) H0 σ H g := rl.mono fun a z => z.imp id fun z => by show V.ref q = .ref a; rw [z]
    have npm : ¬ pm pa g.pen q := fun z => by
      obtain ⟨ys, e⟩ := Option.isSome_iff_exists.mp z.1
      exact (r0.pn ys e).1 (.inr z.2.symm)
    obtain ⟨r1, s1⟩ := r0.stNew (s0 := .dic t xs) hi rfl ⟨q, vs, rfl, e1, e2, e3, e4, npm⟩
    exact ⟨r1, fun a z => (s1 a z).imp id fun z => by show V.ref q = .ref a; rw [z]⟩
  | _ => exact h.elim
theorem PostP.two {i j : Nat} (p1 : PostP F K pa T H0 σ H g v1 H1 s1 g1) (p2 : PostP F K pa (fun a => T a ∨ ownQ v1 s1 a) H0 σ H1 g1 v2 H2 s2 g2) (hi : i < g2.env.length) (hj : j < g2.env.length) (hij : i ≠ j) :
    PostSt F K pa pa T H0 σ H g ((σ.set i (some v1)).set j (some v2)) H2 { g2 with env := (g2.env.set i (some s1)).set j (some s2) } := by
  obtain ⟨rj, sj⟩ := PdV.store (i := j) p2.vr p2.rel hj
  have e1 : pm pa g1.pen = pm pa g.pen := pm_eq p1.pen
  have sub2 : ∀ a, Nv pa T (σ.set j (some v2)) (setSv g2 j s2) a → (Nv pa T σ g1 a ∨ ownQ v1 s1 a) ∨ ownQ v2 s2 a := fun a z => by
    have z1 : Nv pa (fun a => T a ∨ ownQ v1 s1 a) (σ.set j (some v2)) (setSv g2 j s2) a := z.imp .inl id
    rcases sj a z1 with z2 | z2
    · rcases p2.sub a z2 with (z3 | z3) | z3
      · exact .inl (.inl (.inl z3))
      · exact .inl (.inr z3)
      · exact .inl (.inl (.inr z3))
    · exact .inr z2
  have v1j : PdV F K pa T H0 (σ.set j (some v2)) H2 (setSv g2 j s2) v1 s1 := p1.vr.move p1.rel p2.ext p2.fr sub2
  obtain ⟨ri, si⟩ := PdV.store (i := i) v1j rj (by show i < (g2.env.set j (some s2)).length; rw [List.length_set]; exact hi)
  have eσ : (σ.set j (some v2)).set i (some v1) = (σ.set i (some v1)).set j (some v2) := List.set_comm _ _ (Ne.symm hij)
  have eg : setSv (setSv g2 j s2) i s1 = { g2 with env := (g2.env.set i (some s1)).set j (some s2) } := by
    show ({ g2 with env := (g2.env.set j (some s2)).set i (some s1) } : G) = _
    rw [List.set_comm _ _ (Ne.symm hij)]
  rw [eσ, eg] at ri si
  refine ⟨ri, fun h => ⟨rfl, by show g2.pen.isSome = true; rw [p2.pen, p1.pen]; exact h⟩, fun v d z => ?_, by rw [List.length_set, List.length_set]⟩
  have gr : ∀ {N : AS} {H : Hp} {v2 u : V} {s2 : Sv} {d : D}, (∀ a, ownQ v2 s2 a → H a = none) → DR K N H u d → DR K (fun a => N a ∨ ownQ v2 s2 a) H u d := fun {N H v2 u s2 d} hf q => by
    cases s2 with
    | own ys =>
      cases v2 with
      | ref b => exact (q.grow (hf b rfl)).mono fun a z => z.imp id fun z => (V.ref.inj z).symm
      | _ => exact q.mono fun a z => z.elim id fun z => by cases (show _ = V.ref a from z)
    | dic t ys =>
      cases v2 with
      | ref b => exact (q.grow (hf b rfl)).mono fun a z => z.imp id fun z => (V.ref.inj z).symm
      | _ => exact q.mono fun a z => z.elim id fun z => by cases (show _ = V.ref a from z)
    | _ => exact q.mono fun a z => z.elim id fun z => z.elim
  have z2 := gr (v2 := v2) (s2 := s2) (fun a y => p1.ext.d a (p2.fr a y)) (gr p1.fr z)
  have z3 := DR.ext p1.ext (fun a y => .inl (.inl (.inr (.inl y)))) z2
  have z4 := DR.ext p2.ext (fun a y => .inl (.inl (.inr (.inl (by rw [← e1]; exact y))))) z3
  refine z4.mono fun a y => ?_
  rcases si a y with y | y
  · exact (sub2 a y).imp (fun y => y.imp (p1.sub a) id) id
  · exact .inl (.inr y)
end
theorem ok_S_par (O : XO P w K mg base p n F X c) (he : ∀ e i, chkE p m c e i = true → OKe F X e (E.e i)) {x y : Str} {px py p1 p2 pos : Pos} {k1 k2 : Nat} {a b : Expr} {i j : Nat} {oi oj : Bool} {ia ib : IE}
    (h1 : c.N[i]? = some x) (h2 : c.N[j]? = some y) (h3 : i ≠ j) (h4 : parB c.sc x y px py a b = true) (h5 : chkE p m c a ia = true) (h6 : chkE p m c b ib = true) :
    OKss F X (wS X (.Assign [.Tuple [.Name x px, .Name y py] k1 p1] (.Tuple [a, b] k2 p2) pos)) (stS E (.par i j oi oj ia ib)) := by
  intro g fl g' q pa T H0 σ H D hlen rl kn kr
  simp only [stS] at q
  cases e1 : E.e ia g with
  | none => simp only [e1] at q; cases q
  | some rg =>
    obtain ⟨r1, g0⟩ := rg
    simp only [e1] at q
    cases e2 : keepO oi r1 g0 with
    | none => simp only [e2] at q; cases q
    | some sg =>
      obtain ⟨s1, g1⟩ := sg
      simp only [e2] at q
      cases e3 : E.e ib g1 with
      | none => simp only [e3] at q; cases q
      | some rg2 =>
        obtain ⟨r2, g2⟩ := rg2
        simp only [e3] at q
        cases e4 : keepO oj r2 g2 with
        | none => simp only [e4] at q; cases q
        | some sg3 =>
          obtain ⟨s2, g3⟩ := sg3
          simp only [e4, Option.some.injEq, Prod.mk.injEq] at q
          obtain ⟨rfl, rfl⟩ := q
          rw [O.cs] at h4
          have hq := h4
          unfold parB at hq
          simp only [Bool.and_eq_true] at hq
          obtain ⟨⟨⟨⟨⟨⟨⟨l1, l2⟩, _⟩, _⟩, n1⟩, n2⟩, _⟩, _⟩ := hq
          have hN1 : X.N[i]? = some x := by rw [← O.cN]; exact h1
          have hN2 : X.N[j]? = some y := by rw [← O.cN]; exact h2
          refine wS_of (ps_par O.calm O.nd hN1 hN2 h3 (lcl_of l1) (lcl_of l2) (pa_cons pe_w (pa_cons pe_w pa_nil (star_cons n2)) (star_cons n1)) (swapped_par O.kf h4)) ?_
          refine he a ia h5 g r1 g0 e1 pa T H0 σ H _ rl fun v1 H1 q1 => ?_
          have P1 := q1.pd rl e2
          refine he b ib h6 g1 r2 g2 e3 pa _ H0 σ H1 _ P1.rel fun v2 H2 q2 => ?_
          have P2 := q2.pd P1.rel e4
          refine ⟨v1, v2, rfl, kn rfl pa _ _ (P1.two P2 ?_ ?_ h3)⟩
          · rw [← P2.rel.len, hlen]; exact (List.getElem?_eq_some_iff.mp hN1).1
          · rw [← P2.rel.len, hlen]; exact (List.getElem?_eq_some_iff.mp hN2).1
theorem ok_S_exp (he : ∀ e i, chkE p m c e i = true → OKe F X e (E.e i)) {v : Expr} {pos : Pos} {e : IE} (h1 : chkE p m c v e = true) (h2 : isComp v = false) : OKss F X (wS X (.Expr v pos)) (stS E (.exp e)) := by
  intro g fl g' q pa T H0 σ H D hlen rl kn kr
  simp only [stS] at q
  cases e1 : E.e e g with
  | none => simp only [e1] at q; cases q
  | some rg =>
    obtain ⟨r, g1⟩ := rg
    simp only [e1, Option.map_some, Option.some.injEq, Prod.mk.injEq] at q
    obtain ⟨rfl, rfl⟩ := q
    refine wS_of (ps_expr pe_w (by cases v <;> first | rfl | cases h2)) ?_
    exact he v e h1 g r g1 e1 pa T H0 σ H _ rl fun u H1 p1 => kn rfl pa σ H1 p1.n.st
theorem ok_S_ret (he : ∀ e i, chkE p m c e i = true → OKe F X e (E.e i)) {v : Expr} {pos : Pos} {e : IE} (h1 : chkE p m c v e = true) : OKss F X (wS X (.Return (some v) pos)) (stS E (.ret e)) := by
  intro g fl g' q pa T H0 σ H D hlen rl kn kr
  simp only [stS] at q
  cases e1 : E.e e g with
  | none => simp only [e1] at q; cases q
  | some rg =>
    obtain ⟨r, g1⟩ := rg
    simp only [e1, Option.map_some, Option.some.injEq, Prod.mk.injEq] at q
    obtain ⟨rfl, rfl⟩ := q
    exact wS_of (ps_ret pe_w) (he v e h1 g r g1 e1 pa T H0 σ H _ rl fun u H1 p1 => kr r rfl pa σ H g u H1 (.refl rl) p1)
theorem ok_S_iff {t : Expr} {as bs : List Stmt} {pos : Pos} {it : IE} {ia ib : List IS} (ht : OKt F X t (E.t it)) (ha : OKss F X (wSs X as) (E.ss ia)) (hb : OKss F X (wSs X bs) (E.ss ib)) : OKss F X (wS X (.If t as bs pos)) (stS E (.iff it ia ib)) := by
  intro g fl g' q pa T H0 σ H D hlen rl kn kr
  simp only [stS] at q
  cases e1 : E.t it g with
  | none => simp only [e1] at q; cases q
  | some bg =>
    obtain ⟨b, g1⟩ := bg
    refine wS_of (ps_if pt_w pss_w pss_w) (ht g b g1 e1 pa T H0 σ H _ rl fun H1 pn => ?_)
    simp only [e1] at q
    cases b with
    | true =>
      rw [if_pos rfl]
      exact ha g1 fl g' q pa T H0 σ H1 D hlen pn.rel (fun h pa' σ' H' p' => kn h pa' σ' H' (pn.st.trans p')) fun r h pa' σ' H2 g2 v H' p' pe => kr r h pa' σ' H2 g2 v H' (pn.st.trans p') pe
    | false =>
      rw [if_neg (by decide)]
      exact hb g1 fl g' q pa T H0 σ H1 D hlen pn.rel (fun h pa' σ' H' p' => kn h pa' σ' H' (pn.st.trans p')) fun r h pa' σ' H2 g2 v H' p' pe => kr r h pa' σ' H2 g2 v H' (pn.st.trans p') pe
theorem ok_S_for (O : XO P w K mg base p n F X c) (G1 : XG X c) (he : ∀ e i, chkE p m c e i = true → OKe F X e (E.e i)) {t it : Expr} {bs : List Stmt} {pos : Pos} {tg : Tg} {ik : Ik} {its : List IE} {body : List IS} (htg : chkTg c t tg = true) (hit : chkIt (chkE p m c) c t ik its it = true) (hdic : ik ≠ .dic)
    (hb : OKss F X (wSs X bs) (E.ss body)) : OKss F X (wS X (.For t it bs [] pos)) (stS E (.for_ tg ik its body)) := by
  intro g fl g' q pa T H0 σ H D hlen rl kn kr
  simp only [stS] at q
  cases e1 : itsD E ik its g with
  | none => simp only [e1] at q; cases q
  | some dg =>
    obtain ⟨ds, g1⟩ := dg
    simp only [e1] at q
    have hset : notSet it = true := by
      unfold chkIt at hit
      rw [Bool.and_eq_true] at hit
      exact hit.1
    refine wS_of (ps_for (by rw [O.xe]; exact PassesOwn.never) O.calm pi_w (pg_tg G1 htg) pss_w (folded hset)) ?_
    refine walk_ok O he hit e1 pa T H0 σ H _ rl fun J H1 L Z pn S hL _ hz0 => ?_
    obtain rfl := hz0 hdic
    let W : Nat → Nat → L2.St → Hp → Prop := fun i m σi Hi => m = ds.length - i ∧ i ≤ ds.length ∧ ∃ pai gi, evFor E tg body (ds.drop i) gi = some (fl, g') ∧ PostSt F X.K pa pai T H0 σ H g σi Hi gi ∧ ∀ q ∈ L, DR X.K (Nv pai T σi gi) Hi q.1 q.2
    refine ⟨W, ⟨_, rfl, Nat.zero_le _, pa, g1, by rw [List.drop_zero]; exact q, pn.st, hL⟩, ?_⟩
    rintro i m σi Hi ⟨rfl, hi, pai, gi, ev1, ps, hLi⟩
    by_cases hlt : i < ds.length
    · refine .inr ⟨S.go _ Hi i hlt hLi (fun _ h => by cases h), W (i + 1) (ds.length - (i + 1)), fun σ' H' z => ⟨_, by omega, z⟩, fun x H' y => ?_⟩
      have hd : ds[i]? = some ds[i] := List.getElem?_eq_getElem hlt
      obtain ⟨hH', hxd⟩ := S.yld _ Hi i ds[i] x H' hd hLi (fun _ h => by cases h) y
      have rli := ps.rel
      have hx := hxd fun a z => let ⟨o, h1, _⟩ := rli.nv a z; ⟨o, h1⟩
      have rl' : Rel F X.K pai T H0 σi H' gi := by
        rcases hH' with rfl | ⟨q, ws, hq, rfl⟩
        · exact rli
        · exact rli.lay hq
      have x' : Ext (pm pai gi.pen) Hi H' := by
        rcases hH' with rfl | ⟨q, ws, hq, rfl⟩
        · exact .refl _ _
        · exact .new hq
      rw [List.drop_eq_getElem_cons hlt] at ev1
      unfold evFor at ev1
      cases f1 : asgT tg ds[i] gi with
      | none => rw [f1] at ev1; cases ev1
      | some ga =>
        simp only [f1] at ev1
        have lenN : ∀ j ∈ tgIs tg, j < gi.env.length := fun j hj => by
          have h1 := chkTg_lt htg j hj
          rw [← rl'.len, ps.len, hlen, ← O.cN]
          exact h1
        refine asg_ok f1 lenN rl' hx fun σ2 ra suba wpa pena => ?_
        have psa : PostSt F X.K pai pai T H0 σi Hi gi σ2 H' ga := by
          refine ⟨ra, fun h => ⟨rfl, by rw [pena]; exact h⟩, fun v d z => (DR.ext x' (fun a z => .inr (.inl z)) z).mono suba, ?_⟩
          have h6 := congrArg List.length wpa
          rw [L2.wipe_length, L2.wipe_length] at h6
          exact h6
        have psb := ps.trans psa
        cases f2 : E.ss body ga with
        | none => simp only [f2] at ev1; cases ev1
        | some fg =>
          obtain ⟨fl2, gb⟩ := fg
          simp only [f2] at ev1
          refine hb ga fl2 gb f2 pai T H0 σ2 H' _ (by rw [psb.len]; exact hlen) ra (fun hfl pa' σ' H'' p' => ?_) (fun r hfl pa' σ' H1' g1' v H'' p' pe => ?_)
          · subst hfl
            exact ⟨rfl, hlt, pa', gb, ev1, psb.trans p', fun q hq => p'.pres _ _ (psa.pres _ _ (hLi q hq))⟩
          · subst hfl
            simp only [Option.some.injEq, Prod.mk.injEq] at ev1
            obtain ⟨rfl, rfl⟩ := ev1
            exact kr r rfl pa' σ' H1' g1' v H'' (psb.trans p') pe
    · have ei : i = ds.length := by omega
      subst ei
      rw [List.drop_length] at ev1
      simp only [evFor, Option.some.injEq, Prod.mk.injEq] at ev1
      obtain ⟨rfl, rfl⟩ := ev1
      exact .inl ⟨S.stop _ Hi hLi (fun _ h => by cases h), kn rfl pai σi Hi ps⟩
theorem OKss.none {t : Ends → L2.St → Hp → Prop} {f : G → Option (Fl × G)} (h : ∀ g, f g = none) : OKss F X t f := by
  intro g fl g' q
  rw [h] at q
  cases q
theorem ok_stmt (S : Snd P w K mg base p n) (SS : SndS P w K mg base p n) (O : XO P w K mg base p (n + 1) F X c) (G1 : XG X c) {s : Stmt} {ir : IS} (hc : chkS p (chkSs p m) m c s ir = true) : OKss F X (wS X s) (stS (ev p.fns n) ir) := by
  have O' : XO P w K mg base p n F X c := O.le (Nat.le_succ n)
  have he : ∀ e i, chkE p m c e i = true → OKe F X e ((ev p.fns n).e i) := fun e i h => S.e F X c e i m O' h
  have hs : ∀ sts irs, chkSs p m c sts irs = true → OKss F X (wSs X sts) ((ev p.fns n).ss irs) := fun sts irs h => SS F X c sts irs m O' G1 h
  unfold chkS at hc
  cases ir with
  | nev => exact .none fun _ => rfl
  | set i e => exact ok_S_set S O G1 hc
  | own i e => exact ok_S_own S O G1 hc
  | pen i e => exact ok_S_pen S O G1 hc
  | unp is e =>
    simp only at hc
    split at hc
    · simp only [Bool.and_eq_true, Bool.not_eq_true'] at hc
      exact ok_S_unp O' G1 he hc.1.1 hc.1.2 hc.2
    · cases hc
  | par i j oi oj a b =>
    simp only at hc
    split at hc
    · simp only [Bool.and_eq_true, decide_eq_true_eq] at hc
      obtain ⟨⟨⟨⟨⟨h1, h2⟩, h3⟩, h4⟩, h5⟩, h6⟩ := hc
      exact ok_S_par O' he h1 h2 h3 h4 h5 h6
    · cases hc
  | app i e =>
    simp only at hc
    split at hc
    · simp only [Bool.and_eq_true, decide_eq_true_eq] at hc
      obtain ⟨⟨⟨⟨⟨⟨h0, h1⟩, h2⟩, h3⟩, h4⟩, h5⟩, h6⟩ := hc
      have hm := eq_of_beq h0
      subst hm
      exact ok_S_app O' he h1 h2 h3 h4 h5 h6
    · cases hc
  | sto i k e =>
    simp only at hc
    split at hc
    · simp only [Bool.and_eq_true, decide_eq_true_eq] at hc
      obtain ⟨⟨⟨⟨⟨h1, h2⟩, h3⟩, h4⟩, h5⟩, h6⟩ := hc
      exact ok_S_sto O' he h1 h2 h3 h4 h5 h6
    · cases hc
  | exp e =>
    simp only at hc
    split at hc
    · simp only [Bool.and_eq_true, Bool.not_eq_true'] at hc
      exact ok_S_exp he hc.1 hc.2
    · cases hc
  | iff t a b =>
    simp only at hc
    split at hc
    · simp only [Bool.and_eq_true] at hc
      exact ok_S_iff (S.t F X c _ _ m O' hc.1.1) (hs _ _ hc.1.2) (hs _ _ hc.2)
    · cases hc
  | for_ tg ik its body =>
    simp only at hc
    split at hc
    · rename_i t it bs els pos
      simp only [Bool.and_eq_true] at hc
      obtain ⟨⟨⟨⟨h1, h0⟩, h2⟩, h3⟩, h4⟩ := hc
      cases els with
      | nil => exact ok_S_for O' G1 he h2 h3 (of_decide_eq_true h0) (hs _ _ h4)
      | cons _ _ => cases h1
    · cases hc
  | ndef i k js =>
    simp only at hc
    split at hc
    · simp only [Bool.and_eq_true, decide_eq_true_eq] at hc
      obtain ⟨⟨⟨⟨⟨h0, h1⟩, h2⟩, h3⟩, h4⟩, h5⟩ := hc
      have hm := eq_of_beq h0
      subst hm
      exact ok_S_ndef O' G1 h1 h2 h3 h4 h5
    · cases hc
  | whl t body =>
    simp only at hc
    split at hc
    · rename_i te bs els pos
      simp only [Bool.and_eq_true] at hc
      obtain ⟨⟨h1, h2⟩, h3⟩ := hc
      cases els with
      | nil => exact ok_S_whl O' (S.t F X c _ _ m O' h2) (hs _ _ h3)
      | cons _ _ => cases h1
    · cases hc
  | aug i e =>
    simp only at hc
    split at hc
    · simp only [Bool.and_eq_true, decide_eq_true_eq] at hc
      obtain ⟨⟨⟨rfl, h1⟩, h2⟩, h3⟩ := hc
      exact ok_S_aug O' G1 he h1 h2 h3
    · cases hc
  | dput i k v =>
    simp only at hc
    split at hc
    · simp only [Bool.and_eq_true, decide_eq_true_eq] at hc
      obtain ⟨⟨⟨⟨⟨h1, h2⟩, h3⟩, h4⟩, h5⟩, h6⟩ := hc
      exact ok_S_dput O' he h1 h2 h3 h4 h5 h6
    · cases hc
  | ret e =>
    simp only at hc
    split at hc
    · split at hc
      · exact ok_S_ret he hc
      · cases hc
    · cases hc
theorem snd_ss (S : Snd P w K mg base p n) (SS : SndS P w K mg base p n) : SndS P w K mg base p (n + 1) := by
  intro F X c sts irs m O G1 hc
  cases m with
  | zero => cases hc
  | succ m =>
    unfold chkSs at hc
    split at hc
    · intro g fl g' q pa T H0 σ H D hlen rl kn kr
      have q' : some (Fl.nx, g) = some (fl, g') := q
      cases q'
      exact wSs_of pss_nil (kn rfl pa σ H (.refl rl))
    · rename_i s ss i is
      rw [Bool.and_eq_true] at hc
      obtain ⟨h1, h2⟩ := hc
      have a := ok_stmt S SS O G1 h1
      have b : OKss F X (wSs X ss) ((ev p.fns n).ss is) := SS F X c ss is m (O.le (Nat.le_succ n)) G1 h2
      intro g fl g' q pa T H0 σ H D hlen rl kn kr
      have q' : (match stS (ev p.fns n) i g with
        | none => none
        | some (.nx, g1) => (ev p.fns n).ss is g1
        | some (.ret r, g1) => some (.ret r, g1)) = some (fl, g') := q
      cases e1 : stS (ev p.fns n) i g with
      | none => rw [e1] at q'; cases q'
      | some fg =>
        obtain ⟨f1, g1⟩ := fg
        rw [e1] at q'
        refine wSs_of (pss_cons ps_w pss_w) ?_
        refine a g f1 g1 e1 pa T H0 σ H _ hlen rl (fun hf pa' σ' H' p' => ?_) (fun r hf pa' σ' H2 g2 v H' p' pe => ?_)
        · subst hf
          exact b g1 fl g' q' pa' T H0 σ' H' D (by rw [p'.len]; exact hlen) p'.rel (fun h pa2 σ2 H2 p2 => kn h pa2 σ2 H2 (p'.trans p2)) fun r h pa2 σ2 H2 g2 v H3 p2 pe => kr r h pa2 σ2 H2 g2 v H3 (p'.trans p2) pe
        · subst hf
          cases q'
          exact kr r rfl pa' σ' H2 g2 v H' p' pe
    · cases hc
end
end DL
end
section
set_option Elab.async false
set_option linter.all false
set_option maxRecDepth 100000
set_option autoImplicit false
set_option maxHeartbeats 4000000
/-! DL, part t: defs. -/
namespace DL
open PySem PySem.Spec PyProof.Rows L2
variable [Tabs]

/-- the block of a made function -/
def ctK (N : List Str) (sc : Scope) : Ct := ⟨N, sc, "", false, fun _ _ => false, []⟩
/-- is this code the k-th one's? -/
def codeB (p : Pgm) (m k : Nat) (C : CodeT) : Bool :=
  match p.fns[k]?, p.kn.lookup k with
  | some fd, some N =>
    decide (fd.fr = some C.fr.length) && NdefX.nscB N (N.take fd.ps) C.fr C.scope && argsOk C.params (N.take fd.ps) && decide ((N.take fd.ps).length = fd.ps) && decide (N.length = fd.n) && !decide (N ∈ p.tabs) &&
    (match C.body with
     | .stmts b => chkSs p m (ctK N C.scope) b fd.body
     | .expr e => (match fd.body with | [.ret i] => chkE p m (ctK N C.scope) e i | _ => false))
  | _, _ => false
/-- a def of the text, as it stands behind the top -/
structure DefOk (K : Fg) (mg : Str → Option Value) (p : Pgm) (M : Nat) (fd : FnD) : Prop where
  no : fd.fr = none
  ex : ∃ (f : Addr) (qual : Str) (params : Arguments) (body : List Stmt) (scope : Scope) (dV kV doc pm cdv ct oc : Value) (an od : Option Addr) (osl : Array (Option Value)) (N ps : List Str) (m : Nat) (fs : List Nat),
    K.lookup f = some ⟨oc, od, .func (PySem.W.fnOf fd.name qual params body scope dV kV doc pm an cdv ct), osl⟩ ∧ PySem.W.codeIn K cdv qual = true ∧ C8.scC N ps scope = true ∧ ps.length = fd.ps ∧ N.length = fd.n ∧
    mg fd.name = some (.ref f) ∧ PySem.W.keepIn K (.ref f) = true ∧ (∀ us : List Value, us.length = ps.length → bindArgs (PySem.W.fnOf fd.name qual params body scope dV kV doc pm an cdv ct) ⟨us, []⟩ = pure (ps.zip us)) ∧
    chkSs p m ⟨N, scope, qual ++ ".<locals>.", true, codeB p M, fs⟩ body fd.body = true ∧ (N ∈ p.tabs → ∃ c P, cdv = .ref c ∧ (c, P) ∈ Tabs.l ∧ Tabs.weak P = decide (N ∈ p.wk))
structure Glob (mg : Str → Option Value) (p : Pgm) : Prop where
  bl : ∀ x, x ∈ bnames → mg x = none
  cst : ∀ x d, p.cs.lookup x = some d → scalD d = true → ∃ u, mg x = some u ∧ RelV (dV d) u
section
variable {P : Program} {w : World} {K : Fg} {mg : Str → Option Value} {base : Heap} {p : Pgm} {n m : Nat} {F : Fm} {c : Ct} {E : Ev}
def frR : R → R
  | .bo _ xs => .fr xs
  | .bd _ t kvs => .fd t kvs
  | r => r
theorem retC_inv {p : Option (List D)} {r r' : R} {g : G} {q : Option (List D)} (h : retC p r g = some (r', q)) : q = g.pen ∧ g.pen.isSome = p.isSome ∧ r' = frR r ∧ ∀ k cs, r ≠ .fn k cs ∧ r ≠ .nfn k cs := by
  unfold retC at h
  by_cases e : g.pen.isSome = p.isSome
  · rw [if_pos e] at h
    cases r <;> first | (cases h; done) | (simp only [Option.some.injEq, Prod.mk.injEq] at h; obtain ⟨h1, h2⟩ := h; exact ⟨h2.symm, e, h1.symm, fun k cs => ⟨nofun, nofun⟩⟩)
  · rw [if_neg e] at h
    cases h
theorem frR_fn {r : R} {k : Nat} {cs : List Cv} (h : ∀ k cs, r ≠ .fn k cs) : frR r ≠ .fn k cs := by
  cases r with
  | fn a b => exact h k cs
  | _ => intro z; cases z
theorem pairs_len {α β : Type} {R : α → β → Prop} : ∀ {xs : List α} {ys : List β}, Paired R xs ys → xs.length = ys.length
  | [], [], _ => rfl
  | _ :: _, _ :: _, .cons _ q => by rw [List.length_cons, List.length_cons, pairs_len q]
theorem pairs_get {α β : Type} {R : α → β → Prop} : ∀ {xs : List α} {ys : List β} {i : Nat} {y : β}, Paired R xs ys → ys[i]? = some y → ∃ x, xs[i]? = some x ∧ R x y
  | _ :: _, _ :: _, 0, _, .cons h _, e => by cases e; exact ⟨_, rfl, h⟩
  | _ :: _, _ :: _, i + 1, _, .cons _ q, e => pairs_get (i := i) q (by simpa using e)
  | [], [], _, _, _, e => by simp at e
theorem cvs_len {N : AS} {H : Hp} {Cr : Addr → V → Prop} : ∀ {cs : List Cv} {ws : List V}, CvRs K N H Cr ws cs → ws.length = cs.length
  | [], _, .nil => rfl
  | _ :: _, _, .cons _ q => by rw [List.length_cons, List.length_cons, cvs_len q]
theorem cvs_get {N : AS} {H : Hp} {Cr : Addr → V → Prop} : ∀ {cs : List Cv} {ws : List V} {i : Nat} {c : Cv}, CvRs K N H Cr ws cs → cs[i]? = some c → ∃ w, ws[i]? = some w ∧ CvR K N H Cr w c
  | _ :: _, _, 0, _, .cons h _, e => by cases e; exact ⟨_, rfl, h⟩
  | _ :: _, _, i + 1, _, .cons _ q, e => cvs_get (i := i) q (by simpa using e)
  | [], _, _, _, .nil, e => by simp at e
/-- the state at the entry -/
theorem ArgR.startC {pa : Addr} {T : AS} {H : Hp} {pen : Option (List D)} {vs ws : List V} {as : List Sv} {cs : List Cv} {N : List Str} {k : Nat} (a : ArgR K pa T H pen vs as)
    (cv : CvRs K (fun a => T a ∨ pm pa pen a) H (crH (fun a => T a ∨ pm pa pen a) H) ws cs) (hk : N.length - vs.length - ws.length = k) :
    Rel F K pa T H (NdefX.startF N vs (ws.map some)) H { env := as.map some ++ ((cs.map fun c => some (cvS c)) ++ List.replicate k none), pen := pen } := by
  have hl := pairs_len a.a
  have hl2 := cvs_len cv
  have at_ : ∀ (i : Nat) (sv : Sv), (as.map some ++ ((cs.map fun c => some (cvS c)) ++ List.replicate k none))[i]? = some (some sv) → as[i]? = some sv ∨ (as.length ≤ i ∧ ∃ c, cs[i - as.length]? = some c ∧ sv = cvS c) := fun i sv h => by
    by_cases hi : i < as.length
    · rw [List.getElem?_append_left (by simpa using hi), List.getElem?_map] at h
      cases e : as[i]? with
      | none => rw [e] at h; cases h
      | some x => rw [e] at h; cases h; exact .inl rfl
    · rw [List.getElem?_append_right (by simpa using hi), List.length_map] at h
      by_cases hj : i - as.length < cs.length
      · rw [List.getElem?_append_left (by simpa using hj), List.getElem?_map] at h
        cases e : cs[i - as.length]? with
        | none => rw [e] at h; cases h
        | some x => rw [e] at h; cases h; exact .inr ⟨by omega, x, rfl, rfl⟩
      · rw [List.getElem?_append_right (by simpa using hj), List.getElem?_replicate] at h
        split at h <;> cases h
  let N0 : AS := fun a => T a ∨ pm pa pen a
  have got : ∀ (i : Nat) (sv : Sv), (as.map some ++ ((cs.map fun c => some (cvS c)) ++ List.replicate k none))[i]? = some (some sv) → ownB sv = false ∧ (∀ k js, sv ≠ .ofn k js) ∧ ∃ v, (NdefX.startF N vs (ws.map some))[i]? = some (some v) ∧ SvR F K pa T N0 H H pen v sv := fun i sv h => by
    rcases at_ i sv h with h | ⟨hi, c, hcc, rfl⟩
    · obtain ⟨v, h1, h2⟩ := pairs_get a.a h
      have hv : (NdefX.startF N vs (ws.map some))[i]? = some (some v) := by
        unfold NdefX.startF
        rw [List.getElem?_append_left (by rw [List.length_map]; exact (List.getElem?_eq_some_iff.mp h1).1), List.getElem?_map, h1]
        rfl
      cases sv with
      | d x => exact ⟨rfl, fun _ _ => nofun, v, hv, h2⟩
      | own _ => exact h2.elim
      | scr ns => exact ⟨rfl, fun _ _ => nofun, v, hv, h2⟩
      | pen => exact ⟨rfl, fun _ _ => nofun, v, hv, h2⟩
      | fn k cs => exact ⟨rfl, fun _ _ => nofun, v, hv, h2⟩
      | ofn _ _ => exact h2.elim
      | dic _ _ => exact h2.elim
    · obtain ⟨v, h1, h2⟩ := cvs_get cv hcc
      have hv : (NdefX.startF N vs (ws.map some))[i]? = some (some v) := by
        unfold NdefX.startF
        have e0 : (vs.map some).length = as.length := by rw [List.length_map, hl]
        rw [List.getElem?_append_right (by rw [e0]; exact hi), e0,
          List.getElem?_append_left (by rw [List.length_map]; exact (List.getElem?_eq_some_iff.mp h1).1), List.getElem?_map, h1]
        rfl
      cases c with
      | d x => cases h2 with | d q => exact ⟨rfl, fun _ _ => nofun, v, hv, q⟩
      | fn k cs => exact ⟨rfl, fun _ _ => nofun, v, hv, h2⟩
  have noOwn : ∀ i b, ¬ Own (NdefX.startF N vs (ws.map some)) { env := as.map some ++ ((cs.map fun c => some (cvS c)) ++ List.replicate k none), pen := pen } i b := fun i b ⟨sv, h1, ho, h2⟩ => by
    obtain ⟨z, _⟩ := got i _ h1
    rw [z] at ho
    cases ho
  have hN : ∀ b, Nv pa T (NdefX.startF N vs (ws.map some)) { env := as.map some ++ ((cs.map fun c => some (cvS c)) ++ List.replicate k none), pen := pen } b → N0 b := by
    rintro b (z | z | ⟨i, z⟩)
    · exact .inl z
    · exact .inr z
    · exact absurd z (noOwn i b)
  refine ⟨?_, fun i sv h => ?_, fun i j b h1 _ => absurd h1 (noOwn i b), fun xs h => ?_, a.td, .refl _ _, a.tb, fun i k js h => ?_⟩
  · unfold NdefX.startF
    show _ = (as.map some ++ ((cs.map fun c => some (cvS c)) ++ List.replicate k none)).length
    simp only [List.length_append, List.length_map, List.length_replicate]
    omega
  · obtain ⟨_, _, v, h1, h2⟩ := got i sv h
    exact ⟨v, h1, h2.go (.refl _ _) (fun a z => .inr z) hN (fun _ z => z) rfl⟩
  · obtain ⟨h1, ws, h2, h3⟩ := a.pn xs h
    exact ⟨h1, ws, h2, h3.mono hN⟩
  · obtain ⟨_, z, _⟩ := got i _ h
    exact absurd rfl (z k js)
theorem startF_nil (N : List Str) (vs : List V) : NdefX.startF N vs (([] : List V).map some) = L2.start N vs := by
  unfold NdefX.startF L2.start
  simp
theorem ArgR.start {pa : Addr} {T : AS} {H : Hp} {pen : Option (List D)} {vs : List V} {as : List Sv} {N : List Str} {k : Nat} (a : ArgR K pa T H pen vs as) (hk : N.length - vs.length = k) :
    Rel F K pa T H (L2.start N vs) H { env := as.map some ++ List.replicate k none, pen := pen } := by
  have h := a.startC (F := F) (N := N) (k := k) (ws := []) (cs := []) .nil (by rw [← hk]; simp)
  rw [startF_nil] at h
  exact h
/-- the state behind a call -/
theorem PostE.ret {pa pa' : Addr} {T : AS} {H H1 H' : Hp} {σ σ' : L2.St} {g0 g1 g' : G} {v : V} {r r' : R} {pen q : Option (List D)} (hP : F.P = P) (hw : F.w = w) (hp : g0.pen = pen) (st : PostSt F K pa pa' T H σ H g0 σ' H1 g1) (pe : PostE F K pa' T H σ' H1 g1 v H' r g')
    (h : retC pen r g' = some (r', q)) : PostC P w K pa T H pen v H' r' q := by
  obtain ⟨rfl, hs, rfl, hnf⟩ := retC_inv h
  subst hp
  have hpa : g'.pen.isSome = true → pa' = pa := fun z => (st.pas (by rw [← hs]; exact z)).1
  have epm : ∀ a, pm pa g'.pen a → pm pa' g'.pen a := fun a z => ⟨z.1, by rw [hpa z.1]; exact z.2⟩
  have epm2 : ∀ a, pm pa' g'.pen a → pm pa g'.pen a := fun a z => ⟨z.1, by rw [← hpa z.1]; exact z.2⟩
  have rel0 : Rel F K pa' T H σ' H' g' := pe.rel.mono (ownT_of T v r)
  have hN : ∀ a, (T a ∨ pm pa g'.pen a) → Nv pa' T σ' g' a := fun a z => z.elim .inl fun z => .inr (.inl (epm a z))
  refine ⟨rel0.x0.mono fun a z => ⟨by rw [← hs]; exact z.1, (epm2 a z).2⟩, hs, fun xs e => ?_, ?_⟩
  · obtain ⟨_, ws, h2, h3⟩ := rel0.pn xs e
    rw [hpa (by rw [e]; rfl)] at h2
    exact ⟨ws, h2, h3.mono hN⟩
  · have vr := pe.vr
    have pnq : ∀ {a : Addr} {X : AS}, (∀ z, X z → T z ∨ pm pa' g'.pen z ∨ (∃ i, Own σ' g' i z) ∨ V.ref a = .ref z) → Rel F K pa' (fun z => T z ∨ V.ref a = .ref z) H σ' H' g' → ∀ ys, g'.pen = some ys → a ≠ pa ∧ ∃ ws, H' pa = some (.lst ws) ∧ DRs K X H' ws ys := fun {a X} hX rl ys e => by
      obtain ⟨h1, ws, h2, h3⟩ := rl.pn ys e
      have ep := hpa (by rw [e]; rfl)
      refine ⟨fun z => h1 (.inr (by rw [ep, z])), ws, by rw [← ep]; exact h2, h3.mono fun b z => ?_⟩
      rcases hX b z with z | z | z | z
      · exact .inl (.inl z)
      · exact .inr (.inl z)
      · exact .inr (.inr z)
      · exact .inl (.inr z)
    have hX : ∀ {a : Addr} (z : Addr), ((T z ∨ pm pa g'.pen z) ∨ z = a) → T z ∨ pm pa' g'.pen z ∨ (∃ i, Own σ' g' i z) ∨ V.ref a = .ref z := fun {a} z q => by
      rcases q with (q | q) | q
      · exact .inl q
      · exact .inr (.inl (epm z q))
      · exact .inr (.inr (.inr (by rw [q])))
    cases r with
    | d x => exact DR.mono hN vr
    | fr xs =>
      obtain ⟨a, vs, rfl, e1, e2, e3, e4⟩ := vr
      exact ⟨a, vs, rfl, st.rel.x0.d a e1, e2, e3.mono fun b z => z.imp (hN b) id, pnq hX pe.rel⟩
    | fd t xs =>
      obtain ⟨a, vs, rfl, e1, e2, e3, e4⟩ := vr
      exact ⟨a, vs, rfl, st.rel.x0.d a e1, by rw [← hP, ← hw]; exact e2, e3.mono fun b z => z.imp (hN b) id, pnq hX pe.rel⟩
    | bo i xs =>
      obtain ⟨a, rfl, e1, e2⟩ := vr
      obtain ⟨b, vs, f1, f2, f3, f4, f5, f6⟩ := rel0.own e2
      rw [e1] at f1
      cases f1
      have own : Own σ' g' i a := own_l e2 e1
      have hN2 : ∀ b, ((T b ∨ pm pa g'.pen b) ∨ b = a) → Nv pa' T σ' g' b := fun b z => z.elim (hN b) fun z => by rw [z]; exact .inr (.inr ⟨i, own⟩)
      refine ⟨a, vs, rfl, f4, f2, f3.mono hN2, fun ys e => ?_⟩
      obtain ⟨_, ws, h2, h3⟩ := rel0.pn ys e
      have ep := hpa (by rw [e]; rfl)
      refine ⟨fun z => f6 ⟨by rw [e]; rfl, by rw [ep, z]⟩, ws, by rw [← ep]; exact h2, h3.mono hN2⟩
    | bd i t xs =>
      obtain ⟨a, rfl, e1, e2⟩ := vr
      obtain ⟨b, vs, f1, f2, f3, f4, f5, f6⟩ := rel0.dic e2
      rw [e1] at f1
      cases f1
      have own : Own σ' g' i a := own_d e2 e1
      have hN2 : ∀ b, ((T b ∨ pm pa g'.pen b) ∨ b = a) → Nv pa' T σ' g' b := fun b z => z.elim (hN b) fun z => by rw [z]; exact .inr (.inr ⟨i, own⟩)
      refine ⟨a, vs, rfl, f4, by rw [← hP, ← hw]; exact f2, f3.mono hN2, fun ys e => ?_⟩
      obtain ⟨_, ws, h2, h3⟩ := rel0.pn ys e
      have ep := hpa (by rw [e]; rfl)
      refine ⟨fun z => f6 ⟨by rw [e]; rfl, by rw [ep, z]⟩, ws, by rw [← ep]; exact h2, h3.mono hN2⟩
    | scr ns =>
      obtain ⟨a, rfl, h2⟩ := vr
      refine ⟨a, rfl, ?_⟩
      exact h2.imp (fun ⟨h3, ob, h4⟩ => ⟨fun z => h3 (epm a z), ob, h4⟩) id
    | pen => exact ⟨by rw [← hpa vr.2]; exact vr.1, vr.2⟩
    | fn k cs => exact absurd rfl (hnf k cs).1
    | nfn k cs => exact absurd rfl (hnf k cs).2
/-- falling off the end gives None -/
theorem PostSt.ret {pa pa' : Addr} {T : AS} {H H1 : Hp} {σ σ' : L2.St} {g0 g1 : G} {r' : R} {pen q : Option (List D)} (hP : F.P = P) (hw : F.w = w) (hp : g0.pen = pen) (st : PostSt F K pa pa' T H σ H g0 σ' H1 g1)
    (h : retC pen (.d .none) g1 = some (r', q)) : PostC P w K pa T H pen .non H1 r' q :=
  PostE.ret hP hw hp st (v := .non) (r := .d .none) ⟨.refl _ _, st.rel, .non, rfl, fun _ z => z⟩ h
/-- cells are told again at a call's end -/
theorem un_ovl {fs : List Addr} {cl : List (Str × Addr)} {H H2 H' : Hp} {h h' h2 : Heap} (un : Un fs [] H2 H' h h') (hno : ∀ b, ¬ isCl cl b → H2 b = H b) (hc : ∀ b, isCl cl b → H2 b = none ∧ ((h.get? b = none ∧ H b = none) ∨ ∃ o, H b = some (CellO b o))) : Un fs [] H (ovl cl h2 H') h h' where
  keep := fun b o e n f x => by
    by_cases c : isCl cl b
    · exact un.keep b o e (hc b c).1 f x
    · exact un.keep b o e (by rw [hno b c]; exact n) f x
  slot := fun b o e n f x => by
    by_cases c : isCl cl b
    · exact un.slot b o e (hc b c).1 f x
    · exact un.slot b o e (by rw [hno b c]; exact n) f x
  free := fun b o e n x => by
    by_cases c : isCl cl b
    · rcases (hc b c).2 with ⟨z, _⟩ | ⟨o', z⟩
      · rw [e] at z; cases z
      · rw [n] at z; cases z
    · rw [ovl_no c]
      exact un.free b o e (by rw [hno b c]; exact n) x
  there := fun b o e x => un.there b o e x
  tups := fun b xs e => by
    have c : ¬ isCl cl b := fun c => by
      rcases (hc b c).2 with ⟨_, z⟩ | ⟨o', z⟩ <;> rw [e] at z <;> cases z
    rw [ovl_no c]
    exact un.tups b xs (by rw [hno b c]; exact e)
  frzs := fun b o u e => by
    have c : ¬ isCl cl b := fun c => by
      rcases (hc b c).2 with ⟨_, z⟩ | ⟨o', z⟩ <;> rw [e] at z <;> cases z
    rw [ovl_no c]
    exact un.frzs b o u (by rw [hno b c]; exact e)
  tbls := fun b ps e => by
    have c : ¬ isCl cl b := fun c => by
      rcases (hc b c).2 with ⟨_, z⟩ | ⟨o', z⟩ <;> rw [e] at z <;> cases z
    rw [ovl_no c]
    exact un.tbls b ps (by rw [hno b c]; exact e)
/-- a def that ends by making a function -/
def SndL (P : Program) (w : World) (K : Fg) (mg : Str → Option Value) (base : Heap) (p : Pgm) (n : Nat) : Prop :=
  ∀ F X c sts irs m, XO P w K mg base p n F X c → XG X c → chkSs p m c sts irs = true → lamLast irs = true → ∀ g k cs g', (ev p.fns n).ss irs g = some (.ret (.nfn k cs), g') → ∀ pa T H0 σ H, σ.length = X.N.length → Rel F X.K pa T H0 σ H g →
    ∀ pins s, Inv X pins σ H s → wpAny (model X.prog X.w) X.A (execs sts X.env) (fun fl s' => ∃ pa' σ' H1 g1 v u H', fl = .ret u ∧ Inv X pins σ' H' s' ∧ RelV v u ∧ PostSt F X.K pa pa' T H0 σ H g σ' H1 g1 ∧ PostE F X.K pa' T H0 σ' H1 g1 v H' (.nfn k cs) g') X.xe s
theorem nx_only {E : Ev} {i : IS} {g g1 : G} {fl : Fl} (hi : (∃ j e, i = .set j e) ∨ (∃ j e, i = .own j e) ∨ (∃ js e, i = .unp js e) ∨ (∃ e, i = .exp e)) (q : stS E i g = some (fl, g1)) : fl = .nx := by
  rcases hi with ⟨j, e, rfl⟩ | ⟨j, e, rfl⟩ | ⟨j, e, rfl⟩ | ⟨e, rfl⟩ <;> simp only [stS] at q
  · split at q
    · cases q
    · rename_i r g2 _
      cases e2 : keepR r g2 with
      | none => rw [e2] at q; cases q
      | some d => rw [e2] at q; cases q; rfl
  · split at q <;> first | (cases q; rfl) | cases q
  · split at q
    · cases q
    · split at q
      · rename_i ds g2 _
        cases e2 : setDs g2 j ds with
        | none => rw [e2] at q; cases q
        | some d => rw [e2] at q; cases q; rfl
      · cases q
  · cases e2 : E.e e g with
    | none => rw [e2] at q; cases q
    | some d => rw [e2] at q; cases q; rfl
theorem snd_l (S : Snd P w K mg base p n) (SS : SndS P w K mg base p n) (SL : SndL P w K mg base p n) : SndL P w K mg base p (n + 1) := by
  intro F X c sts irs m O G1 hc hl g k cs g' q pa T H0 σ H hlen rl pins s I
  cases m with
  | zero => cases hc
  | succ m =>
    unfold chkSs at hc
    split at hc
    · cases hl
    · rename_i st ss i is
      rw [Bool.and_eq_true] at hc
      obtain ⟨h1, h2⟩ := hc
      have q' : (match stS (ev p.fns n) i g with
        | none => none
        | some (.nx, g1) => (ev p.fns n).ss is g1
        | some (.ret r, g1) => some (.ret r, g1)) = some (.ret (.nfn k cs), g') := q
      have cont : lamLast is = true → ((∃ j e, i = .set j e) ∨ (∃ j e, i = .own j e) ∨ (∃ js e, i = .unp js e) ∨ (∃ e, i = .exp e)) → wpAny (model X.prog X.w) X.A (execs (st :: ss) X.env) (fun fl s' => ∃ pa' σ' H1 g1 v u H', fl = .ret u ∧ Inv X pins σ' H' s' ∧ RelV v u ∧ PostSt F X.K pa pa' T H0 σ H g σ' H1 g1 ∧ PostE F X.K pa' T H0 σ' H1 g1 v H' (.nfn k cs) g') X.xe s := fun hl2 hi => by
        cases e1 : stS (ev p.fns n) i g with
        | none => rw [e1] at q'; cases q'
        | some fg =>
          obtain ⟨f1, g1⟩ := fg
          have hf := nx_only hi e1
          subst hf
          rw [e1] at q'
          have a := ok_stmt S SS O G1 h1
          have run := a g .nx g1 e1 pa T H0 σ H { nx := fun σ' H' => ∃ pa', PostSt F X.K pa pa' T H0 σ H g σ' H' g1, rt := fun _ _ => False, bk := fun _ _ => False, ct := fun _ _ => False } hlen rl (fun _ pa' σ' H' p' => ⟨pa', p'⟩) (fun r hf => by cases hf) pins s I
          refine wpAny_execs_cons (thn run fun f s1 hs => ?_)
          cases f with
          | next =>
            obtain ⟨σ1, H1, J, pa1, p1⟩ := hs
            refine wpAny_mono (SL F X c ss is m (O.le (Nat.le_succ n)) G1 h2 hl2 g1 k cs g' q' pa1 T H0 σ1 H1 (by rw [p1.len]; exact hlen) p1.rel pins s1 J) (fun f s2 hs => ?_) fun _ _ z => z
            obtain ⟨pa', σ', H2, g2, v, u, H', e, J2, rv, p2, pe⟩ := hs
            exact ⟨pa', σ', H2, g2, v, u, H', e, J2, rv, p1.trans p2, pe⟩
          | ret v => obtain ⟨_, _, _, _, _, z⟩ := hs; exact z.elim
          | brk => obtain ⟨_, _, _, z⟩ := hs; exact z.elim
          | cont => obtain ⟨_, _, _, z⟩ := hs; exact z.elim
      cases i with
      | set j e => exact cont hl (.inl ⟨j, e, rfl⟩)
      | own j e => exact cont hl (.inr (.inl ⟨j, e, rfl⟩))
      | unp j e => exact cont hl (.inr (.inr (.inl ⟨j, e, rfl⟩)))
      | exp e => exact cont hl (.inr (.inr (.inr ⟨e, rfl⟩)))
      | ret e =>
        cases e with
        | lam k0 js =>
          cases is with
          | cons _ _ => cases hl
          | nil =>
            have hss : ss = [] := by
              cases m with
              | zero => cases h2
              | succ m =>
                cases ss with
                | nil => rfl
                | cons _ _ => cases h2
            subst hss
            simp only [chkS] at h1
            split at h1
            · rename_i vv pos
              split at h1
              · rename_i vv
                have O' : XO P w K mg base p n F X c := O.le (Nat.le_succ n)
                have he := S.e F X c vv (.lam k0 js) m O' h1
                cases e1 : (ev p.fns n).e (.lam k0 js) g with
                | none => simp only [stS, e1] at q'; cases q'
                | some rg =>
                  obtain ⟨r, g1⟩ := rg
                  simp only [stS, e1, Option.map_some, Option.some.injEq, Prod.mk.injEq, Fl.ret.injEq] at q'
                  obtain ⟨rfl, rfl⟩ := q'
                  have run := he g _ _ e1 pa T H0 σ H (fun v H' => PostE F X.K pa T H0 σ H g v H' (.nfn k cs) g1) rl (fun _ _ z => z) pins s I
                  refine wpAny_execs_cons (wpAny_Return_some (thn run fun u s1 ⟨v, H1, I1, r1, pe⟩ => ?_))
                  exact ⟨pa, σ, H, g, v, u, H1, rfl, I1, r1, .refl rl, pe⟩
              · cases h1
            · cases h1
        | _ => cases hl
      | _ => cases hl
    · cases hc
theorem HOk.get {P : Program} {w : World} {H : Hp} {h : Heap} (x : HOk P w H h) {a : Addr} {o : Obj} (e : H a = some (CellO a o)) : h.get? a = some o := (x a _ e).1
/-- a def's body run by the small language -/
theorem def_run {M : Nat} (G0 : Glob mg p) (hT : ∀ q, q ∈ Tabs.l → GxR.TabB base mg q.1 q.2) (hck : ∀ k C, Tabs.chk k C ↔ codeB p M k C = true) (hnm : ∀ l cc, Tabs.nm l cc = p.nmf l cc) (SS : SndS P w K mg base p n) (SL : SndL P w K mg base p n) {fd : FnD} (D0 : DefOk K mg p M fd) : ∃ a, mg fd.name = some (.ref a) ∧ PySem.W.keepIn K (.ref a) = true ∧
    ∀ (A : Around) (outer : List Env) (s : Shared) (H : Hp) (us : List Value) (vs : List V) (Q : VK) (pa : Addr) (T : AS) (as : List Sv) (pen : Option (List D)) (fl : Fl) (g' : G),
      Room (n + 1) A → A.guards = some [] → Env0 P w K mg base A outer s H → Vals vs us → ArgR K pa T H pen vs as → as.length = fd.ps →
      (ev p.fns n).ss fd.body { env := as.map some ++ List.replicate (fd.n - fd.ps) none, pen := pen } = some (fl, g') →
      ((∀ F : Fm, F.P = P → F.w = w → (fl = .nx → ∀ pa' σ σ' H', PostSt F K pa pa' T H σ H { env := as.map some ++ List.replicate (fd.n - fd.ps) none, pen := pen } σ' H' g' → Q .non H') ∧
      (∀ r, fl = .ret r → ∀ pa' σ σ' H1 g1 v H', PostSt F K pa pa' T H σ H { env := as.map some ++ List.replicate (fd.n - fd.ps) none, pen := pen } σ' H1 g1 → PostE F K pa' T H σ' H1 g1 v H' r g' → Q v H')) ∨
      (lamLast fd.body = true ∧ ∃ k cs, fl = .ret (.nfn k cs) ∧ cs.all cvD = true ∧ g'.pen.isSome = pen.isSome ∧ ∀ v H', PostC P w K pa T H pen v H' (.fn k cs) g'.pen → Q v H')) →
      codeAny (model P w) A (.call (.ref a) ⟨us, []⟩) (CR CX0 outer P w H s Q E0) s := by
  obtain ⟨a, qual, params, body, scope, dV, kV, doc, pm', cdv, ct, oc, an, od, osl, N, ps, m, fs, lk, hcd, hsc, hps, hN, hmg, hkp, hbind, hchk, hcT⟩ := D0.ex
  refine ⟨a, hmg, hkp, fun A outer s H us vs Q pa T as pen fl g' hr hg e0 rv ar hlen eb kk => ?_⟩
  have S : FnScope N ps scope := C8.fnScope_by hsc
  have hvl : vs.length = ps.length := by rw [pairs_len ar.a, hlen, hps]
  have KX : K.In s.heap := e0.mod.kin.keeps fun b o e => (e0.bs b o e).1
  have lim : s.heap.NoLimit := e0.mod.nolimit.keeps fun b o e => (e0.bs b o e).1
  have hkind : ∀ y ∈ ps.zip us, scope.names.lookup y.1 = some .local ∨ (scope.names.lookup y.1 = some .cell ∧ ((cellsFrom (s.heap.objs.size + 1) scope.names []).lookup y.1).isSome = true) := fun ⟨n, v⟩ hy => by
    rcases S.par n (List.of_mem_zip hy).1 with q | q
    · exact .inl q
    · exact .inr ⟨q, PySem.W.cellsFrom_some _ _ _ (.inl q)⟩
  refine codeAny_call_function hr.depth (KX _ _ lk) rfl S.co S.gen rfl (PySem.W.codeRec_of KX hcd) (BindsTo.of_eq (hbind us (by rw [← rv.length]; exact hvl)) _ _ _ _ ?_)
  refine wpAny_newFunctionEnv_cells S.kind hkind fun env he s1 x => ?_
  subst he
  refine ⟨lim.keeps x.toInCall.keep, codeAny_func ?_⟩
  let X0 : Cx := cxOf CX0 P w K mg base N qual scope a cdv A outer s H E0
  have I0 : Inv X0 [] (L2.start N vs) H s1 := inv_start S hr.hd e0 hvl rv x
  have I : Inv X0.nox [] (L2.start N vs) H s1 := I0.wish _
  let Fd : Fm := ⟨X0.env.cells, N, P, w, fs, true, scope⟩
  let c0 : Ct := ⟨N, scope, qual ++ ".<locals>.", true, codeB p M, fs⟩
  have O : XO P w K mg base p n Fd X0.nox c0 := {
    eP := rfl, ew := rfl, eK := rfl, em := rfl, eb := rfl, room := hr.deeper _, gd := hg, calm := rfl, nd := S.nd, cN := rfl, cs := rfl, kf := S.kind, xe := rfl, cd := hcT,
    fN := rfl, fP := rfl, fw := rfl, fon := rfl, ffs := rfl, fcl := fun _ => ⟨rfl, rfl, rfl, fun _ => rfl⟩, ccb := fun k C h => (hck k C).mpr h, nms := hnm, tbs := hT, bl := G0.bl, cst := G0.cst }
  have G1 : XG X0.nox c0 := ⟨rfl, S.nd, rfl, fun x hx => ⟨loc_of hx, .inl rfl⟩⟩
  have rl : Rel Fd K pa T H (L2.start N vs) H { env := as.map some ++ List.replicate (fd.n - fd.ps) none, pen := pen } := ar.start (by rw [hN, hvl, hps])
  have hl0 : (L2.start N vs).length = N.length := by
    rw [rl.len]
    show (as.map some ++ List.replicate (fd.n - fd.ps) none).length = _
    rw [List.length_append, List.length_map, List.length_replicate, hlen, hN]
    have : ps.length ≤ N.length := by have := congrArg List.length S.pre; rw [List.length_take] at this; omega
    omega
  have fin : ∀ {σ' : L2.St} {H' : Hp} {v : V} {u : Value} {s' : Shared}, Inv X0.nox [] σ' H' s' → RelV v u → Q v H' → CE outer P w H s Q u s' :=
    fun {σ' H' v u s'} J rv q => ⟨v, H', J.os, J.bare, J.base, J.hok, rv, q⟩
  rcases kk with kk | ⟨hlam, k, cs, rfl, hall, hpen, kk⟩
  · obtain ⟨kn, kr⟩ := kk Fd rfl rfl
    have hw := SS Fd X0.nox c0 body fd.body m O G1 hchk
    have run : wpAny (model P w) X0.A (execs body X0.env) (SP X0.nox [] { nx := fun _ H' => Q .non H', rt := Q }) (fun _ _ => False) s1 :=
      hw _ fl g' eb pa T H (L2.start N vs) H _ hl0 rl (fun hfl pa' σ' H' st => kn hfl pa' _ σ' H' st) (fun rr hfl pa' σ' H1 g1 v H' st pe => kr rr hfl pa' _ σ' H1 g1 v H' st pe) [] s1 I
    refine wpAny_mono run (fun fl s' hs => ?_) fun e s' hs => hs.elim
    cases fl with
    | ret u =>
      obtain ⟨v, σ', H', J, rv, q⟩ := hs
      exact fin J rv q
    | next =>
      obtain ⟨σ', H', J, q⟩ := hs
      exact fin (v := V.non) (u := Value.none) J rfl q
    | brk =>
      obtain ⟨_, _, _, q⟩ := hs
      exact False.elim q
    | cont =>
      obtain ⟨_, _, _, q⟩ := hs
      exact False.elim q
  · have run := SL Fd X0.nox c0 body fd.body m O G1 hchk hlam _ k cs g' eb pa T H (L2.start N vs) H hl0 rl [] s1 I
    refine wpAny_mono run (fun fl s' hs => ?_) fun e s' hs => hs.elim
    obtain ⟨pa', σ', H1, g1, v, u, H', rfl, J, rv, st, pe⟩ := hs
    have C : Cls X0.env.cells s'.heap H' := cls_of J (.inl rfl)
    have rel0 : Rel Fd K pa' T H σ' H' g' := pe.rel
    have hpa : g'.pen.isSome = true → pa' = pa := fun z => (st.pas (by rw [hpen] at z; exact z)).1
    have epm : ∀ a, pm pa g'.pen a → pm pa' g'.pen a := fun a z => ⟨z.1, by rw [hpa z.1]; exact z.2⟩
    have epm2 : ∀ a, pm pa' g'.pen a → pm pa g'.pen a := fun a z => ⟨z.1, by rw [← hpa z.1]; exact z.2⟩
    have hN : ∀ a, (T a ∨ pm pa g'.pen a) → Nv pa' T σ' g' a := fun a z => z.elim .inl fun z => .inr (.inl (epm a z))
    have hl : ∀ a xs, LsR (Nv pa' T σ' g') H' a xs → LsR (fun a => T a ∨ pm pa g'.pen a) (ovl X0.env.cells s'.heap H') a xs := fun a xs q => ⟨fun z => q.1 (hN a z), ovl_some C q.2⟩
    have ht : ∀ a xs, TpR K (Nv pa' T σ' g') H' a xs → TpR K (fun a => T a ∨ pm pa g'.pen a) (ovl X0.env.cells s'.heap H') a xs := fun a xs q => q.imp (fun z => ⟨fun y => z.1 (hN a y), z.2.imp (ovl_some C) fun ⟨o, y⟩ => ⟨o, ovl_some C y⟩⟩) id
    have hcls : Fd.cls = X0.env.cells := if_pos rfl
    refine ⟨v, ovl X0.env.cells s'.heap H', J.os, J.bare, un_ovl J.base (fun _ _ => rfl) fun b c => ?_, ovl_hok C J.hok, rv, kk v _ ⟨⟨fun b o e n t => ovl_some C (rel0.x0.k b o e (fun z => n ⟨by rw [← hpen]; exact z.1, (epm2 b z).2⟩) t), fun b tb => tab_ovl C (rel0.x0.t b tb), fun b e => rel0.x0.d b (ovl_none C e)⟩, hpen, fun xs e => ?_, ?_⟩⟩
    · obtain ⟨y, e⟩ := c
      have nb : s.heap.get? b = none := Heap.get?_none_of_le (J.ok.cab y b rfl e)
      have hb : H b = none := by
        cases q : H b with
        | none => rfl
        | some o =>
          obtain ⟨o', z⟩ := objOk_get (e0.hok b o q)
          rw [nb] at z
          cases z
      exact ⟨hb, .inl ⟨nb, hb⟩⟩
    · obtain ⟨_, ws, h2, h3⟩ := rel0.pn xs e
      rw [hpa (by rw [e]; rfl)] at h2
      exact ⟨ws, ovl_some C h2, h3.trans hl ht⟩
    · have hd : ∀ c, c ∈ cs → ∃ d, c = Cv.d d := fun c hc => by
        have := List.all_eq_true.mp hall c hc
        cases c with
        | d x => exact ⟨x, rfl⟩
        | fn _ _ => cases this
      refine CvR.trans (fun _ _ z => DR.trans hl ht z) (fun a φ n z => ⟨fun y => n (hN a y), ovl_some C z⟩) (fun a w z => ?_) (pe.vr.2 hd)
      have z1 := crV_ovl (F := Fd) (N := Nv pa' T σ' g') (N' := fun a => T a ∨ pm pa g'.pen a) J rfl (fun _ => ⟨rfl, rfl⟩) (fun a z => let ⟨o, e, _⟩ := rel0.nv a z; ⟨o, e⟩) hN (.inr z)
      rw [hcls] at z1
      refine ⟨z1, ?_⟩
      obtain ⟨_, y, j, e1, _⟩ := z
      exact rel0.x0.d a (C.no a ⟨y, e1⟩)
theorem paired_all {α β : Type} {R R' : α → β → Prop} {f : β → Bool} (h : ∀ a b, f b = true → R a b → R' a b) : ∀ {xs : List α} {ys : List β}, Paired R xs ys → ys.all f = true → Paired R' xs ys
  | [], [], _, _ => .nil
  | _ :: _, _ :: _, .cons a q, e => by
    rw [List.all_cons, Bool.and_eq_true] at e
    exact .cons (h _ _ e.1 a) (paired_all h q e.2)
/-- what is told of a code -/
theorem code_parts {M k : Nat} {C : CodeT} (h : codeB p M k C = true) : ∃ fd N, p.fns[k]? = some fd ∧ fd.fr = some C.fr.length ∧ NdefX.NScope N (N.take fd.ps) C.fr C.scope ∧ argsOk C.params (N.take fd.ps) = true ∧ (N.take fd.ps).length = fd.ps ∧ N.length = fd.n ∧ N ∉ p.tabs ∧
    ((∃ b, C.body = .stmts b ∧ chkSs p M (ctK N C.scope) b fd.body = true) ∨ ∃ e i, C.body = .expr e ∧ fd.body = [.ret i] ∧ chkE p M (ctK N C.scope) e i = true) := by
  unfold codeB at h
  split at h
  · rename_i fd N e1 e2
    simp only [Bool.and_eq_true, decide_eq_true_eq, Bool.not_eq_true', decide_eq_false_iff_not] at h
    obtain ⟨⟨⟨⟨⟨⟨h1, h2⟩, h3⟩, h4⟩, h5⟩, h6⟩, h7⟩ := h
    refine ⟨fd, N, e1, h1, NdefX.nscope_by h2, h3, h4, h5, h6, ?_⟩
    split at h7
    · rename_i b e3
      exact .inl ⟨b, e3, h7⟩
    · rename_i e e3
      split at h7
      · rename_i i e4
        exact .inr ⟨e, i, e3, e4, h7⟩
      · cases h7
  · cases h
/-- the cells of a function that is called, no longer told -/
structure Ent2 (P : Program) (w : World) (K : Fg) (mg : Str → Option Value) (base : Heap) (A : Around) (outer : List Env) (s : Shared) (H : Hp) (pa : Addr) (T : AS) (pen : Option (List D)) (vs : List V) (as : List Sv) (cl : List (Str × Addr)) (ws : List V) (cs : List Cv) : Prop where
  C : Cls cl s.heap (unov cl H)
  Kp : Kept cl s.heap H
  e0 : Env0 P w K mg base A outer s (unov cl H)
  ar : ArgR K pa T (unov cl H) pen vs as
  cv : CvRs K (fun a => T a ∨ pm pa pen a) (unov cl H) (crH (fun a => T a ∨ pm pa pen a) (unov cl H)) ws cs
theorem ent2 {A : Around} {outer : List Env} {s : Shared} {H : Hp} {pa : Addr} {T : AS} {pen : Option (List D)} {vs ws : List V} {as : List Sv} {cs : List Cv} {cl : List (Str × Addr)} (e0 : Env0 P w K mg base A outer s H) (ar : ArgR K pa T H pen vs as) (hsv : as.all svD = true)
    (hcell : ∀ b, isCl cl b → ∃ (o : Obj) (u : Value), ¬ (T b ∨ pm pa pen b) ∧ H b = some (CellO b o) ∧ o.data = .cell (some u)) (cv : CvRs K (fun a => T a ∨ pm pa pen a) H (fun a w => crH (fun a => T a ∨ pm pa pen a) H a w ∧ ¬ isCl cl a) ws cs) : Ent2 P w K mg base A outer s H pa T pen vs as cl ws cs := by
  have C : Cls cl s.heap (unov cl H) := ⟨fun b c => unov_cell c, fun b c => by
    obtain ⟨o, u, _, e1, e2⟩ := hcell b c
    exact ⟨o, some u, HOk.get e0.hok e1, e2⟩⟩
  have Kp : Kept cl s.heap H := ⟨fun b o c e => by
    obtain ⟨o', u, _, e1, e2⟩ := hcell b c
    have e3 := HOk.get e0.hok e1
    rw [e] at e3
    cases e3
    exact e1⟩
  have no : ∀ {b}, H b = none → unov cl H b = none := fun {b} e => by
    by_cases c : isCl cl b
    · exact unov_cell c
    · rw [unov_no c]; exact e
  have nc : ∀ {b o}, H b = some o → (∀ ob, o ≠ CellO b ob) → unov cl H b = some o := fun {b o} e ne => unov_some (P := P) (w := w) C Kp e ne
  have hl : ∀ {N : AS} a xs, LsR N H a xs → LsR N (unov cl H) a xs := fun a xs q => ⟨q.1, nc q.2 fun _ => nofun⟩
  have ht : ∀ {N : AS} a xs, TpR K N H a xs → TpR K N (unov cl H) a xs := fun a xs q => q.imp (fun z => ⟨z.1, z.2.imp (fun y => nc y fun _ => nofun) fun ⟨o, y⟩ => ⟨o, nc y fun _ => nofun⟩⟩) id
  refine ⟨C, Kp, ⟨e0.frames, e0.mod, fun b o q => ⟨(e0.bs b o q).1, no (e0.bs b o q).2⟩, e0.bsz, e0.funs, fun b hb => no (e0.frf b hb), unov_hok C Kp e0.hok, e0.bare⟩, ⟨?_, fun xs e => ?_, fun a z => ?_, fun q hq => tab_unov C Kp e0.hok (ar.tb q hq)⟩, ?_⟩
  · refine paired_all (f := svD) (fun v sv hs q => ?_) ar.a hsv
    cases sv with
    | d x => exact DR.trans hl ht q
    | own _ => exact q
    | scr ns =>
      obtain ⟨a, h1, h2⟩ := q
      exact ⟨a, h1, h2.imp (fun ⟨h3, ob, h4⟩ => ⟨h3, ob, nc h4 fun _ => nofun⟩) id⟩
    | pen => exact q
    | fn k cs => cases hs
    | ofn _ _ => exact q
    | dic _ _ => exact q
  · obtain ⟨h1, ws, h2, h3⟩ := ar.pn xs e
    exact ⟨h1, ws, nc h2 fun _ => nofun, h3.trans hl ht⟩
  · obtain ⟨o, e, n⟩ := ar.td a z
    refine ⟨o, ?_, n⟩
    rw [unov_no fun c => ?_]
    · exact e
    · obtain ⟨_, _, nn, _⟩ := hcell a c
      exact nn (.inl z)
  · exact CvRs.mv2 (fun _ _ z => DR.trans hl ht z) (fun f C' cl' c' e => (unov_no (fnV_not C Kp e0.hok e)).trans e) (fun c' q e => (unov_no (codeO_not C Kp e0.hok e)).trans e) (fun a w z => by
      obtain ⟨⟨n, o, u, h1, h2, h3⟩, h4⟩ := z
      exact ⟨n, o, u, (unov_no h4).trans h1, h2, h3⟩) cv
/-- what the body leaves, its cells told again -/
theorem PostC.more {H H' : Hp} {h : Heap} {cl : List (Str × Addr)} {pa : Addr} {T : AS} {pen pen' : Option (List D)} {v : V} {r : R} (C0 : Cls cl h (unov cl H)) (hok : HOk P w H h) (C : Cls cl h H') (Kp : Kept cl h H) (ob : ∀ b, isCl cl b → ∃ o, h.get? b = some o) (pc : PostC P w K pa T (unov cl H) pen v H' r pen') (nf : ∀ k cs, r ≠ .fn k cs) : PostC P w K pa T H pen v (ovl cl h H') r pen' := by
  have hl : ∀ {N : AS} a xs, LsR N H' a xs → LsR N (ovl cl h H') a xs := fun a xs q => ⟨q.1, ovl_some C q.2⟩
  have ht : ∀ {N : AS} a xs, TpR K N H' a xs → TpR K N (ovl cl h H') a xs := fun a xs q => q.imp (fun z => ⟨z.1, z.2.imp (ovl_some C) fun ⟨o, y⟩ => ⟨o, ovl_some C y⟩⟩) id
  have cell : ∀ {b}, isCl cl b → ∃ o, h.get? b = some o ∧ H b = some (CellO b o) := fun {b} c => by
    obtain ⟨o, e⟩ := ob b c
    exact ⟨o, e, Kp.k b o c e⟩
  refine ⟨⟨fun b o e n t => ?_, fun b tb => tab_ovl C (pc.ext.t b ?_), fun b e => ?_⟩, pc.pen, fun xs e => ?_, ?_⟩
  · by_cases c : isCl cl b
    · obtain ⟨o', e1, e2⟩ := cell c
      rw [ovl_cell c, e1]
      rw [e2] at e
      exact e
    · rw [ovl_no c]
      exact pc.ext.k b o (by rw [unov_no c]; exact e) n t
  · exact tab_unov C0 Kp hok tb
  · by_cases c : isCl cl b
    · obtain ⟨o', e1, e2⟩ := cell c
      rw [ovl_cell c, e1] at e
      cases e
    · rw [ovl_no c] at e
      have := pc.ext.d b e
      rw [unov_no c] at this
      exact this
  · obtain ⟨ws, h2, h3⟩ := pc.pn xs e
    exact ⟨ws, ovl_some C h2, h3.trans hl ht⟩
  · have vr := pc.vr
    have un : ∀ {b}, unov cl H b = none → ¬ isCl cl b → H b = none := fun {b} e c => by rw [unov_no c] at e; exact e
    cases r with
    | d x => exact DR.trans hl ht vr
    | fr xs =>
      obtain ⟨q, us, e1, e2, e3, e4, e5⟩ := vr
      have cq : ¬ isCl cl q := fun c => by rw [C.no q c] at e3; cases e3
      exact ⟨q, us, e1, un e2 cq, ovl_some C e3, e4.trans hl ht, fun ys e => let ⟨f1, ws, f2, f3⟩ := e5 ys e; ⟨f1, ws, ovl_some C f2, f3.trans hl ht⟩⟩
    | fd t kvs =>
      obtain ⟨q, es, e1, e2, e3, e4, e5⟩ := vr
      have cq : ¬ isCl cl q := fun c => by rw [C.no q c] at e3; cases e3
      exact ⟨q, es, e1, un e2 cq, ovl_some C e3, e4.trans fun _ _ z => DR.trans hl ht z, fun ys e => let ⟨f1, ws, f2, f3⟩ := e5 ys e; ⟨f1, ws, ovl_some C f2, f3.trans hl ht⟩⟩
    | bo _ _ => exact vr
    | bd _ _ _ => exact vr
    | nfn _ _ => exact vr
    | scr ns =>
      obtain ⟨a, h1, h2⟩ := vr
      exact ⟨a, h1, h2.imp (fun ⟨h3, ob, h4⟩ => ⟨h3, ob, ovl_some C h4⟩) id⟩
    | pen => exact vr
    | fn k cs => exact absurd rfl (nf k cs)
/-- the body of a made function -/
theorem code_run {M : Nat} (G0 : Glob mg p) (hT : ∀ q, q ∈ Tabs.l → GxR.TabB base mg q.1 q.2) (hck : ∀ k C, Tabs.chk k C ↔ codeB p M k C = true) (hnm : ∀ l cc, Tabs.nm l cc = p.nmf l cc) (S1 : ∀ n1, n = n1 + 1 → Snd P w K mg base p n1) (SS : SndS P w K mg base p n) : KallOk P w K mg base p (n + 1) := by
  intro k cs as pen r pen' q A outer s H us vs Q pa T f hr hg e0 rv ar cvf kk
  have q' : stK p.fns (ev p.fns n) k cs as pen = some (r, pen') := q
  cases cvf with
  | fn h1 h2 h3 h4 h5 h6 h7 h8 h9 =>
  rename_i c C cl ws
  obtain ⟨fd, N, hfd, hfr, S0, hargs, hps, hN, hnt, hbody⟩ := code_parts ((hck k C).mp h1)
  unfold stK at q'
  rw [hfd] at q'
  simp only at q'
  by_cases hcond : as.length = fd.ps ∧ fd.fr = some cs.length ∧ as.all svD = true
  case neg => rw [if_neg hcond] at q'; cases q'
  rw [if_pos hcond] at q'
  obtain ⟨hlen, hfr2, hsv⟩ := hcond
  have hcsl : C.fr.length = cs.length := by rw [hfr] at hfr2; exact Option.some.inj hfr2
  have hwl : ws.length = cs.length := cvs_len h9
  have hvl : vs.length = fd.ps := by rw [pairs_len ar.a, hlen]
  -- the cells
  have hcell : ∀ b, isCl cl b → ∃ (o : Obj) (u : Value), ¬ (T b ∨ pm pa pen b) ∧ H b = some (CellO b o) ∧ o.data = .cell (some u) := fun b ⟨y, e⟩ => by
    obtain ⟨i, hi⟩ := List.mem_iff_getElem?.mp (h7 y b e)
    obtain ⟨a, w, e1, _, nn, o, u, e2, e3, _⟩ := h8 i y hi
    rw [e] at e1
    cases e1
    exact ⟨o, u, nn, e2, e3⟩
  have E2 := ent2 e0 ar hsv hcell h9
  have lim : s.heap.NoLimit := e0.mod.nolimit.keeps fun b o e => (e0.bs b o e).1
  obtain ⟨⟨od, sl, doc, pm', ctv, ho⟩, _, _⟩ := e0.hok f _ h3
  obtain ⟨⟨oc, vsc, tq, hoc, hdc, hvc⟩, _, _⟩ := e0.hok c _ h5
  have hcd : s.heap.CodeRec (.ref c) C.qual := ⟨c, oc, vsc, tq, rfl, hoc, hdc, hvc⟩
  have ndp : (N.take fd.ps).Nodup := S0.nd.sublist (List.take_sublist _ _)
  have hus : us.length = (N.take fd.ps).length := by rw [← rv.length, hvl, hps]
  have hvl2 : vs.length = (N.take fd.ps).length := by rw [hvl, hps]
  -- the frame
  let F0 : NdefX.NF := ⟨C.name, C.qual, C.params, match C.body with | .stmts b => b | .expr _ => [], C.scope, cl, c⟩
  let X0 : Cx := NdefX.ncx CX0 P w K mg base N F0 f A outer s (unov cl H) E0
  let Fk : Fm := ⟨cl, N, P, w, [], false, C.scope⟩
  have CA : NdefX.CellsAt cl C.fr (ws.map some) s.heap (unov cl H) := by
    refine ⟨by rw [List.length_map, hwl, hcsl], fun y b e => ⟨unov_cell ⟨y, e⟩, ?_⟩, h6, fun i y e => ?_⟩
    · obtain ⟨o, u, _, e1, e2⟩ := hcell b ⟨y, e⟩
      exact ⟨some u, o, HOk.get e0.hok e1, e2⟩
    · obtain ⟨a, w, e1, e2, _, o, u, e3, e4, e5⟩ := h8 i y e
      refine ⟨a, e1, fun v hv => ?_⟩
      rw [List.getElem?_map, e2] at hv
      cases hv
      exact ⟨u, e5, o, HOk.get e0.hok e3, e4⟩
  have O : XO P w K mg base p n Fk X0.nox (ctK N C.scope) := {
    eP := rfl, ew := rfl, eK := rfl, em := rfl, eb := rfl, room := hr.deeper _, gd := hg, calm := rfl, nd := S0.nd, cN := rfl, cs := rfl, kf := S0.kind, xe := rfl, cd := fun h => absurd h hnt,
    fN := rfl, fP := rfl, fw := rfl, fon := rfl, ffs := rfl, fcl := (fun h => by cases h), ccb := (fun k C h => by cases h), nms := hnm, tbs := hT, bl := G0.bl, cst := G0.cst }
  have G1 : XG X0.nox (ctK N C.scope) := ⟨rfl, S0.nd, rfl, fun x hx => ⟨loc_of hx, .inr (by
    rcases loc_of hx with z | z
    · exact z
    · exact absurd rfl (S0.nocell _ (PySem.mem_of_lookup z)))⟩⟩
  have rl : Rel Fk K pa T (unov cl H) (NdefX.startF N vs (ws.map some)) (unov cl H) { env := as.map some ++ ((cs.map fun c => some (cvS c)) ++ List.replicate (fd.n - fd.ps - cs.length) none), pen := pen } := E2.ar.startC E2.cv (by rw [hN, hvl, hwl])
  have hpl : (N.take fd.ps).length + C.fr.length ≤ N.length := by
    have q := congrArg List.length S0.pre
    rw [List.length_take, List.length_append] at q
    omega
  have hl0 : (NdefX.startF N vs (ws.map some)).length = N.length := by
    unfold NdefX.startF
    simp only [List.length_append, List.length_map, List.length_replicate]
    rw [hwl, ← hcsl, hvl2]
    omega
  -- the end
  have ends : ∀ {σ' : L2.St} {H' : Hp} {v : V} {u : Value} {s' : Shared} {r' : R}, Inv X0.nox [] σ' H' s' → RelV v u → PostC P w K pa T (unov cl H) pen v H' r' pen' → (∀ k cs, r' ≠ .fn k cs) → (∀ v H', PostC P w K pa T H pen v H' r' pen' → Q v H') → CE outer P w H s Q u s' := fun {σ' H' v u s' r'} J rv pc nf kk => by
    have C' : Cls cl s'.heap H' := cls_of J (.inl rfl)
    have same : ∀ b o, isCl cl b → s.heap.get? b = some o → s'.heap.get? b = some o := fun b o ic e =>
      J.base.keep b o e (unov_cell ic) (fun z => by
        have e1 := e0.frf b z
        rw [E2.Kp.k b o ic e] at e1
        cases e1) (fun z => nomatch (show b ∈ ([] : List Addr) from z))
    have C2 : Cls cl s.heap H' := ⟨C'.no, E2.C.ob⟩
    have eo : ovl cl s'.heap H' = ovl cl s.heap H' := by
      funext b
      by_cases ic : isCl cl b
      · rw [ovl_cell ic, ovl_cell ic]
        obtain ⟨o, u, e1, _⟩ := E2.C.ob b ic
        rw [e1, same b o ic e1]
      · rw [ovl_no ic, ovl_no ic]
    refine ⟨v, ovl cl s.heap H', J.os, J.bare, un_ovl J.base (fun b c => unov_no c) fun b c => ?_, by rw [← eo]; exact ovl_hok C' J.hok, rv, kk v _ (pc.more E2.C e0.hok C2 E2.Kp (fun b c => let ⟨o, u, e, _⟩ := E2.C.ob b c; ⟨o, e⟩) nf)⟩
    obtain ⟨o, u, _, e1, _⟩ := hcell b c
    exact ⟨unov_cell c, .inr ⟨o, e1⟩⟩
  cases eb : (ev p.fns n).ss fd.body { env := as.map some ++ ((cs.map fun c => some (cvS c)) ++ List.replicate (fd.n - fd.ps - cs.length) none), pen := pen } with
  | none => rw [eb] at q'; cases q'
  | some fg =>
    obtain ⟨fl, g'⟩ := fg
    rw [eb] at q'
    have start : ∀ {h₁ : Heap}, h₁.Ns s.heap.objs.size (fun y => ((N.take fd.ps).zip us).reverse.lookup y) → (∀ b o, s.heap.get? b = some o → h₁.get? b = some o) → Inv X0.nox [] (NdefX.startF N vs (ws.map some)) (unov cl H) { s with heap := h₁, toks := s.toks + ((N.take fd.ps).zip us).length } := fun {h₁} hns kp =>
      (NdefX.inv_startN (CX := CX0) (E := E0) (F := F0) (f := f) S0 hr.hd E2.e0 hvl2 rv CA hns kp).wish _
    rcases hbody with ⟨b, hb, hchk⟩ | ⟨e, i, hb, hfb, hchk⟩
    · have hw := SS Fk X0.nox (ctK N C.scope) b fd.body M O G1 hchk
      refine codeAny_call_function hr.depth ho rfl S0.co S0.gen hb hcd ?_
      rw [bind_plain hargs ndp hus]
      refine wpAny_pure (wpAny_newFunctionEnv S0.nocell (fun ⟨n, _⟩ hy => S0.par n (List.of_mem_zip hy).1) (fun h₁ hns hsb => ⟨lim.fresh _ hsb, ?_⟩) S0.kind)
      show codeAny _ _ (.func b (NdefX.envF F0 f s.heap.objs.size)) _ _
      refine codeAny_func ?_
      have kp : ∀ b o, s.heap.get? b = some o → h₁.get? b = some o := fun b o e => hsb.extBut b o (Nat.ne_of_lt (Heap.lt_size e)) (Heap.get?_push_of_some _ e)
      have I := start hns kp
      have run : wpAny (model P w) X0.A (execs b X0.env) (SP X0.nox [] { nx := fun _ H' => PostC P w K pa T (unov cl H) pen .non H' r pen' ∧ ∀ k cs, r ≠ .fn k cs, rt := fun v H' => PostC P w K pa T (unov cl H) pen v H' r pen' ∧ ∀ k cs, r ≠ .fn k cs }) (fun _ _ => False) { s with heap := h₁, toks := s.toks + ((N.take fd.ps).zip us).length } :=
        hw _ fl g' eb pa T (unov cl H) _ (unov cl H) _ hl0 rl (fun hfl pa' σ' H' st => by
          subst hfl
          refine ⟨st.ret rfl rfl rfl q', fun k cs => ?_⟩
          obtain ⟨_, _, rfl, _⟩ := retC_inv q'
          exact nofun) (fun rr hfl pa' σ' H1 g1 v H' st pe => by
          subst hfl
          refine ⟨pe.ret rfl rfl rfl st q', fun k cs => ?_⟩
          obtain ⟨_, _, rfl, z⟩ := retC_inv q'
          exact frR_fn fun k cs => (z k cs).1) [] _ I
      refine wpAny_mono run (fun fl s' hs => ?_) fun e s' hs => hs.elim
      cases fl with
      | ret u =>
        obtain ⟨v, σ', H', J, rv, pc, nf⟩ := hs
        exact ends J rv pc nf kk
      | next =>
        obtain ⟨σ', H', J, pc, nf⟩ := hs
        exact ends (v := V.non) (u := Value.none) J rfl pc nf kk
      | brk =>
        obtain ⟨_, _, _, q⟩ := hs
        exact False.elim q
      | cont =>
        obtain ⟨_, _, _, q⟩ := hs
        exact False.elim q
    · cases n with
      | zero => cases eb
      | succ n1 =>
        have he := (S1 n1 rfl).e Fk X0.nox (ctK N C.scope) e i M (O.le (Nat.le_succ n1)) hchk
        rw [hfb] at eb
        have eb' : (match stS (ev p.fns n1) (.ret i) { env := as.map some ++ ((cs.map fun c => some (cvS c)) ++ List.replicate (fd.n - fd.ps - cs.length) none), pen := pen } with
          | none => none
          | some (.nx, g1) => (ev p.fns n1).ss [] g1
          | some (.ret r, g1) => some (.ret r, g1)) = some (fl, g') := eb
        cases e1 : (ev p.fns n1).e i { env := as.map some ++ ((cs.map fun c => some (cvS c)) ++ List.replicate (fd.n - fd.ps - cs.length) none), pen := pen } with
        | none => simp only [stS, e1] at eb'; cases eb'
        | some rg =>
          obtain ⟨r1, g1⟩ := rg
          simp only [stS, e1, Option.map_some, Option.some.injEq, Prod.mk.injEq] at eb'
          obtain ⟨rfl, rfl⟩ := eb'
          refine PySem.W.kla_callFunE hr.depth ho rfl S0.co S0.gen hb hcd ?_
          rw [bind_plain hargs ndp hus]
          refine wpAny_pure (wpAny_newFunctionEnv S0.nocell (fun ⟨n, _⟩ hy => S0.par n (List.of_mem_zip hy).1) (fun h₁ hns hsb => ⟨lim.fresh _ hsb, ?_⟩) S0.kind)
          show codeAny _ _ (.expr e (NdefX.envF F0 f s.heap.objs.size)) _ _
          have kp : ∀ b o, s.heap.get? b = some o → h₁.get? b = some o := fun b o e => hsb.extBut b o (Nat.ne_of_lt (Heap.lt_size e)) (Heap.get?_push_of_some _ e)
          have I := start hns kp
          have run := he _ r1 g1 e1 pa T (unov cl H) _ (unov cl H) (fun v H' => PostC P w K pa T (unov cl H) pen v H' r pen' ∧ ∀ k cs, r ≠ .fn k cs) rl (fun v H' pe => by
            refine ⟨pe.ret rfl rfl rfl (.refl rl) q', fun k cs => ?_⟩
            obtain ⟨_, _, rfl, z⟩ := retC_inv q'
            exact frR_fn fun k cs => (z k cs).1) [] _ I
          refine PySem.W.kla_codeExpr (wpAny_mono run (fun u s' hs => ?_) fun e s' hs => hs.elim)
          obtain ⟨v, H', J, rv, pc, nf⟩ := hs
          exact ends J rv pc nf kk
theorem call_ok {M : Nat} (G0 : Glob mg p) (hT : ∀ q, q ∈ Tabs.l → GxR.TabB base mg q.1 q.2) (hck : ∀ k C, Tabs.chk k C ↔ codeB p M k C = true) (hnm : ∀ l cc, Tabs.nm l cc = p.nmf l cc) (hd : ∀ fd, fd ∈ p.fns → fd.fr = none → DefOk K mg p M fd) (SS : SndS P w K mg base p n) (SL : SndL P w K mg base p n) : CallOk P w K mg base p (n + 1) := by
  intro f as pen r pen' q fd hf
  have q' : stC p.fns (ev p.fns n) f as pen = some (r, pen') := q
  unfold stC at q'
  rw [hf] at q'
  simp only at q'
  by_cases hlen : as.length = fd.ps ∧ fd.fr = none
  case neg => rw [if_neg hlen] at q'; cases q'
  rw [if_pos hlen] at q'
  obtain ⟨a, hmg, hkp, run⟩ := def_run (P := P) (w := w) (base := base) G0 hT hck hnm SS SL (hd fd (List.mem_of_getElem? hf) hlen.2)
  refine ⟨a, hmg, hkp, fun A outer s H us vs Q pa T hr hg e0 rv ar kk => ?_⟩
  cases eb : (ev p.fns n).ss fd.body { env := as.map some ++ List.replicate (fd.n - fd.ps) none, pen := pen } with
  | none => rw [eb] at q'; cases q'
  | some fg =>
    obtain ⟨fl, g'⟩ := fg
    rw [eb] at q'
    refine run A outer s H us vs Q pa T as pen fl g' hr hg e0 rv ar hlen.1 eb ?_
    by_cases hnf : ∃ k cs, fl = .ret (.nfn k cs)
    · obtain ⟨k, cs, rfl⟩ := hnf
      simp only at q'
      by_cases hc : lamLast fd.body = true ∧ cs.all cvD = true ∧ g'.pen.isSome = pen.isSome
      case neg => rw [if_neg hc] at q'; cases q'
      rw [if_pos hc] at q'
      simp only [Option.some.injEq, Prod.mk.injEq] at q'
      obtain ⟨rfl, rfl⟩ := q'
      exact .inr ⟨hc.1, k, cs, rfl, hc.2.1, hc.2.2, kk⟩
    · refine .inl fun F hP hw => ⟨fun hfl pa' σ σ' H' st => ?_, fun rr hfl pa' σ σ' H1 g1 v H' st pe => ?_⟩
      · subst hfl
        exact kk _ _ (st.ret hP hw rfl q')
      · subst hfl
        refine kk _ _ (pe.ret hP hw rfl st ?_)
        cases rr <;> first | exact q' | exact absurd ⟨_, _, rfl⟩ hnf
/-- every depth -/
theorem snd_all {M : Nat} (G0 : Glob mg p) (hT : ∀ q, q ∈ Tabs.l → GxR.TabB base mg q.1 q.2) (hck : ∀ k C, Tabs.chk k C ↔ codeB p M k C = true) (hnm : ∀ l cc, Tabs.nm l cc = p.nmf l cc) (hd : ∀ fd, fd ∈ p.fns → fd.fr = none → DefOk K mg p M fd) : ∀ n, Snd P w K mg base p n ∧ SndS P w K mg base p n ∧ SndL P w K mg base p n ∧ ∀ n1, n = n1 + 1 → Snd P w K mg base p n1
  | 0 => by
    refine ⟨⟨?_, ?_, ?_, ?_⟩, ?_, ?_, fun n1 e => by cases e⟩
    · intro F X c e ir m O h g r g' q
      cases q
    · intro F X c e ir m O h g r g' q
      cases q
    · intro f as pen r pen' q
      cases q
    · intro k cs as pen r pen' q
      cases q
    · intro F X c sts irs m O G1 h g fl g' q
      cases q
    · intro F X c sts irs m O G1 h hl g k cs g' q
      cases q
  | n + 1 => by
    obtain ⟨S, SS, SL, S1⟩ := snd_all G0 hT hck hnm hd n
    exact ⟨⟨fun F X c e ir m O h => snd_e S m F X c e ir O h, fun F X c e ir m O h => snd_t S m F X c e ir O h, call_ok G0 hT hck hnm hd SS SL, code_run G0 hT hck hnm S1 SS⟩, snd_ss S SS, snd_l S SS SL, fun n1 e => by cases e; exact S⟩
end
end DL
end
section
set_option Elab.async false
set_option linter.all false
set_option maxRecDepth 100000
set_option autoImplicit false
set_option maxHeartbeats 4000000
/-! DL, part u: from the small language to the law's own claim. -/
namespace DL
open PySem PySem.Spec PyProof.Rows L2
variable [Tabs]
/-- the heap that knows nothing but the script -/
def scrHp (a : Addr) (ob : Obj) (ns : List Int) : Hp := fun b => if b = a then some (.frz ob (.lst (ns.map V.int))) else none
/-- what is known of the tables at the law's call -/
structure TabsAtK (K : Fg) (h : Heap) : Prop where
  hd : ∀ q, q ∈ Tabs.l → PySem.W.CodeHd h q.1 q.2
  at_ : ∀ q, q ∈ Tabs.l → h.get? q.2 = some { cls := .none, data := .fields #[] }
  no : ∀ q, q ∈ Tabs.l → K.lookup q.2 = none
def MainB (mg : Str → Option Value) (h : Heap) : Prop := ∃ (bm : Addr) (ob : Obj), mg "__builtins__" = some (.ref bm) ∧ bm ≠ builtinsNs ∧ h.get? bm = some ob ∧ ob.cls = .type "module" ∧ ob.dict = some builtinsNs ∧ ob.data = .plain
section
variable {P : Program} {w : World} {K : Fg} {mg mb : Str → Option Value} {p : Pgm} {n M : Nat}
/-- what the small language says of the law's body is what the call gives -/
theorem law_core {fd : FnD} {s : Shared} {a fa : Addr} {ns : List Int} {H : Hp} {g' : G} (G0 : Glob mg p) (hck : ∀ k C, Tabs.chk k C ↔ codeB p M k C = true) (hnm : ∀ l cc, Tabs.nm l cc = p.nmf l cc) (hd : ∀ fd, fd ∈ p.fns → fd.fr = none → DefOk K mg p M fd) (hfd : fd ∈ p.fns) (hfr : fd.fr = none) (hfa : mg fd.name = some (.ref fa)) (hps : fd.ps = 1)
    (hr : Room (n + 1) callerA) (hev : (ev p.fns n).ss fd.body { env := some (.scr ns) :: List.replicate (fd.n - 1) none, pen := none } = some (.ret (.d (.bool true)), g'))
    (KX : K.In s.heap) (hns : s.heap.Ns mainGlobals mg) (hb : s.heap.Ns builtinsNs mb) (hbb : ∀ x : Str, x ≠ "__name__" → mb x = bootBuiltins x) (hlim : s.heap.NoLimit) (hg : s.gens = #[])
    (hok : HOk P w H s.heap) (hS : ScR K (fun _ => False) H a ns) (T : TabsAtK K s.heap) (hbm : MainB mg s.heap) (hHt : ∀ q, q ∈ Tabs.l → H q.2 = some (.tbl #[]))
    (only : ∀ b u, H b = some u → K.lookup b = none ∧ ((∃ ob its k, u = .frz ob (.lst (ns.map V.int)) ∧ s.heap.get? b = some ob ∧ ob.data = .seq its k) ∨ ∃ q, q ∈ Tabs.l ∧ q.2 = b ∧ u = .tbl #[])) :
    codeAny (model P w) callerA (.call (.ref fa) ⟨[.ref a], []⟩) (fun r s' => r = .ok (.ret (.bool true)) ∧ OldK s.heap s'.heap ∧ s'.os = s.os ∧ AllBare s'.gens) s := by
  -- what is tracked is a list or an empty table
  have noH : ∀ {b : Addr} {o : Obj}, s.heap.get? b = some o → (∀ vs n, o.data ≠ .seq vs n) → o.data ≠ .fields #[] → H b = none := by
    intro b o e e1 e2
    cases hH : H b with
    | none => rfl
    | some u =>
      rcases (only b u hH).2 with ⟨ob, its, k, _, e4, e5⟩ | ⟨q, hq, rfl, _⟩
      · rw [e] at e4
        cases e4
        exact absurd e5 (e1 _ _)
      · rw [T.at_ q hq] at e
        cases e
        exact absurd rfl e2
  have keepNs : ∀ {b : Addr} {m : Str → Option Value}, s.heap.Ns b m → (hidT s.heap H).Ns b m := by
    rintro b m ⟨o, es, ep, e1, e2, e3⟩
    exact ⟨o, es, ep, hidT_get e1 (noH e1 (by intro vs n z; rw [e2] at z; cases z) (by intro z; rw [e2] at z; cases z)), e2, e3⟩
  have inB : K.In (hidT s.heap H) := by
    intro b o e
    refine hidT_get (KX b o e) ?_
    cases hH : H b with
    | none => rfl
    | some u => rw [(only b u hH).1] at e; cases e
  obtain ⟨mc, l1, l2⟩ := hlim
  have e0 : Env0 P w K mg (hidT s.heap H) callerA [] s H := {
    frames := rfl
    mod := ⟨inB, keepNs hns, ⟨mb, keepNs hb, hbb⟩, ⟨mc, keepNs l1, l2⟩⟩
    bs := fun b o e => of_hidT e
    bsz := by rw [hidT_size]; exact Nat.le_refl _
    funs := trivial
    frf := fun b hb => by cases (show b ∈ ([] : List Addr) from hb)
    hok := hok
    bare := .of_eq hg }
  have TB : ∀ q, q ∈ Tabs.l → GxR.TabB (hidT s.heap H) mg q.1 q.2 := by
    intro q hq
    refine ⟨?_, ?_, ?_⟩
    · obtain ⟨o, vs, file, tf, flags, tg, inF, text, tt, h1, h2, h3, h4, r⟩ := T.hd q hq
      refine ⟨o, vs, file, tf, flags, tg, inF, text, tt, hidT_get h1 (noH h1 (by intro vs n z; rw [h3] at z; cases z) ?_), h2, h3, h4, r⟩
      intro z
      rw [h3] at z
      cases z
      cases h4
    · obtain ⟨bm, ob, b1, b2, b3, b4, b5, b6⟩ := hbm
      refine ⟨bm, ob, b1, b2, ?_, ?_, hidT_get b3 (noH b3 (by intro vs n z; rw [b6] at z; cases z) (by intro z; rw [b6] at z; cases z)), b4, b5, b6⟩
      · rintro rfl
        obtain ⟨o, es, ep, e, ed, _⟩ := hns
        rw [e] at b3
        cases b3
        rw [ed] at b6
        cases b6
      · rintro rfl
        rw [T.at_ q hq] at b3
        cases b3
        cases b6
    · intro z
      obtain ⟨o, es, ep, e, ed, _⟩ := hns
      rw [z, T.at_ q hq] at e
      cases e
      cases ed
  obtain ⟨_, SS, SL, _⟩ := snd_all (P := P) (w := w) G0 TB hck hnm hd n
  obtain ⟨a', e1, _, run⟩ := def_run (P := P) (w := w) (base := hidT s.heap H) G0 TB hck hnm SS SL (hd fd hfd hfr)
  rw [hfa] at e1
  cases e1
  have ar : ArgR K 0 (fun _ => False) H none [V.ref a] [Sv.scr ns] := {
    a := .cons ⟨a, rfl, hS.imp (fun ⟨_, h⟩ => ⟨fun z => absurd z.1 (by decide), h⟩) id⟩ .nil
    pn := fun xs e => by cases e
    td := fun b z => z.elim
    tb := fun q hq => ⟨⟨#[], hHt q hq, trivial⟩, fun _ => ⟨#[], hHt q hq, trivial, fun pos cv hc => by cases hc⟩⟩ }
  have hev' : (ev p.fns n).ss fd.body { env := [Sv.scr ns].map some ++ List.replicate (fd.n - fd.ps) none, pen := none } = some (.ret (.d (.bool true)), g') := by rw [hps]; exact hev
  refine codeAny_mono (run callerA [] s H [.ref a] [.ref a] (fun v _ => v = .bl true) 0 _ _ none _ g' hr rfl e0 (.cons rfl .nil) ar (by rw [hps]; rfl) hev' (.inl fun F hP hw => ⟨fun h => (by cases h), fun r hfl pa' σ σ' H1 g1 v H' st pe => ?_⟩)) fun r s' hq => ?_
  · cases hfl
    have vr : DR K (Nv pa' (fun _ => False) σ' g') H' v (.bool true) := pe.vr
    cases vr
    rfl
  · cases r with
    | error e => exact hq.elim
    | ok fl =>
      cases fl with
      | next => exact hq.elim
      | brk => exact hq.elim
      | cont => exact hq.elim
      | ret u =>
        obtain ⟨v, H', os, bare, un, hok', rv, q⟩ := hq
        have q' : v = .bl true := q
        subst q'
        have hu : u = Value.bool true := rv
        subst hu
        have was : ∀ b o, s.heap.get? b = some o → s'.heap.get? b = some o ∨ ∃ q, q ∈ Tabs.l ∧ q.2 = b ∧ ∃ more : Array Value, s'.heap.get? b = some { cls := .none, data := .fields more } := by
          intro b o e
          cases hH : H b with
          | none => exact .inl (un.keep b o e hH (fun z => by cases (show b ∈ ([] : List Addr) from z)) (fun z => by cases z))
          | some u =>
            rcases (only b u hH).2 with ⟨ob, its, k, rfl, e4, _⟩ | ⟨q, hq, rfl, rfl⟩
            · rw [e] at e4
              cases e4
              exact .inl (hok' b _ (un.frzs b _ _ hH)).1
            · obtain ⟨more, z⟩ := un.tbls q.2 #[] hH
              exact .inr ⟨q, hq, rfl, _, hok' q.2 _ z⟩
        refine ⟨rfl, ⟨fun b o e => ?_, fun b o e => ?_⟩, os, bare⟩
        · rcases was b o e with z | ⟨q, hq, rfl, more, z⟩
          · exact .inl z
          · rw [T.at_ q hq] at e
            cases e
            exact .inr (.inl ⟨((T.hd q hq).tab (T.at_ q hq)).isCodeTable, rfl, #[], more, rfl, by rw [Array.empty_append]; exact z⟩)
        · rcases was b o e with z | ⟨q, hq, rfl, more, z⟩ <;> exact ⟨_, z⟩
/-- the heap that knows the tables and, if told, the script -/
noncomputable def lawHp (sc : Option (Addr × HO)) : Hp := fun b => match sc with
  | some (a, o) => if b = a then some o else if b ∈ (Tabs.l.map (·.2)) then some (.tbl #[]) else none
  | none => if b ∈ (Tabs.l.map (·.2)) then some (.tbl #[]) else none
theorem tab_mem {b : Addr} (h : b ∈ (Tabs.l.map (·.2))) : ∃ q, q ∈ Tabs.l ∧ q.2 = b := by
  obtain ⟨q, h1, h2⟩ := List.mem_map.mp h
  exact ⟨q, h1, h2⟩
theorem law_run {fd : FnD} {s : Shared} {a fa : Addr} {ns : List Int} {vs : List Value} {g' : G} (G0 : Glob mg p) (hck : ∀ k C, Tabs.chk k C ↔ codeB p M k C = true) (hnm : ∀ l cc, Tabs.nm l cc = p.nmf l cc) (hd : ∀ fd, fd ∈ p.fns → fd.fr = none → DefOk K mg p M fd) (hfd : fd ∈ p.fns) (hfr : fd.fr = none) (hfa : mg fd.name = some (.ref fa)) (hps : fd.ps = 1)
    (hr : Room (n + 1) callerA) (hev : (ev p.fns n).ss fd.body { env := some (.scr ns) :: List.replicate (fd.n - 1) none, pen := none } = some (.ret (.d (.bool true)), g'))
    (KX : K.In s.heap) (hns : s.heap.Ns mainGlobals mg) (hb : s.heap.Ns builtinsNs mb) (hbb : ∀ x : Str, x ≠ "__name__" → mb x = bootBuiltins x) (hlim : s.heap.NoLimit) (hg : s.gens = #[])
    (T : TabsAtK K s.heap) (hbm : MainB mg s.heap)
    (ha : s.heap.get? a = some { cls := .type "list", data := .seq vs.toArray }) (hi : IntsAre vs ns) (hl : ns.length ≤ sizeLine) :
    codeAny (model P w) callerA (.call (.ref fa) ⟨[.ref a], []⟩) (fun r s' => r = .ok (.ret (.bool true)) ∧ OldK s.heap s'.heap ∧ s'.os = s.os ∧ AllBare s'.gens) s := by
  have rv := L2.vals_ints hi
  have isT : ∀ b, b ∈ (Tabs.l.map (·.2)) → s.heap.get? b = some { cls := .none, data := .fields #[] } := fun b h => by
    obtain ⟨q, h1, rfl⟩ := tab_mem h
    exact T.at_ q h1
  have aT : a ∉ (Tabs.l.map (·.2)) := fun h => by
    have := isT a h
    rw [ha] at this
    cases this
  cases hk : K.lookup a with
  | some o =>
    have hobj := KX a o hk
    rw [ha] at hobj
    cases hobj
    have inv : ∀ b u, lawHp none b = some u → b ∈ (Tabs.l.map (·.2)) ∧ u = .tbl #[] := fun b u z => by
      simp only [lawHp] at z
      by_cases e : b ∈ (Tabs.l.map (·.2))
      · rw [if_pos e] at z
        exact ⟨e, (Option.some.inj z).symm⟩
      · rw [if_neg e] at z
        cases z
    refine law_core (H := lawHp none) G0 hck hnm hd hfd hfr hfa hps hr hev KX hns hb hbb hlim hg (fun b u z => ?_) (.inr ⟨_, vs.toArray, _, hk, rfl, rfl, rfl, ?_, ?_⟩) T hbm (fun q hq => if_pos (List.mem_map.mpr ⟨q, hq, rfl⟩)) fun b u z => ?_
    · obtain ⟨h1, rfl⟩ := inv b u z
      exact isT b h1
    · rw [List.size_toArray, hi.length]
      exact hl
    · simpa using rv
    · obtain ⟨h1, rfl⟩ := inv b u z
      obtain ⟨q, hq, rfl⟩ := tab_mem h1
      exact ⟨T.no q hq, .inr ⟨q, hq, rfl, rfl⟩⟩
  | none =>
    have inv : ∀ b u, lawHp (some (a, .frz { cls := .type "list", data := .seq vs.toArray } (.lst (ns.map V.int)))) b = some u → (b = a ∧ u = .frz { cls := .type "list", data := .seq vs.toArray } (.lst (ns.map V.int))) ∨ (b ∈ (Tabs.l.map (·.2)) ∧ u = .tbl #[]) := fun b u z => by
      simp only [lawHp] at z
      by_cases e0 : b = a
      · rw [if_pos e0] at z
        exact .inl ⟨e0, (Option.some.inj z).symm⟩
      · rw [if_neg e0] at z
        by_cases e : b ∈ (Tabs.l.map (·.2))
        · rw [if_pos e] at z
          exact .inr ⟨e, (Option.some.inj z).symm⟩
        · rw [if_neg e] at z
          cases z
    refine law_core (H := lawHp (some (a, .frz { cls := .type "list", data := .seq vs.toArray } (.lst (ns.map V.int))))) G0 hck hnm hd hfd hfr hfa hps hr hev KX hns hb hbb hlim hg (fun b u z => ?_) (.inl ⟨id, _, if_pos rfl⟩) T hbm (fun q hq => ?_) fun b u z => ?_
    · rcases inv b u z with ⟨rfl, rfl⟩ | ⟨h1, rfl⟩
      · exact ⟨ha, by rw [List.length_map]; exact hl, vs, _, rv, ha⟩
      · exact isT b h1
    · have hm : q.2 ∈ (Tabs.l.map (·.2)) := List.mem_map.mpr ⟨q, hq, rfl⟩
      exact (if_neg (show ¬ q.2 = a from fun z => aT (z ▸ hm))).trans (if_pos hm)
    · rcases inv b u z with ⟨rfl, rfl⟩ | ⟨h1, rfl⟩
      · exact ⟨hk, .inl ⟨_, _, _, rfl, ha, rfl⟩⟩
      · obtain ⟨q, hq, rfl⟩ := tab_mem h1
        exact ⟨T.no q hq, .inr ⟨q, hq, rfl, rfl⟩⟩
end
/-- THE END: what is left of a law, once its program stands as the small language's text -/
theorem walk_dl {l : PySem.W.OpenLaw} {n : Nat} {q : Program} {loose : List Str} {XP : (Str → Option Value) → Heap → Prop} {YP : World → Heap → Prop} {d : DefRec} {K : Params → PySem.W.Frag} {p : Pgm} {fd : FnD} {M : Nat}
    (hn : l.most = some 63) (hdf : d.params.defaults = []) (hr : Room (n + 1) callerA) (hY : ∀ (w : World) (h : Heap), YP w h → (K w.params).In h) (hfd : fd ∈ p.fns) (hname : d.name = fd.name) (hps : fd.ps = 1) (hfr : fd.fr = none) (hck : ∀ k C, Tabs.chk k C ↔ codeB p M k C = true) (hnm : ∀ l cc, Tabs.nm l cc = p.nmf l cc)
    (F : ∀ (w : World) (lo : List Str) (mean : ExcName → Option Value) (mg mb : Str → Option Value) (h : Heap), (K w.params).In h → h.Ns mainGlobals mg → Top q lo mean mg mb h → (Glob mg p ∧ ∀ fd, fd ∈ p.fns → fd.fr = none → DefOk (K w.params) mg p M fd) ∧ TabsAtK (K w.params) h)
    (hev : ∀ ns : List Int, ns.length ≤ 63 → (∀ z ∈ ns, Builtin.Int.intBits z ≤ 1048576) → ∃ g', (ev p.fns n).ss fd.body { env := some (.scr ns) :: List.replicate (fd.n - 1) none, pen := none } = some (.ret (.d (.bool true)), g')) :
    PySem.W.WalkO q loose XP YP l.row.toRowW d [] (fun f vs => PySem.call f vs) := by
  refine Att.attach_callB hn hdf fun w s₀ s₁ mg mb fa o pm cd doc a vs ns G Y ho hd hcd hmg hobj hints hlen hbits hg => ?_
  have KX := hY w _ Y
  obtain ⟨⟨G0, hds⟩, TT⟩ := F w _ _ mg mb _ KX G.T.g G.T
  obtain ⟨g', hg'⟩ := hev ns hlen hbits
  exact law_run G0 hck hnm hds hfd hfr (hname ▸ hmg) hps hr hg' KX G.T.g G.T.b G.T.builtins G.T.nolimit hg TT G.T.bmain hobj hints (Nat.le_trans hlen (by decide))

/-! ### the premises, def by def -/
def defC (p : Pgm) (M : Nat) (fd : FnD) (st : Stmt) (N ps : List Str) (m : Nat) (fs : List Nat) : Bool :=
  C8.scC N ps (C8.fnScope st) && decide (ps.length = fd.ps) && decide (N.length = fd.n) && chkSs p m ⟨N, C8.fnScope st, fd.name ++ ".<locals>.", true, codeB p M, fs⟩ (C8.fnBody st) fd.body
theorem def_mk {K : Fg} {mg : Str → Option Value} {h : Heap} {p : Pgm} {M : Nat} {fd : FnD} {st : Stmt} {N ps : List Str} {m : Nat} {fs : List Nat} {f : Addr} {kV doc pm cdv ct oc : Value} {an od : Option Addr} {osl : Array (Option Value)} (X : K.In h) (G : h.Ns mainGlobals mg)
    (nfr : fd.fr = none) (chk : defC p M fd st N ps m fs = true) (hb : ∀ (kV doc pm cdv ct : Value) (an : Option Addr) (us : List Value), us.length = ps.length → bindArgs (PySem.W.fnOf fd.name fd.name (C8.fnArgs st) (C8.fnBody st) (C8.fnScope st) .none kV doc pm an cdv ct) ⟨us, []⟩ = pure (ps.zip us))
    (a : PySem.W.nsIn K mainGlobals fd.name = some (some (.ref f))) (l : K.lookup f = some ⟨oc, od, .func (PySem.W.fnOf fd.name fd.name (C8.fnArgs st) (C8.fnBody st) (C8.fnScope st) .none kV doc pm an cdv ct), osl⟩)
    (c : PySem.W.codeIn K cdv fd.name = true) (k : PySem.W.keepIn K (.ref f) = true) (t : N ∈ p.tabs → ∃ c P, cdv = .ref c ∧ (c, P) ∈ Tabs.l ∧ Tabs.weak P = decide (N ∈ p.wk)) : DefOk K mg p M fd := by
  unfold defC at chk
  simp only [Bool.and_eq_true, decide_eq_true_eq] at chk
  obtain ⟨⟨⟨h1, h2⟩, h3⟩, h4⟩ := chk
  exact ⟨nfr, f, fd.name, _, _, _, .none, kV, doc, pm, cdv, ct, oc, an, od, osl, N, ps, m, fs, l, c, h1, h2, h3, PySem.W.mg_of X G a, k, hb kV doc pm cdv ct an, h4, t⟩
theorem defs_nil {K : Fg} {mg : Str → Option Value} {p : Pgm} {M : Nat} : ∀ fd, fd ∈ ([] : List FnD) → fd.fr = none → DefOk K mg p M fd := fun _ h => by cases h
theorem defs_cons {K : Fg} {mg : Str → Option Value} {p : Pgm} {M : Nat} {fd : FnD} {fs : List FnD} (h : DefOk K mg p M fd) (t : ∀ x, x ∈ fs → x.fr = none → DefOk K mg p M x) : ∀ x, x ∈ fd :: fs → x.fr = none → DefOk K mg p M x := fun x hx hn => by
  rcases List.mem_cons.mp hx with e | e
  · rw [e]; exact h
  · exact t x e hn
/-- a made function's words want no premise -/
theorem defs_skip {K : Fg} {mg : Str → Option Value} {p : Pgm} {M : Nat} {fd : FnD} {fs : List FnD} (h : fd.fr.isSome = true) (t : ∀ x, x ∈ fs → x.fr = none → DefOk K mg p M x) : ∀ x, x ∈ fd :: fs → x.fr = none → DefOk K mg p M x := fun x hx hn => by
  rcases List.mem_cons.mp hx with e | e
  · rw [e] at hn
    rw [hn] at h
    cases h
  · exact t x e hn
/-- built-in names that the module leaves alone -/
def BlIn (K : Fg) : List Str → Prop
  | [] => True
  | x :: r => PySem.W.nsIn K mainGlobals x = some none ∧ BlIn K r
theorem bl_all {K : Fg} {h : Heap} {mg : Str → Option Value} (X : K.In h) (G : h.Ns mainGlobals mg) : ∀ {l : List Str}, BlIn K l → ∀ x, x ∈ l → mg x = none
  | [], _, _, hx => by cases hx
  | y :: r, ⟨h1, h2⟩, x, hx => by
    rcases List.mem_cons.mp hx with e | e
    · rw [e]; exact PySem.W.mg_none_of X G h1
    · exact bl_all X G h2 x e
/-- constants of the module -/
def CsIn (K : Fg) : List (Str × D) → Prop
  | [] => True
  | (x, d) :: r => (∃ u, PySem.W.nsIn K mainGlobals x = some (some u) ∧ RelV (dV d) u) ∧ CsIn K r
theorem cs_nil {K : Fg} : CsIn K [] := trivial
theorem cs_cons {K : Fg} {x : Str} {d : D} {r : List (Str × D)} {u : Value} (h1 : PySem.W.nsIn K mainGlobals x = some (some u)) (h2 : RelV (dV d) u) (h3 : CsIn K r) : CsIn K ((x, d) :: r) := ⟨⟨u, h1, h2⟩, h3⟩
theorem cs_all {K : Fg} {h : Heap} {mg : Str → Option Value} (X : K.In h) (G : h.Ns mainGlobals mg) : ∀ {l : List (Str × D)}, CsIn K l → ∀ x d, l.lookup x = some d → scalD d = true → ∃ u, mg x = some u ∧ RelV (dV d) u
  | [], _, _, _, hx, _ => by cases hx
  | (y, e) :: r, ⟨⟨u, h1, h2⟩, h3⟩, x, d, hx, hs => by
    rw [List.lookup_cons] at hx
    cases q : x == y with
    | true =>
      rw [q] at hx
      cases hx
      have := eq_of_beq q
      subst this
      exact ⟨u, PySem.W.mg_of X G h1, h2⟩
    | false =>
      rw [q] at hx
      exact cs_all X G h3 x d hx hs
theorem glob_mk {K : Fg} {h : Heap} {mg : Str → Option Value} {p : Pgm} (X : K.In h) (G : h.Ns mainGlobals mg) (h1 : BlIn K bnames) (h2 : CsIn K p.cs) : Glob mg p := ⟨bl_all X G h1, cs_all X G h2⟩
theorem tabs_nil {K : Fg} {h : Heap} (e : (Tabs.l : List (Addr × Addr)) = []) : TabsAtK K h := ⟨fun q hq => (by rw [e] at hq; cases hq), fun q hq => (by rw [e] at hq; cases hq), fun q hq => (by rw [e] at hq; cases hq)⟩
/-- the tables, as the top left them -/
def Tab1 (K : Fg) (h : Heap) (q : Addr × Addr) : Prop := PySem.W.CodeHd h q.1 q.2 ∧ h.get? q.2 = some { cls := .none, data := .fields #[] } ∧ K.lookup q.2 = none
theorem tab1 {K : Fg} {h : Heap} {q : Program} {lo : List Str} {mean : ExcName → Option Value} {mg mb : Str → Option Value} {d : DefRec} {x : Str} {c P : Addr} (T : Top q lo mean mg mb h) (X : K.In h)
    (hr : (recsOf q).find? (fun e => e.name == x) = some d) (ht : PySem.W.tabIn K x = some (c, P)) (hn : K.lookup P = none) : Tab1 K h (c, P) := by
  obtain ⟨h1, h2⟩ := PySem.W.tab_of T X hr ht
  exact ⟨h1, h2, hn⟩
theorem tabsL_nil {K : Fg} {h : Heap} : ∀ q, q ∈ ([] : List (Addr × Addr)) → Tab1 K h q := fun q hq => by cases hq
theorem tabsL_cons {K : Fg} {h : Heap} {q : Addr × Addr} {l : List (Addr × Addr)} (h1 : Tab1 K h q) (h2 : ∀ q, q ∈ l → Tab1 K h q) : ∀ q', q' ∈ q :: l → Tab1 K h q' := fun q' hq => by
  rcases List.mem_cons.mp hq with e | e
  · rw [e]; exact h1
  · exact h2 q' e
theorem tabs_list {K : Fg} {h : Heap} {l : List (Addr × Addr)} (e : (Tabs.l : List (Addr × Addr)) = l) (t : ∀ q, q ∈ l → Tab1 K h q) : TabsAtK K h := by
  rw [← e] at t
  exact ⟨fun q hq => (t q hq).1, fun q hq => (t q hq).2.1, fun q hq => (t q hq).2.2⟩
end DL
end
section
set_option Elab.async false
set_option linter.all false
set_option maxRecDepth 100000
set_option autoImplicit false
set_option maxHeartbeats 4000000
/-! DL, part w: what a run gives, said forwards: rules that rewrite. -/
namespace DL
open PySem PySem.Spec L2

def Wo {α β : Type} (o : Option (α × β)) (Q : α → β → Prop) : Prop := ∃ a b, o = some (a, b) ∧ Q a b
section
variable {α β γ δ : Type}
theorem wo_none {Q : α → β → Prop} : Wo none Q ↔ False := ⟨fun ⟨_, _, h, _⟩ => (by cases h), False.elim⟩
theorem wo_some {a : α} {b : β} {Q : α → β → Prop} : Wo (some (a, b)) Q ↔ Q a b := ⟨fun ⟨_, _, h, q⟩ => by cases h; exact q, fun q => ⟨_, _, rfl, q⟩⟩
theorem wo_map {o : Option γ} {f : γ → α × β} {Q : α → β → Prop} : Wo (o.map f) Q ↔ ∃ c, o = some c ∧ Q (f c).1 (f c).2 := by
  cases o with
  | none => exact ⟨fun ⟨_, _, h, _⟩ => (by cases h), fun ⟨_, h, _⟩ => (by cases h)⟩
  | some c => exact ⟨fun ⟨a, b, h, q⟩ => ⟨c, rfl, by rw [show f c = (a, b) from Option.some.inj h]; exact q⟩, fun ⟨_, h, q⟩ => by cases h; exact ⟨_, _, rfl, q⟩⟩
theorem wo_imp {o : Option (α × β)} {Q Q' : α → β → Prop} (h : Wo o Q) (k : ∀ a b, Q a b → Q' a b) : Wo o Q' := let ⟨a, b, e, q⟩ := h; ⟨a, b, e, k a b q⟩
/-- some, then -/
def So {α : Type} (o : Option α) (Q : α → Prop) : Prop := ∃ a, o = some a ∧ Q a
theorem so_none {Q : α → Prop} : So none Q ↔ False := ⟨fun ⟨_, h, _⟩ => (by cases h), False.elim⟩
theorem so_some {a : α} {Q : α → Prop} : So (some a) Q ↔ Q a := ⟨fun ⟨_, h, q⟩ => by cases h; exact q, fun q => ⟨_, rfl, q⟩⟩
theorem so_map {o : Option γ} {f : γ → α} {Q : α → Prop} : So (o.map f) Q ↔ So o fun c => Q (f c) := by
  cases o with
  | none => exact ⟨fun ⟨_, h, _⟩ => (by cases h), fun ⟨_, h, _⟩ => (by cases h)⟩
  | some c => exact ⟨fun ⟨_, h, q⟩ => by cases h; exact ⟨c, rfl, q⟩, fun ⟨_, h, q⟩ => by cases h; exact ⟨_, rfl, q⟩⟩
theorem so_if {c : Prop} [Decidable c] {a : α} {Q : α → Prop} : So (if c then some a else none) Q ↔ c ∧ Q a := by
  by_cases h : c
  · rw [if_pos h, so_some]; exact ⟨fun q => ⟨h, q⟩, fun q => q.2⟩
  · rw [if_neg h, so_none]; exact ⟨False.elim, fun q => h q.1⟩
end
section
variable {tb : List FnD} {n : Nat} {g : G}
def WE (tb : List FnD) (n : Nat) (ir : IE) (g : G) (Q : R → G → Prop) : Prop := Wo ((ev tb n).e ir g) Q
def WT (tb : List FnD) (n : Nat) (ir : IE) (g : G) (Q : Bool → G → Prop) : Prop := Wo ((ev tb n).t ir g) Q
def WC (tb : List FnD) (n : Nat) (f : Nat) (as : List Sv) (p : Option (List D)) (Q : R → Option (List D) → Prop) : Prop := Wo ((ev tb n).c f as p) Q
def WB (tb : List FnD) (n : Nat) (b : List IS) (g : G) (Q : Fl → G → Prop) : Prop := Wo ((ev tb n).ss b g) Q
/-- one read as data -/
def WR (tb : List FnD) (n : Nat) (ir : IE) (g : G) (Q : D → G → Prop) : Prop := WE tb n ir g fun r g1 => So (rdR r) fun x => Q x g1
def WKp (tb : List FnD) (n : Nat) (ir : IE) (g : G) (Q : D → G → Prop) : Prop := WE tb n ir g fun r g1 => Wo (keepR r g1) Q
def WDs (tb : List FnD) (n : Nat) (es : List IE) (g : G) (Q : List D → G → Prop) : Prop := Wo (evDs (ev tb n) es g) Q
def WAs (tb : List FnD) (n : Nat) (es : List IE) (g : G) (Q : List Sv → G → Prop) : Prop := Wo (evAs (ev tb n) es g) Q
def WFor (tb : List FnD) (n : Nat) (tg : Tg) (body : List IS) (ds : List D) (g : G) (Q : Fl → G → Prop) : Prop := Wo (evFor (ev tb n) tg body ds g) Q
def WLc (tb : List FnD) (n : Nat) (elt : IE) (tg : Tg) (cond : Option IE) (own : List Nat) (ds acc : List D) (g : G) (Q : List D → G → Prop) : Prop := Wo (evLc (ev tb n) elt tg cond own ds acc g) Q
def WIts (tb : List FnD) (n : Nat) (ik : Ik) (its : List IE) (g : G) (Q : List D → G → Prop) : Prop := Wo (itsD (ev tb n) ik its g) Q
theorem wr_iff {ir : IE} {Q : D → G → Prop} : WR tb n ir g Q ↔ Wo (rd1 (ev tb n) ir g) Q := by
  unfold WR WE rd1
  cases (ev tb n).e ir g with
  | none => simp only [wo_none]
  | some rg =>
    obtain ⟨r, g1⟩ := rg
    rw [wo_some]
    show _ ↔ Wo ((rdR r).map fun x => (x, g1)) Q
    cases rdR r <;> simp only [Option.map_none, Option.map_some, wo_none, wo_some, so_none, so_some]
theorem wkp_iff {ir : IE} {Q : D → G → Prop} : WKp tb n ir g Q ↔ Wo (kp1 (ev tb n) ir g) Q := by
  unfold WKp WE kp1
  cases (ev tb n).e ir g with
  | none => simp only [wo_none]
  | some rg => obtain ⟨r, g1⟩ := rg; rw [wo_some]
theorem wr2_iff {a b : IE} {Q : D → D → G → Prop} : (∃ x y g', rd2 (ev tb n) a b g = some (x, y, g') ∧ Q x y g') ↔ WE tb n a g fun r1 g1 => WE tb n b g1 fun r2 g2 => So (rdR r1) fun x => So (rdR r2) fun y => Q x y g2 := by
  unfold WE rd2
  cases (ev tb n).e a g with
  | none => simp only [wo_none]; exact ⟨fun ⟨_, _, _, h, _⟩ => (by cases h), False.elim⟩
  | some rg =>
    obtain ⟨r1, g1⟩ := rg
    simp only [wo_some]
    cases (ev tb n).e b g1 with
    | none => simp only [wo_none]; exact ⟨fun ⟨_, _, _, h, _⟩ => (by cases h), False.elim⟩
    | some rg2 =>
      obtain ⟨r2, g2⟩ := rg2
      simp only [wo_some]
      cases rdR r1 with
      | none => simp only [so_none]; exact ⟨fun ⟨_, _, _, h, _⟩ => (by cases h), False.elim⟩
      | some x =>
        cases rdR r2 with
        | none => simp only [so_none, so_some]; exact ⟨fun ⟨_, _, _, h, _⟩ => (by cases h), False.elim⟩
        | some y => simp only [so_some]; exact ⟨fun ⟨_, _, _, h, q⟩ => by cases h; exact q, fun q => ⟨_, _, _, rfl, q⟩⟩
/-! ### expressions -/
def slotP (g : G) (i : Nat) (Q : R → G → Prop) : Prop := match g.env[i]? with
    | some (some (.d x)) => Q (.d x) g
    | some (some (.own xs)) => Q (.bo i xs) g
    | some (some (.scr xs)) => Q (.scr xs) g
    | some (some .pen) => g.pen.isSome = true ∧ Q .pen g
    | some (some (.dic t kvs)) => Q (.bd i t kvs) g
    | some (some (.fn k cs)) => Q (.fn k cs) g
    | some (some (.ofn _ _)) => So (fnAt g i) fun kc => Q (.fn kc.1 kc.2) g
    | _ => False
theorem we_slot {i : Nat} {Q : R → G → Prop} : WE tb (n + 1) (.slot i) g Q ↔ slotP g i Q := by
  show Wo (stE (ev tb n) (.slot i) g) Q ↔ _
  unfold slotP
  simp only [stE]
  generalize g.env[i]? = o
  match o with
  | some (some (.d x)) => exact wo_some
  | some (some (.own xs)) => exact wo_some
  | some (some (.scr xs)) => exact wo_some
  | some (some .pen) =>
    by_cases h : g.pen.isSome = true
    · simp only [if_pos h, wo_some]; exact ⟨fun q => ⟨h, q⟩, fun q => q.2⟩
    · simp only [if_neg h, wo_none]; exact ⟨False.elim, fun q => h q.1⟩
  | some (some (.dic t kvs)) => exact wo_some
  | some (some (.fn k cs)) => exact wo_some
  | some (some (.ofn _ _)) => simp only [wo_map]; rfl
  | some none => exact wo_none
  | none => exact wo_none
theorem we_cst {d : D} {Q : R → G → Prop} : WE tb (n + 1) (.cst d) g Q ↔ Q (.d d) g := wo_some
theorem we_tup {es : List IE} {Q : R → G → Prop} : WE tb (n + 1) (.tup es) g Q ↔ WDs tb n es g fun ds g1 => Q (.d (.tuple ds)) g1 := by
  show Wo (stE (ev tb n) (.tup es) g) Q ↔ Wo _ _
  simp only [stE]
  rw [wo_map]
  exact ⟨fun ⟨c, h, q⟩ => ⟨c.1, c.2, h, q⟩, fun ⟨a, b, h, q⟩ => ⟨(a, b), h, q⟩⟩
theorem we_lst {es : List IE} {Q : R → G → Prop} : WE tb (n + 1) (.lst es) g Q ↔ WDs tb n es g fun ds g1 => Q (.fr ds) g1 := by
  show Wo (stE (ev tb n) (.lst es) g) Q ↔ Wo _ _
  simp only [stE]
  rw [wo_map]
  exact ⟨fun ⟨c, h, q⟩ => ⟨c.1, c.2, h, q⟩, fun ⟨a, b, h, q⟩ => ⟨(a, b), h, q⟩⟩
theorem we_bin {op : Operator} {a b : IE} {Q : R → G → Prop} : WE tb (n + 1) (.bin op a b) g Q ↔ WE tb n a g fun r1 g1 => WE tb n b g1 fun r2 g2 => So (rdR r1) fun x => So (rdR r2) fun y => So (binD op x y) fun r => Q r g2 := by
  show Wo (stE (ev tb n) (.bin op a b) g) Q ↔ _
  rw [← wr2_iff (Q := fun x y g2 => So (binD op x y) fun r => Q r g2)]
  simp only [stE]
  cases rd2 (ev tb n) a b g with
  | none => simp only [wo_none]; exact ⟨False.elim, fun ⟨_, _, _, h, _⟩ => (by cases h)⟩
  | some t =>
    obtain ⟨x, y, g1⟩ := t
    simp only [wo_map]
    exact ⟨fun ⟨c, h, q⟩ => ⟨_, _, _, rfl, c, h, q⟩, fun ⟨_, _, _, e, c, h, q⟩ => by cases e; exact ⟨c, h, q⟩⟩
theorem we_neg {a : IE} {Q : R → G → Prop} : WE tb (n + 1) (.neg a) g Q ↔ WR tb n a g fun x g1 => match x with | .int i => Q (.d (.int (-i))) g1 | _ => False := by
  rw [wr_iff]
  show Wo (stE (ev tb n) (.neg a) g) Q ↔ _
  simp only [stE]
  cases rd1 (ev tb n) a g with
  | none => simp only [wo_none]
  | some t => obtain ⟨x, g1⟩ := t; cases x <;> simp only [wo_some, wo_none]
theorem we_not {a : IE} {Q : R → G → Prop} : WE tb (n + 1) (.notE a) g Q ↔ WR tb n a g fun x g1 => match x with | .bool i => Q (.d (.bool (!i))) g1 | _ => False := by
  rw [wr_iff]
  show Wo (stE (ev tb n) (.notE a) g) Q ↔ _
  simp only [stE]
  cases rd1 (ev tb n) a g with
  | none => simp only [wo_none]
  | some t => obtain ⟨x, g1⟩ := t; cases x <;> simp only [wo_some, wo_none]
theorem we_bop {c : Bool} {a b : IE} {Q : R → G → Prop} : WE tb (n + 1) (.bop c a b) g Q ↔ WR tb n a g fun x g1 => match x with | .bool k => if k = c then WE tb n b g1 Q else Q (.d (.bool k)) g1 | _ => False := by
  rw [wr_iff]
  show Wo (stE (ev tb n) (.bop c a b) g) Q ↔ _
  simp only [stE]
  cases rd1 (ev tb n) a g with
  | none => simp only [wo_none]
  | some t =>
    obtain ⟨x, g1⟩ := t
    cases x <;> simp only [wo_some, wo_none]
    split <;> simp only [wo_some, WE]
theorem we_cmp {op : CmpOp} {a b : IE} {Q : R → G → Prop} : WE tb (n + 1) (.cmp op a b) g Q ↔ WE tb n a g fun r1 g1 => WE tb n b g1 fun r2 g2 => So (rdR r1) fun x => So (rdR r2) fun y => So (cmpD op x y) fun r => Q (.d (.bool r)) g2 := by
  show Wo (stE (ev tb n) (.cmp op a b) g) Q ↔ _
  rw [← wr2_iff (Q := fun x y g2 => So (cmpD op x y) fun r => Q (.d (.bool r)) g2)]
  simp only [stE]
  cases rd2 (ev tb n) a b g with
  | none => simp only [wo_none]; exact ⟨False.elim, fun ⟨_, _, _, h, _⟩ => (by cases h)⟩
  | some t =>
    obtain ⟨x, y, g1⟩ := t
    simp only [wo_map]
    exact ⟨fun ⟨c, h, q⟩ => ⟨_, _, _, rfl, c, h, q⟩, fun ⟨_, _, _, e, c, h, q⟩ => by cases e; exact ⟨c, h, q⟩⟩
theorem we_chn {op op' : CmpOp} {a b c : IE} {Q : R → G → Prop} : WE tb (n + 1) (.chn op op' a b c) g Q ↔ WE tb n a g fun r1 g1 => WE tb n b g1 fun r2 g2 => So (rdR r1) fun x => So (rdR r2) fun y => match y with
    | .int j => So (cmpD op x (.int j)) fun k => if k = true then WR tb n c g2 fun z g3 => So (cmpD op' (.int j) z) fun r => Q (.d (.bool r)) g3 else Q (.d (.bool false)) g2
    | _ => False := by
  show Wo (stE (ev tb n) (.chn op op' a b c) g) Q ↔ _
  rw [← wr2_iff (Q := fun x y g2 => match y with
    | .int j => So (cmpD op x (.int j)) fun k => if k = true then WR tb n c g2 fun z g3 => So (cmpD op' (.int j) z) fun r => Q (.d (.bool r)) g3 else Q (.d (.bool false)) g2
    | _ => False)]
  simp only [stE]
  cases rd2 (ev tb n) a b g with
  | none => simp only [wo_none]; exact ⟨False.elim, fun ⟨_, _, _, h, _⟩ => (by cases h)⟩
  | some t =>
    obtain ⟨x, y, g1⟩ := t
    have one : ∀ {P : D → D → G → Prop}, (∃ x' y' g', some (x, y, g1) = some (x', y', g') ∧ P x' y' g') ↔ P x y g1 := fun {P} => ⟨fun ⟨_, _, _, e, q⟩ => by cases e; exact q, fun q => ⟨_, _, _, rfl, q⟩⟩
    rw [one]
    cases y <;> simp only [wo_none]
    rename_i j
    cases cmpD op x (.int j) with
    | none => simp only [wo_none, so_none]
    | some k =>
      cases k with
      | false => simp only [wo_some, so_some, Bool.false_eq_true, if_false]
      | true =>
        simp only [so_some, if_true, wr_iff]
        cases rd1 (ev tb n) c g1 with
        | none => simp only [wo_none]
        | some t => obtain ⟨z, g2⟩ := t; simp only [wo_some, wo_map]; rfl
theorem we_ife {t a b : IE} {Q : R → G → Prop} : WE tb (n + 1) (.ife t a b) g Q ↔ WT tb n t g fun k g1 => if k = true then WE tb n a g1 Q else WE tb n b g1 Q := by
  show Wo (stE (ev tb n) (.ife t a b) g) Q ↔ Wo _ _
  simp only [stE]
  cases (ev tb n).t t g with
  | none => simp only [wo_none]
  | some kg => obtain ⟨k, g1⟩ := kg; cases k <;> simp only [wo_some, WE, Bool.false_eq_true, if_false, if_true]
theorem we_call {f : Nat} {es : List IE} {Q : R → G → Prop} : WE tb (n + 1) (.call f es) g Q ↔ WAs tb n es g fun as g1 => WC tb n f as g1.pen fun r p => Q r { g1 with pen := p } := by
  show Wo (stE (ev tb n) (.call f es) g) Q ↔ Wo _ _
  simp only [stE]
  cases evAs (ev tb n) es g with
  | none => simp only [wo_none]
  | some t =>
    obtain ⟨as, g1⟩ := t
    simp only [wo_some, wo_map, WC]
    exact ⟨fun ⟨c, h, q⟩ => ⟨c.1, c.2, h, q⟩, fun ⟨a, b, h, q⟩ => ⟨(a, b), h, q⟩⟩
theorem we_bi1 {b : Bi} {a : IE} {Q : R → G → Prop} : WE tb (n + 1) (.bi1 b a) g Q ↔ WR tb n a g fun x g1 => So (bi1D b x) fun r => Q r g1 := by
  rw [wr_iff]
  show Wo (stE (ev tb n) (.bi1 b a) g) Q ↔ _
  simp only [stE]
  cases rd1 (ev tb n) a g with
  | none => simp only [wo_none]
  | some t => obtain ⟨x, g1⟩ := t; simp only [wo_some, wo_map]; rfl
theorem we_bi2 {bb : Bi} {a b : IE} {Q : R → G → Prop} : WE tb (n + 1) (.bi2 bb a b) g Q ↔ WE tb n a g fun r1 g1 => WE tb n b g1 fun r2 g2 => So (rdR r1) fun x => So (rdR r2) fun y => So (bi2D bb x y) fun r => Q r g2 := by
  show Wo (stE (ev tb n) (.bi2 bb a b) g) Q ↔ _
  rw [← wr2_iff (Q := fun x y g2 => So (bi2D bb x y) fun r => Q r g2)]
  simp only [stE]
  cases rd2 (ev tb n) a b g with
  | none => simp only [wo_none]; exact ⟨False.elim, fun ⟨_, _, _, h, _⟩ => (by cases h)⟩
  | some t =>
    obtain ⟨x, y, g1⟩ := t
    simp only [wo_map]
    exact ⟨fun ⟨c, h, q⟩ => ⟨_, _, _, rfl, c, h, q⟩, fun ⟨_, _, _, e, c, h, q⟩ => by cases e; exact ⟨c, h, q⟩⟩
theorem we_rngL {k : Bool} {es : List IE} {Q : R → G → Prop} : WE tb (n + 1) (.rngL k es) g Q ↔ WDs tb n es g fun ds g1 => So (rngD ds) fun xs => xs.length ≤ szL ∧ Q (if k then .d (.tuple xs) else .fr xs) g1 := by
  show Wo (stE (ev tb n) (.rngL k es) g) Q ↔ Wo _ _
  simp only [stE]
  cases evDs (ev tb n) es g with
  | none => simp only [wo_none]
  | some t =>
    obtain ⟨ds, g1⟩ := t
    simp only [wo_some]
    cases rngD ds with
    | none => simp only [wo_none, so_none]
    | some xs =>
      simp only [so_some]
      by_cases h : xs.length ≤ szL
      · rw [if_pos h, wo_some]; exact ⟨fun q => ⟨h, q⟩, fun q => q.2⟩
      · rw [if_neg h, wo_none]; exact ⟨False.elim, fun q => h q.1⟩
theorem we_idx {a i : IE} {Q : R → G → Prop} : WE tb (n + 1) (.idx a i) g Q ↔ WE tb n a g fun r g1 => WR tb n i g1 fun y g2 => match r with
    | .pen => So g2.pen fun xs => So (idxD (.list xs) y) fun d => Q (.d d) g2
    | r => So (rdR r) fun x => So (idxD x y) fun d => Q (.d d) g2 := by
  show Wo (stE (ev tb n) (.idx a i) g) Q ↔ Wo _ _
  simp only [stE, wr_iff]
  cases (ev tb n).e a g with
  | none => simp only [wo_none]
  | some rg =>
    obtain ⟨r, g1⟩ := rg
    simp only [wo_some]
    cases rd1 (ev tb n) i g1 with
    | none => simp only [wo_none]
    | some t =>
      obtain ⟨y, g2⟩ := t
      simp only [wo_some]
      cases r with
      | pen =>
        simp only
        cases g2.pen with
        | none => simp only [wo_none, so_none]
        | some xs => simp only [wo_map, so_some]; rfl
      | d x => simp only [rdR, wo_map, so_some]; rfl
      | fr xs => simp only [rdR, wo_map, so_some]; rfl
      | bo j xs => simp only [rdR, wo_map, so_some]; rfl
      | scr ns => simp only [rdR, wo_none, so_none]
      | _ => simp only [rdR, wo_none, so_none]
def WP (tb : List FnD) (n : Nat) (o : Option IE) (g : G) (Q : Option Int → G → Prop) : Prop := match o with
  | none => Q none g
  | some e => WR tb n e g fun x g1 => match x with | .int i => Q (some i) g1 | _ => False
theorem wp_iff {o : Option IE} {Q : Option Int → G → Prop} : WP tb n o g Q ↔ Wo (evP (ev tb n) o g) fun l g1 => So (partD l) fun l => Q l g1 := by
  unfold WP
  cases o with
  | none => simp only [evP, wo_some, partD, so_some]
  | some e =>
    simp only [wr_iff, evP]
    cases rd1 (ev tb n) e g with
    | none => simp only [wo_none, Option.map_none]
    | some t => obtain ⟨x, g1⟩ := t; simp only [wo_some, Option.map_some]; cases x <;> simp only [partD, so_none, so_some]
theorem we_slc {a : IE} {lo hi : Option IE} {Q : R → G → Prop} : WE tb (n + 1) (.slc a lo hi) g Q ↔ WE tb n a g fun r g1 => WP tb n lo g1 fun l g2 => WP tb n hi g2 fun h g3 => match r with
    | .scr ns => Q (.fr (cutD (ns.map PyData.int) l h)) g3
    | r => So (rdR r) fun x => So (slcD x l h) fun r => Q r g3 := by
  show Wo (stE (ev tb n) (.slc a lo hi) g) Q ↔ Wo _ _
  simp only [stE, wp_iff]
  cases (ev tb n).e a g with
  | none => simp only [wo_none]
  | some rg =>
    obtain ⟨r, g1⟩ := rg
    simp only [wo_some]
    cases evP (ev tb n) lo g1 with
    | none => simp only [wo_none]
    | some t =>
      obtain ⟨l, g2⟩ := t
      simp only [wo_some]
      cases evP (ev tb n) hi g2 with
      | none => 
        simp only [wo_none]
        refine ⟨False.elim, fun ⟨_, _, h⟩ => h.elim⟩
      | some t =>
        obtain ⟨h, g3⟩ := t
        simp only [wo_some]
        cases hl : partD l with
        | none => simp only [wo_none, so_none]
        | some l =>
          cases hh : partD h with
          | none => simp only [wo_none, so_none, so_some]
          | some h =>
            simp only [so_some]
            cases r with
            | scr ns => simp only [wo_some]
            | d x => simp only [rdR, wo_map, so_some]; rfl
            | fr xs => simp only [rdR, wo_map, so_some]; rfl
            | bo j xs => simp only [rdR, wo_map, so_some]; rfl
            | pen => simp only [rdR, wo_none, so_none]
            | _ => simp only [rdR, wo_none, so_none]
theorem we_rev {a : IE} {Q : R → G → Prop} : WE tb (n + 1) (.rev a) g Q ↔ WR tb n a g fun x g1 => match x with | .list xs => Q (.fr xs.reverse) g1 | .tuple xs => Q (.d (.tuple xs.reverse)) g1 | _ => False := by
  rw [wr_iff]
  show Wo (stE (ev tb n) (.rev a) g) Q ↔ _
  simp only [stE]
  cases rd1 (ev tb n) a g with
  | none => simp only [wo_none]
  | some t => obtain ⟨x, g1⟩ := t; cases x <;> simp only [wo_some, wo_none]
theorem we_lc {elt : IE} {tg : Tg} {ik : Ik} {its : List IE} {cond : Option IE} {own : List Nat} {Q : R → G → Prop} : WE tb (n + 1) (.lc elt tg ik its cond own) g Q ↔ WIts tb n ik its g fun ds g1 => WLc tb n elt tg cond own ds [] g1 fun acc g2 => Q (.fr acc) g2 := by
  show Wo (stE (ev tb n) (.lc elt tg ik its cond own) g) Q ↔ Wo _ _
  simp only [stE]
  cases itsD (ev tb n) ik its g with
  | none => simp only [wo_none]
  | some t =>
    obtain ⟨ds, g1⟩ := t
    simp only [wo_some, wo_map, WLc]
    exact ⟨fun ⟨c, h, q⟩ => ⟨c.1, c.2, h, q⟩, fun ⟨a, b, h, q⟩ => ⟨(a, b), h, q⟩⟩
theorem we_idxS {a b : IE} {Q : R → G → Prop} : WE tb (n + 1) (.idxS a b) g Q ↔ WE tb n a g fun r1 g1 => WE tb n b g1 fun r2 g2 => So (rdR r1) fun x => So (rdR r2) fun y => match x, y with
    | .str x, .str y => So (Txt.index0 x y) fun i => Q (.d (.int (i : Int))) g2
    | _, _ => False := by
  show Wo (stE (ev tb n) (.idxS a b) g) Q ↔ _
  rw [← wr2_iff (Q := fun x y g2 => match x, y with
    | .str x, .str y => So (Txt.index0 x y) fun i => Q (.d (.int (i : Int))) g2
    | _, _ => False)]
  simp only [stE]
  cases rd2 (ev tb n) a b g with
  | none => simp only [wo_none]; exact ⟨False.elim, fun ⟨_, _, _, h, _⟩ => (by cases h)⟩
  | some t =>
    obtain ⟨x, y, g1⟩ := t
    have one : ∀ {P : D → D → G → Prop}, (∃ x' y' g', some (x, y, g1) = some (x', y', g') ∧ P x' y' g') ↔ P x y g1 := fun {P} => ⟨fun ⟨_, _, _, e, q⟩ => by cases e; exact q, fun q => ⟨_, _, _, rfl, q⟩⟩
    rw [one]
    cases x <;> cases y <;> simp only [wo_none, wo_map]
    rename_i s1 s2
    cases Txt.index0 s1 s2 with
    | none => simp only [so_none]; exact ⟨fun ⟨_, h, _⟩ => (by cases h), False.elim⟩
    | some k => simp only [so_some]; exact ⟨fun ⟨_, h, q⟩ => by cases h; exact q, fun q => ⟨_, rfl, q⟩⟩
/-! ### tests -/
theorem wt_bop {c : Bool} {a b : IE} {Q : Bool → G → Prop} : WT tb (n + 1) (.bop c a b) g Q ↔ WT tb n a g fun k g1 => if k = c then WT tb n b g1 Q else Q k g1 := by
  show Wo (stT (ev tb n) (.bop c a b) g) Q ↔ Wo _ _
  simp only [stT]
  cases (ev tb n).t a g with
  | none => simp only [wo_none]
  | some t =>
    obtain ⟨k, g1⟩ := t
    simp only [wo_some]
    split <;> simp only [wo_some, WT]
theorem wt_not {a : IE} {Q : Bool → G → Prop} : WT tb (n + 1) (.notE a) g Q ↔ WT tb n a g fun k g1 => Q (!k) g1 := by
  show Wo (stT (ev tb n) (.notE a) g) Q ↔ Wo _ _
  simp only [stT, wo_map]
  exact ⟨fun ⟨c, h, q⟩ => ⟨c.1, c.2, h, q⟩, fun ⟨a, b, h, q⟩ => ⟨(a, b), h, q⟩⟩
theorem wt_cmp {op : CmpOp} {a b : IE} {Q : Bool → G → Prop} : WT tb (n + 1) (.cmp op a b) g Q ↔ WE tb (n + 1) (.cmp op a b) g fun r g1 => match r with | .d (.bool k) => Q k g1 | _ => False := by
  show Wo (stT (ev tb n) (.cmp op a b) g) Q ↔ Wo (stE (ev tb n) (.cmp op a b) g) _
  simp only [stT]
  cases stE (ev tb n) (.cmp op a b) g with
  | none => simp only [wo_none]
  | some t =>
    obtain ⟨r, g1⟩ := t
    simp only [wo_some]
    cases r <;> (try simp only [wo_none])
    rename_i x
    cases x <;> (try simp only [wo_none, wo_some])
theorem wt_chn {op op' : CmpOp} {a b c : IE} {Q : Bool → G → Prop} : WT tb (n + 1) (.chn op op' a b c) g Q ↔ WE tb (n + 1) (.chn op op' a b c) g fun r g1 => match r with | .d (.bool k) => Q k g1 | _ => False := by
  show Wo (stT (ev tb n) (.chn op op' a b c) g) Q ↔ Wo (stE (ev tb n) (.chn op op' a b c) g) _
  simp only [stT]
  cases stE (ev tb n) (.chn op op' a b c) g with
  | none => simp only [wo_none]
  | some t =>
    obtain ⟨r, g1⟩ := t
    simp only [wo_some]
    cases r <;> (try simp only [wo_none])
    rename_i x
    cases x <;> (try simp only [wo_none, wo_some])
def plainIE : IE → Bool
  | .bop .. | .notE .. | .cmp .. | .chn .. | .ife .. | .din .. => false
  | _ => true
theorem wt_any {a : IE} {Q : Bool → G → Prop} (h : plainIE a = true) : WT tb (n + 1) a g Q ↔ WR tb n a g fun x g1 => So (truD x) fun k => Q k g1 := by
  rw [wr_iff]
  have e : stT (ev tb n) a g = (match rd1 (ev tb n) a g with
    | none => none
    | some (x, g1) => (truD x).map fun b => (b, g1)) := by cases a <;> first | rfl | cases h
  show Wo (stT (ev tb n) a g) Q ↔ _
  rw [e]
  cases rd1 (ev tb n) a g with
  | none => simp only [wo_none]
  | some t => obtain ⟨x, g1⟩ := t; simp only [wo_some, wo_map]; rfl
theorem wt_call {f : Nat} {es : List IE} {Q : Bool → G → Prop} : WT tb (n + 1) (.call f es) g Q ↔ WR tb n (.call f es) g fun x g1 => So (truD x) fun k => Q k g1 := wt_any rfl
theorem wt_bi1 {b : Bi} {a : IE} {Q : Bool → G → Prop} : WT tb (n + 1) (.bi1 b a) g Q ↔ WR tb n (.bi1 b a) g fun x g1 => So (truD x) fun k => Q k g1 := wt_any rfl
theorem wt_slot {i : Nat} {Q : Bool → G → Prop} : WT tb (n + 1) (.slot i) g Q ↔ WR tb n (.slot i) g fun x g1 => So (truD x) fun k => Q k g1 := wt_any rfl
theorem wt_idx {a i : IE} {Q : Bool → G → Prop} : WT tb (n + 1) (.idx a i) g Q ↔ WR tb n (.idx a i) g fun x g1 => So (truD x) fun k => Q k g1 := wt_any rfl
/-! ### lists of expressions -/
theorem wds_nil {Q : List D → G → Prop} : WDs tb n [] g Q ↔ Q [] g := wo_some
theorem wds_cons {e : IE} {es : List IE} {Q : List D → G → Prop} : WDs tb n (e :: es) g Q ↔ WKp tb n e g fun d g1 => WDs tb n es g1 fun ds g2 => Q (d :: ds) g2 := by
  rw [wkp_iff]
  show Wo (evDs (ev tb n) (e :: es) g) Q ↔ _
  unfold evDs kp1
  cases (ev tb n).e e g with
  | none => simp only [wo_none]
  | some rg =>
    obtain ⟨r, g1⟩ := rg
    simp only
    cases keepR r g1 with
    | none => simp only [wo_none]
    | some t =>
      obtain ⟨d, g2⟩ := t
      simp only [wo_some, WDs]
      cases evDs (ev tb n) es g2 with
      | none => simp only [wo_none]
      | some t => obtain ⟨ds, g3⟩ := t; simp only [wo_some]
theorem was_nil {Q : List Sv → G → Prop} : WAs tb n [] g Q ↔ Q [] g := wo_some
theorem was_cons {e : IE} {es : List IE} {Q : List Sv → G → Prop} : WAs tb n (e :: es) g Q ↔ WE tb n e g fun r g1 => Wo (keepS r g1) fun t g2 => WAs tb n es g2 fun ds g3 => Q (t :: ds) g3 := by
  show Wo (evAs (ev tb n) (e :: es) g) Q ↔ Wo _ _
  unfold evAs
  cases (ev tb n).e e g with
  | none => simp only [wo_none]
  | some rg =>
    obtain ⟨r, g1⟩ := rg
    simp only [wo_some]
    cases keepS r g1 with
    | none => simp only [wo_none]
    | some t =>
      obtain ⟨d, g2⟩ := t
      simp only [wo_some, WAs]
      cases evAs (ev tb n) es g2 with
      | none => simp only [wo_none]
      | some t => obtain ⟨ds, g3⟩ := t; simp only [wo_some]
/-! ### what is walked -/
theorem wits_seq {e : IE} {Q : List D → G → Prop} : WIts tb n .seq [e] g Q ↔ WKp tb n e g fun x g1 => So (seqD x) fun ds => Q ds g1 := by
  rw [wkp_iff]
  show Wo (itsD (ev tb n) .seq [e] g) Q ↔ _
  simp only [itsD]
  cases kp1 (ev tb n) e g with
  | none => simp only [wo_none]
  | some t => obtain ⟨x, g1⟩ := t; simp only [wo_some, wo_map]; rfl
theorem wits_rng {es : List IE} {Q : List D → G → Prop} : WIts tb n .rng es g Q ↔ WDs tb n es g fun ds g1 => So (rngD ds) fun xs => Q xs g1 := by
  show Wo (itsD (ev tb n) .rng es g) Q ↔ Wo _ _
  simp only [itsD]
  cases evDs (ev tb n) es g with
  | none => simp only [wo_none]
  | some t => obtain ⟨x, g1⟩ := t; simp only [wo_some, wo_map]; rfl
theorem wits_enu {e : IE} {Q : List D → G → Prop} : WIts tb n .enu [e] g Q ↔ WKp tb n e g fun x g1 => match x with | .list ds => Q (enuD ds) g1 | .tuple ds => Q (enuD ds) g1 | _ => False := by
  rw [wkp_iff]
  show Wo (itsD (ev tb n) .enu [e] g) Q ↔ _
  simp only [itsD]
  cases kp1 (ev tb n) e g with
  | none => simp only [wo_none]
  | some t => obtain ⟨x, g1⟩ := t; cases x <;> simp only [wo_some, wo_none]
theorem wits_zip {a b : IE} {Q : List D → G → Prop} : WIts tb n .zip [a, b] g Q ↔ WDs tb n [a, b] g fun ds g1 => match ds with | [.list xs, .list ys] => Q (zipD xs ys) g1 | [.tuple xs, .tuple ys] => Q (zipD xs ys) g1 | _ => False := by
  show Wo (itsD (ev tb n) .zip [a, b] g) Q ↔ Wo _ _
  simp only [itsD]
  cases evDs (ev tb n) [a, b] g with
  | none => simp only [wo_none]
  | some t =>
    obtain ⟨ds, g1⟩ := t
    simp only [wo_some]
    split <;> rename_i h
    · cases h; simp only [wo_some]
    · cases h; simp only [wo_some]
    · rename_i h2
      rw [wo_none]
      split
      · exact absurd rfl (h2 _ _ _)
      · exact absurd rfl (h _ _ _)
      · exact Iff.rfl
/-! ### calls -/
/-- what a call gives back of what the body gave -/
@[reducible] def retQ (b : Bool) (r : R) (Q : R → Prop) : Prop := match r with
  | .bo _ xs => Q (.fr xs)
  | .bd _ t kvs => Q (.fd t kvs)
  | .fn _ _ => False
  | .nfn k cs => b = true ∧ cs.all cvD = true ∧ Q (.fn k cs)
  | r => Q r
theorem wo_retC {p : Option (List D)} {r : R} {Q : R → Option (List D) → Prop} : Wo (retC p r g) Q ↔ g.pen.isSome = p.isSome ∧ retQ false r fun r => Q r g.pen := by
  unfold retC retQ
  by_cases h : g.pen.isSome = p.isSome
  · rw [if_pos h]
    cases r <;> simp only [wo_some, wo_none, h, true_and, Bool.false_eq_true, false_and]
  · rw [if_neg h, wo_none]
    exact ⟨False.elim, fun q => h q.1⟩
theorem wc_def {f : Nat} {as : List Sv} {p : Option (List D)} {fd : FnD} {Q : R → Option (List D) → Prop} (hf : tb[f]? = some fd) (hl : as.length = fd.ps) (hn : fd.fr = none) :
    WC tb (n + 1) f as p Q ↔ WB tb n fd.body { env := as.map some ++ List.replicate (fd.n - fd.ps) none, pen := p } fun fl g => g.pen.isSome = p.isSome ∧ match fl with
      | .nx => Q (.d .none) g.pen
      | .ret r => retQ (lamLast fd.body) r fun r => Q r g.pen := by
  show Wo (stC tb (ev tb n) f as p) Q ↔ Wo _ _
  unfold stC
  simp only [hf, if_pos (And.intro hl hn)]
  cases (ev tb n).ss fd.body { env := as.map some ++ List.replicate (fd.n - fd.ps) none, pen := p } with
  | none => simp only [wo_none]
  | some t =>
    obtain ⟨fl, g⟩ := t
    simp only [wo_some]
    cases fl with
    | nx => exact wo_retC
    | ret r =>
      cases r <;> first | exact wo_retC | skip
      rename_i k cs
      by_cases h : lamLast fd.body = true ∧ cs.all cvD = true ∧ g.pen.isSome = p.isSome
      · simp only [if_pos h, wo_some, retQ]
        exact ⟨fun q => ⟨h.2.2, h.1, h.2.1, q⟩, fun q => q.2.2.2⟩
      · simp only [if_neg h, wo_none, retQ]
        exact ⟨False.elim, fun q => h ⟨q.2.1, q.2.2.1, q.1⟩⟩
def WK (tb : List FnD) (n : Nat) (f : Nat) (cs : List Cv) (as : List Sv) (p : Option (List D)) (Q : R → Option (List D) → Prop) : Prop := Wo ((ev tb n).k f cs as p) Q
theorem wk_def {f : Nat} {cs : List Cv} {as : List Sv} {p : Option (List D)} {fd : FnD} {Q : R → Option (List D) → Prop} (hf : tb[f]? = some fd) (hl : as.length = fd.ps) (hn : fd.fr = some cs.length) (hs : as.all svD = true) :
    WK tb (n + 1) f cs as p Q ↔ WB tb n fd.body { env := as.map some ++ ((cs.map fun c => some (cvS c)) ++ List.replicate (fd.n - fd.ps - cs.length) none), pen := p } fun fl g => g.pen.isSome = p.isSome ∧ match fl with
      | .nx => Q (.d .none) g.pen
      | .ret r => retQ false r fun r => Q r g.pen := by
  show Wo (stK tb (ev tb n) f cs as p) Q ↔ Wo _ _
  unfold stK
  simp only [hf, if_pos (And.intro hl (And.intro hn hs))]
  cases (ev tb n).ss fd.body { env := as.map some ++ ((cs.map fun c => some (cvS c)) ++ List.replicate (fd.n - fd.ps - cs.length) none), pen := p } with
  | none => simp only [wo_none]
  | some t =>
    obtain ⟨fl, g⟩ := t
    simp only [wo_some]
    cases fl with
    | nx => exact wo_retC
    | ret r => exact wo_retC
theorem wk_imp {f : Nat} {cs : List Cv} {as : List Sv} {p : Option (List D)} {Q Q' : R → Option (List D) → Prop} (h : WK tb n f cs as p Q) (k : ∀ r q, Q r q → Q' r q) : WK tb n f cs as p Q' := wo_imp h k
/-- a call of what a name holds -/
theorem we_callS {i : Nat} {es : List IE} {Q : R → G → Prop} : WE tb (n + 1) (.callS i es) g Q ↔ (fnAt g i).isSome = true ∧ WAs tb n es g fun as g1 => So (fnAt g1 i) fun kc => WK tb n kc.1 kc.2 as g1.pen fun r p => Q r { g1 with pen := p } := by
  show Wo (stE (ev tb n) (.callS i es) g) Q ↔ _
  simp only [stE]
  cases fnAt g i with
  | none => simp only [wo_none, Option.isSome_none, Bool.false_eq_true, false_and]
  | some _ =>
    simp only [Option.isSome_some, true_and]
    unfold WAs
    cases evAs (ev tb n) es g with
    | none => simp only [wo_none]
    | some t =>
      obtain ⟨as, g1⟩ := t
      simp only [wo_some]
      cases fnAt g1 i with
      | none => simp only [wo_none, so_none]
      | some kc =>
        obtain ⟨k, cs⟩ := kc
        simp only [wo_map, so_some, WK]
        exact ⟨fun ⟨c, h, q⟩ => ⟨c.1, c.2, h, q⟩, fun ⟨a, b, h, q⟩ => ⟨(a, b), h, q⟩⟩
theorem we_lam {k : Nat} {js : List Nat} {Q : R → G → Prop} : WE tb (n + 1) (.lam k js) g Q ↔ So (capsG 5 g js) fun cs => Q (.nfn k cs) g := by
  show Wo (stE (ev tb n) (.lam k js) g) Q ↔ _
  simp only [stE, wo_map]
  rfl
/-! ### dicts -/
theorem we_dnew1 {t : Bool} {a b : IE} {Q : R → G → Prop} : WE tb (n + 1) (.dnew t (some (a, b))) g Q ↔ WDs tb n [a, b] g fun ds g1 => match ds with | [x, y] => So (keyD t x) fun _ => Q (.fd t [(x, y)]) g1 | _ => False := by
  show Wo (stE (ev tb n) (.dnew t (some (a, b))) g) Q ↔ Wo _ _
  simp only [stE]
  cases evDs (ev tb n) [a, b] g with
  | none => simp only [wo_none]
  | some dg =>
    obtain ⟨ds, g1⟩ := dg
    simp only [wo_some]
    split
    · rename_i x y g2 e
      simp only [Option.some.injEq, Prod.mk.injEq] at e
      obtain ⟨rfl, rfl⟩ := e
      simp only [wo_map]
      rfl
    · rename_i h
      rw [wo_none]
      split
      · rename_i x y
        exact (h x y g1 rfl).elim
      · exact Iff.rfl
def dicP (g : G) (i : Nat) (Q : Bool → List (D × D) → Prop) : Prop := match g.env[i]? with
  | some (some (.dic t kvs)) => Q t kvs
  | _ => False
theorem we_dget {i : Nat} {k : IE} {Q : R → G → Prop} : WE tb (n + 1) (.dget i k) g Q ↔ dicP g i (fun _ _ => True) ∧ WR tb n k g fun x g1 => dicP g1 i fun t kvs => So (keyD t x) fun kk => So (dfind kvs kk) fun v => Q (.d v) g1 := by
  rw [wr_iff]
  show Wo (stE (ev tb n) (.dget i k) g) Q ↔ _
  simp only [stE, dicP]
  rcases g.env[i]? with _ | (_ | sv)
  · simp only [wo_none, false_and]
  · simp only [wo_none, false_and]
  cases sv with
  | dic t0 kvs0 =>
    simp only [true_and]
    cases rd1 (ev tb n) k g with
    | none => simp only [wo_none]
    | some xg =>
      obtain ⟨x, g1⟩ := xg
      simp only [wo_some]
      rcases g1.env[i]? with _ | (_ | sv)
      · simp only [wo_none]
      · simp only [wo_none]
      cases sv with
      | dic t kvs =>
        simp only
        cases keyD t x with
        | none => simp only [wo_none, so_none]
        | some kk => simp only [so_some, wo_map]; rfl
      | _ => simp only [wo_none]
  | _ => simp only [wo_none, false_and]
theorem we_din {i : Nat} {k : IE} {neg : Bool} {Q : R → G → Prop} : WE tb (n + 1) (.din neg i k) g Q ↔ WR tb n k g fun x g1 => dicP g1 i fun t kvs => So (keyD t x) fun kk => Q (.d (.bool ((dfind kvs kk).isSome != neg))) g1 := by
  rw [wr_iff]
  show Wo (stE (ev tb n) (.din neg i k) g) Q ↔ _
  simp only [stE, dicP]
  cases rd1 (ev tb n) k g with
  | none => simp only [wo_none]
  | some xg =>
    obtain ⟨x, g1⟩ := xg
    simp only [wo_some]
    rcases g1.env[i]? with _ | (_ | sv)
    · simp only [wo_none]
    · simp only [wo_none]
    cases sv with
    | dic t kvs => simp only [wo_map]; rfl
    | _ => simp only [wo_none]
theorem wt_din {neg : Bool} {i : Nat} {k : IE} {Q : Bool → G → Prop} : WT tb (n + 1) (.din neg i k) g Q ↔ WE tb (n + 1) (.din neg i k) g fun r g1 => match r with | .d (.bool k) => Q k g1 | _ => False := by
  show Wo (stT (ev tb n) (.din neg i k) g) Q ↔ Wo (stE (ev tb n) (.din neg i k) g) _
  simp only [stT]
  cases stE (ev tb n) (.din neg i k) g with
  | none => simp only [wo_none]
  | some t =>
    obtain ⟨r, g1⟩ := t
    simp only [wo_some]
    cases r <;> (try simp only [wo_none])
    rename_i x
    cases x <;> (try simp only [wo_none, wo_some])
def WDc (tb : List FnD) (n : Nat) (t : Bool) (k v : IE) (i : Nat) (ds : List D) (acc : List (D × D)) (g : G) (Q : List (D × D) → G → Prop) : Prop := Wo (evDc (ev tb n) t k v i ds acc g) Q
theorem we_dcomp {t : Bool} {k v it : IE} {i : Nat} {Q : R → G → Prop} : WE tb (n + 1) (.dcomp t k v i it) g Q ↔ WKp tb n it g fun x g1 => So (seqD x) fun ds => WDc tb n t k v i ds [] g1 fun kvs g2 => Q (.fd t kvs) g2 := by
  rw [wkp_iff]
  show Wo (stE (ev tb n) (.dcomp t k v i it) g) Q ↔ _
  simp only [stE]
  cases kp1 (ev tb n) it g with
  | none => simp only [wo_none]
  | some xg =>
    obtain ⟨x, g1⟩ := xg
    simp only [wo_some]
    cases seqD x with
    | none => simp only [wo_none, so_none]
    | some ds =>
      simp only [so_some, wo_map, WDc]
      exact ⟨fun ⟨c, h, q⟩ => ⟨c.1, c.2, h, q⟩, fun ⟨a, b, h, q⟩ => ⟨(a, b), h, q⟩⟩
theorem wdc_nil {t : Bool} {k v : IE} {i : Nat} {acc : List (D × D)} {Q : List (D × D) → G → Prop} : WDc tb n t k v i [] acc g Q ↔ Q acc { g with env := wipeE g.env [i] } := wo_some
theorem wdc_cons {t : Bool} {k v : IE} {i : Nat} {x : D} {xs : List D} {acc : List (D × D)} {Q : List (D × D) → G → Prop} : WDc tb n t k v i (x :: xs) acc g Q ↔ WDs tb n [k, v] (setD { g with env := wipeE g.env [i] } i x) fun ds g1 => match ds with
    | [kd, vd] => So (keyD t kd) fun kk => acc.length < szL ∧ WDc tb n t k v i xs (dstore acc kd kk vd) g1 Q
    | _ => False := by
  show Wo (evDc (ev tb n) t k v i (x :: xs) acc g) Q ↔ Wo _ _
  unfold evDc
  cases evDs (ev tb n) [k, v] (setD { g with env := wipeE g.env [i] } i x) with
  | none => simp only [wo_none]
  | some dg =>
    obtain ⟨ds, g1⟩ := dg
    simp only [wo_some]
    split
    · rename_i kd vd g2 e
      simp only [Option.some.injEq, Prod.mk.injEq] at e
      obtain ⟨rfl, rfl⟩ := e
      dsimp only
      cases keyD t kd with
      | none => simp only [wo_none, so_none]
      | some kk =>
        simp only [so_some, WDc]
        by_cases h : acc.length < szL
        · rw [if_pos h]; exact ⟨fun q => ⟨h, q⟩, fun q => q.2⟩
        · rw [if_neg h, wo_none]; exact ⟨False.elim, fun q => h q.1⟩
    · rename_i h
      rw [wo_none]
      split
      · rename_i kd vd
        exact (h kd vd g1 rfl).elim
      · exact Iff.rfl
theorem wits_dic {i : Nat} {Q : List D → G → Prop} : WIts tb n .dic [.slot i] g Q ↔ dicP g i fun _ kvs => Q (ddKeys kvs) g := by
  show Wo (itsD (ev tb n) .dic [.slot i] g) Q ↔ _
  simp only [itsD, dicP]
  rcases g.env[i]? with _ | (_ | sv)
  · simp only [wo_none]
  · simp only [wo_none]
  cases sv with
  | dic t kvs => simp only [wo_some]
  | _ => simp only [wo_none]
theorem wc_imp {f : Nat} {as : List Sv} {p : Option (List D)} {Q Q' : R → Option (List D) → Prop} (h : WC tb n f as p Q) (k : ∀ r q, Q r q → Q' r q) : WC tb n f as p Q' := wo_imp h k
/-! ### statements -/
theorem wb_nil {Q : Fl → G → Prop} : WB tb (n + 1) [] g Q ↔ Q .nx g := wo_some
def WS (tb : List FnD) (n : Nat) (s : IS) (g : G) (Q : Fl → G → Prop) : Prop := Wo (stS (ev tb n) s g) Q
theorem wb_cons {s : IS} {ss : List IS} {Q : Fl → G → Prop} : WB tb (n + 1) (s :: ss) g Q ↔ WS tb n s g fun fl g1 => match fl with | .nx => WB tb n ss g1 Q | .ret r => Q (.ret r) g1 := by
  show Wo (stSs (ev tb n) (s :: ss) g) Q ↔ Wo _ _
  have e : stSs (ev tb n) (s :: ss) g = (match stS (ev tb n) s g with
    | none => none
    | some (.nx, g1) => (ev tb n).ss ss g1
    | some (.ret r, g1) => some (.ret r, g1)) := rfl
  rw [e]
  generalize stS (ev tb n) s g = o
  match o with
  | none => simp only [wo_none]
  | some (.nx, g1) => simp only [wo_some, WB]
  | some (.ret r, g1) => simp only [wo_some]
theorem ws_set {i : Nat} {e : IE} {Q : Fl → G → Prop} : WS tb n (.set i e) g Q ↔ WE tb (n + 1) e g fun r g1 => Wo (keepR r g1) fun d g2 => Q .nx (setD g2 i d) := by
  show Wo (stS (ev tb n) (.set i e) g) Q ↔ Wo (stE (ev tb n) e g) _
  simp only [stS]
  cases stE (ev tb n) e g with
  | none => simp only [wo_none]
  | some t =>
    obtain ⟨r, g1⟩ := t
    simp only [wo_some, wo_map]
    exact ⟨fun ⟨c, h, q⟩ => ⟨c.1, c.2, h, q⟩, fun ⟨a, b, h, q⟩ => ⟨(a, b), h, q⟩⟩
theorem ws_own {i : Nat} {e : IE} {Q : Fl → G → Prop} : WS tb n (.own i e) g Q ↔ WE tb (n + 1) e g fun r g1 => match r with | .fr xs => Q .nx (setOwn g1 i xs) | .fd t kvs => Q .nx (setDic g1 i t kvs) | _ => False := by
  show Wo (stS (ev tb n) (.own i e) g) Q ↔ Wo (stE (ev tb n) e g) _
  simp only [stS]
  cases stE (ev tb n) e g with
  | none => simp only [wo_none]
  | some t => obtain ⟨r, g1⟩ := t; cases r <;> simp only [wo_some, wo_none]
theorem ws_pen {i : Nat} {e : IE} {Q : Fl → G → Prop} : WS tb n (.pen i e) g Q ↔ WE tb (n + 1) e g fun r g1 => match r with | .fr xs => g1.pen = none ∧ Q .nx { env := g1.env.set i (some .pen), pen := some xs } | _ => False := by
  show Wo (stS (ev tb n) (.pen i e) g) Q ↔ Wo (stE (ev tb n) e g) _
  simp only [stS]
  cases stE (ev tb n) e g with
  | none => simp only [wo_none]
  | some t =>
    obtain ⟨r, g1⟩ := t
    cases r <;> simp only [wo_some, wo_none]
    cases h : g1.pen with
    | none => simp only [Option.isSome_none, Bool.false_eq_true, if_false, wo_some, true_and]
    | some q => simp only [Option.isSome_some, if_true, wo_none, reduceCtorEq, false_and]
theorem ws_unp {is : List Nat} {e : IE} {Q : Fl → G → Prop} : WS tb n (.unp is e) g Q ↔ WKp tb n e g fun x g1 => match x with | .tuple ds => So (setDs g1 is ds) fun g2 => Q .nx g2 | _ => False := by
  rw [wkp_iff]
  show Wo (stS (ev tb n) (.unp is e) g) Q ↔ _
  simp only [stS]
  unfold kp1
  cases (ev tb n).e e g with
  | none => simp only [wo_none]
  | some t =>
    obtain ⟨r, g1⟩ := t
    simp only
    cases keepR r g1 with
    | none => simp only [wo_none]
    | some t => obtain ⟨x, g2⟩ := t; cases x <;> simp only [wo_some, wo_none, wo_map] <;> rfl
theorem ws_par {i j : Nat} {oi oj : Bool} {a b : IE} {Q : Fl → G → Prop} : WS tb n (.par i j oi oj a b) g Q ↔ WE tb n a g fun r1 g0 => Wo (keepO oi r1 g0) fun s1 g1 => WE tb n b g1 fun r2 g2 => Wo (keepO oj r2 g2) fun s2 g3 => Q .nx { g3 with env := (g3.env.set i (some s1)).set j (some s2) } := by
  show Wo (stS (ev tb n) (.par i j oi oj a b) g) Q ↔ Wo _ _
  simp only [stS]
  cases (ev tb n).e a g with
  | none => simp only [wo_none]
  | some t =>
    obtain ⟨r1, g0⟩ := t
    simp only [wo_some]
    cases keepO oi r1 g0 with
    | none => simp only [wo_none]
    | some t =>
      obtain ⟨s1, g1⟩ := t
      simp only [wo_some, WE]
      cases (ev tb n).e b g1 with
      | none => simp only [wo_none]
      | some t =>
        obtain ⟨r2, g2⟩ := t
        simp only [wo_some]
        cases keepO oj r2 g2 with
        | none => simp only [wo_none]
        | some t => obtain ⟨s2, g3⟩ := t; simp only [wo_some]
def isOwn : Option (Option Sv) → Prop
  | some (some (.own _)) => True
  | _ => False
theorem ws_app {i : Nat} {e : IE} {Q : Fl → G → Prop} : WS tb n (.app i e) g Q ↔ isOwn g.env[i]? ∧ WKp tb n e g fun d g2 => match g2.env[i]? with | some (some (.own xs)) => xs.length < szL ∧ Q .nx (setOwn g2 i (xs ++ [d])) | _ => False := by
  rw [wkp_iff]
  show Wo (stS (ev tb n) (.app i e) g) Q ↔ _
  simp only [stS]
  unfold kp1
  generalize g.env[i]? = o
  match o with
  | some (some (.d x)) => simp only [wo_none, isOwn, false_and]
  | some (some (.scr x)) => simp only [wo_none, isOwn, false_and]
  | some (some .pen) => simp only [wo_none, isOwn, false_and]
  | some (some (.dic _ _)) => simp only [wo_none, isOwn, false_and]
  | some (some (.fn _ _)) => simp only [wo_none, isOwn, false_and]
  | some (some (.ofn _ _)) => simp only [wo_none, isOwn, false_and]
  | some none => simp only [wo_none, isOwn, false_and]
  | none => simp only [wo_none, isOwn, false_and]
  | some (some (.own x)) =>
    simp only [isOwn, true_and]
    cases (ev tb n).e e g with
    | none => simp only [wo_none]
    | some t =>
      obtain ⟨r, g1⟩ := t
      simp only
      cases keepR r g1 with
      | none => simp only [wo_none]
      | some t =>
        obtain ⟨d, g2⟩ := t
        simp only [wo_some]
        generalize g2.env[i]? = o
        match o with
        | some (some (.d x)) => simp only [wo_none]
        | some (some (.scr x)) => simp only [wo_none]
        | some (some .pen) => simp only [wo_none]
        | some (some (.dic _ _)) => simp only [wo_none]
        | some (some (.fn _ _)) => simp only [wo_none]
        | some (some (.ofn _ _)) => simp only [wo_none]
        | some none => simp only [wo_none]
        | none => simp only [wo_none]
        | some (some (.own xs)) =>
          simp only
          by_cases h : xs.length < szL
          · rw [if_pos h, wo_some]; exact ⟨fun q => ⟨h, q⟩, fun q => q.2⟩
          · rw [if_neg h, wo_none]; exact ⟨False.elim, fun q => h q.1⟩
theorem ws_exp {e : IE} {Q : Fl → G → Prop} : WS tb n (.exp e) g Q ↔ WE tb n e g fun _ g1 => Q .nx g1 := by
  show Wo (stS (ev tb n) (.exp e) g) Q ↔ Wo _ _
  simp only [stS, wo_map]
  exact ⟨fun ⟨c, h, q⟩ => ⟨c.1, c.2, h, q⟩, fun ⟨a, b, h, q⟩ => ⟨(a, b), h, q⟩⟩
theorem ws_ret {e : IE} {Q : Fl → G → Prop} : WS tb n (.ret e) g Q ↔ WE tb n e g fun r g1 => Q (.ret r) g1 := by
  show Wo (stS (ev tb n) (.ret e) g) Q ↔ Wo _ _
  simp only [stS, wo_map]
  exact ⟨fun ⟨c, h, q⟩ => ⟨c.1, c.2, h, q⟩, fun ⟨a, b, h, q⟩ => ⟨(a, b), h, q⟩⟩
theorem ws_iff {t : IE} {a b : List IS} {Q : Fl → G → Prop} : WS tb n (.iff t a b) g Q ↔ WT tb n t g fun k g1 => if k = true then WB tb n a g1 Q else WB tb n b g1 Q := by
  show Wo (stS (ev tb n) (.iff t a b) g) Q ↔ Wo _ _
  simp only [stS]
  cases (ev tb n).t t g with
  | none => simp only [wo_none]
  | some kg => obtain ⟨k, g1⟩ := kg; cases k <;> simp only [wo_some, WB, Bool.false_eq_true, if_false, if_true]
theorem ws_for {tg : Tg} {ik : Ik} {its : List IE} {body : List IS} {Q : Fl → G → Prop} : WS tb n (.for_ tg ik its body) g Q ↔ WIts tb n ik its g fun ds g1 => WFor tb n tg body ds g1 Q := by
  show Wo (stS (ev tb n) (.for_ tg ik its body) g) Q ↔ Wo _ _
  simp only [stS]
  cases itsD (ev tb n) ik its g with
  | none => simp only [wo_none]
  | some t => obtain ⟨ds, g1⟩ := t; simp only [wo_some, WFor]
theorem ws_sto {i : Nat} {k e : IE} {Q : Fl → G → Prop} : WS tb n (.sto i k e) g Q ↔ WKp tb n e g fun d g2 => (∃ v, g2.env[i]? = some (some v)) ∧ WR tb n k g2 fun y g3 => match y with
    | .int j => (match g3.env[i]? with
      | some (some (.own xs)) => So (ixN xs.length j) fun n => Q .nx (setOwn g3 i (xs.set n d))
      | some (some .pen) => So g3.pen fun xs => So (ixN xs.length j) fun n => Q .nx { g3 with pen := some (xs.set n d) }
      | _ => False)
    | _ => False := by
  rw [wkp_iff]
  show Wo (stS (ev tb n) (.sto i k e) g) Q ↔ _
  simp only [stS, wr_iff]
  unfold kp1
  cases (ev tb n).e e g with
  | none => simp only [wo_none]
  | some t =>
    obtain ⟨r, g1⟩ := t
    simp only
    cases keepR r g1 with
    | none => simp only [wo_none]
    | some t =>
      obtain ⟨d, g2⟩ := t
      simp only [wo_some]
      have go : ∀ v, g2.env[i]? = some (some v) → (Wo (match rd1 (ev tb n) k g2 with
          | some (.int j, g3) => (match g3.env[i]? with
            | some (some (.own xs)) => (ixN xs.length j).map fun n => (Fl.nx, setOwn g3 i (xs.set n d))
            | some (some .pen) => (match g3.pen with
              | none => none
              | some xs => (ixN xs.length j).map fun n => (Fl.nx, { g3 with pen := some (xs.set n d) }))
            | _ => none)
          | _ => none) Q ↔ Wo (rd1 (ev tb n) k g2) fun y g3 => match y with
            | .int j => (match g3.env[i]? with
              | some (some (.own xs)) => So (ixN xs.length j) fun n => Q .nx (setOwn g3 i (xs.set n d))
              | some (some .pen) => So g3.pen fun xs => So (ixN xs.length j) fun n => Q .nx { g3 with pen := some (xs.set n d) }
              | _ => False)
            | _ => False) := fun v _ => by
        cases rd1 (ev tb n) k g2 with
        | none => simp only [wo_none]
        | some t =>
          obtain ⟨y, g3⟩ := t
          cases y <;> simp only [wo_none, wo_some]
          generalize g3.env[i]? = o
          match o with
          | some (some (.d x)) => simp only [wo_none]
          | some (some (.scr x)) => simp only [wo_none]
          | some (some (.dic _ _)) => simp only [wo_none]
          | some (some (.fn _ _)) => simp only [wo_none]
          | some (some (.ofn _ _)) => simp only [wo_none]
          | some none => simp only [wo_none]
          | none => simp only [wo_none]
          | some (some (.own xs)) => simp only [wo_map]; rfl
          | some (some .pen) =>
            simp only
            cases g3.pen with
            | none => simp only [wo_none, so_none]
            | some xs => simp only [wo_map, so_some]; rfl
      cases ho : g2.env[i]? with
      | none => simp only [wo_none, reduceCtorEq, exists_false, false_and]
      | some o =>
        cases o with
        | none => simp only [wo_none, Option.some.injEq, reduceCtorEq, exists_false, false_and]
        | some v =>
          have e1 : (∃ v', some (some v) = some (some v')) := ⟨v, rfl⟩
          simp only [e1, true_and]
          exact go v ho
theorem wfor_nil {tg : Tg} {body : List IS} {Q : Fl → G → Prop} : WFor tb n tg body [] g Q ↔ Q .nx g := wo_some
theorem wfor_cons {tg : Tg} {body : List IS} {x : D} {xs : List D} {Q : Fl → G → Prop} : WFor tb n tg body (x :: xs) g Q ↔ So (asgT tg x g) fun g1 => WB tb n body g1 fun fl g2 => match fl with | .nx => WFor tb n tg body xs g2 Q | .ret r => Q (.ret r) g2 := by
  show Wo (evFor (ev tb n) tg body (x :: xs) g) Q ↔ _
  unfold evFor
  cases asgT tg x g with
  | none => simp only [wo_none, so_none]
  | some g1 =>
    simp only [so_some, WB]
    cases (ev tb n).ss body g1 with
    | none => simp only [wo_none]
    | some t => obtain ⟨fl, g2⟩ := t; cases fl <;> simp only [wo_some, WFor]
theorem wlc_nil {elt : IE} {tg : Tg} {cond : Option IE} {own : List Nat} {acc : List D} {Q : List D → G → Prop} : WLc tb n elt tg cond own [] acc g Q ↔ Q acc { g with env := wipeE g.env own } := wo_some
def WCnd (tb : List FnD) (n : Nat) (cond : Option IE) (g : G) (Q : Bool → G → Prop) : Prop := match cond with
  | none => Q true g
  | some c => WT tb n c g Q
theorem wlc_cons {elt : IE} {tg : Tg} {cond : Option IE} {own : List Nat} {x : D} {xs acc : List D} {Q : List D → G → Prop} : WLc tb n elt tg cond own (x :: xs) acc g Q ↔ So (asgT tg x { g with env := wipeE g.env own }) fun g1 => WCnd tb n cond g1 fun k g2 => if k = true then
      WKp tb n elt g2 fun d g4 => acc.length < szL ∧ WLc tb n elt tg cond own xs (acc ++ [d]) g4 Q
    else WLc tb n elt tg cond own xs acc g2 Q := by
  show Wo (evLc (ev tb n) elt tg cond own (x :: xs) acc g) Q ↔ _
  unfold evLc
  cases asgT tg x { g with env := wipeE g.env own } with
  | none => simp only [wo_none, so_none]
  | some g1 =>
    simp only [so_some, wkp_iff]
    have tail : ∀ g2, Wo (match (ev tb n).e elt g2 with
        | none => none
        | some (r, g3) => match keepR r g3 with
          | none => none
          | some (d, g4) => if acc.length < szL then evLc (ev tb n) elt tg cond own xs (acc ++ [d]) g4 else none) Q ↔ Wo (kp1 (ev tb n) elt g2) fun d g4 => acc.length < szL ∧ WLc tb n elt tg cond own xs (acc ++ [d]) g4 Q := fun g2 => by
      unfold kp1
      cases (ev tb n).e elt g2 with
      | none => simp only [wo_none]
      | some t =>
        obtain ⟨r, g3⟩ := t
        simp only
        cases keepR r g3 with
        | none => simp only [wo_none]
        | some t =>
          obtain ⟨d, g4⟩ := t
          simp only [wo_some, WLc]
          by_cases h : acc.length < szL
          · rw [if_pos h]; exact ⟨fun q => ⟨h, q⟩, fun q => q.2⟩
          · rw [if_neg h, wo_none]; exact ⟨False.elim, fun q => h q.1⟩
    cases cond with
    | none =>
      simp only [WCnd, if_true]
      exact tail g1
    | some c =>
      simp only [WCnd, WT]
      cases (ev tb n).t c g1 with
      | none => simp only [wo_none]
      | some t =>
        obtain ⟨k, g2⟩ := t
        cases k with
        | true => simp only [wo_some, if_true]; exact tail g2
        | false => simp only [wo_some, Bool.false_eq_true, if_false, WLc]
def intP (g : G) (i : Nat) (Q : Int → Prop) : Prop := match g.env[i]? with
  | some (some (.d (.int a))) => Q a
  | _ => False
theorem ws_aug {i : Nat} {e : IE} {Q : Fl → G → Prop} : WS tb n (.aug i e) g Q ↔ intP g i fun a => WR tb n e g fun x g1 => (match x with | .int b => Q .nx (setD g1 i (.int (a + b))) | _ => False) := by
  show Wo (stS (ev tb n) (.aug i e) g) Q ↔ _
  simp only [stS, intP]
  rcases g.env[i]? with _ | (_ | sv)
  · simp only [wo_none]
  · simp only [wo_none]
  cases sv with
  | d x0 =>
    cases x0 with
    | int a =>
      simp only [wr_iff]
      cases rd1 (ev tb n) e g with
      | none => simp only [wo_none]
      | some xg => obtain ⟨x, g1⟩ := xg; cases x <;> simp only [wo_some, wo_none]
    | _ => simp only [wo_none]
  | _ => simp only [wo_none]
theorem ws_ndef {i k : Nat} {js : List Nat} {Q : Fl → G → Prop} : WS tb n (.ndef i k js) g Q ↔ Q .nx { g with env := g.env.set i (some (.ofn k js)) } := wo_some
def WWh (tb : List FnD) (n : Nat) (t : IE) (body : List IS) (m : Nat) (g : G) (Q : Fl → G → Prop) : Prop := Wo (evWh (ev tb n) t body m g) Q
theorem ws_whl {t : IE} {body : List IS} {Q : Fl → G → Prop} : WS tb n (.whl t body) g Q ↔ WWh tb n t body whF g Q := Iff.rfl
theorem wwh_succ {t : IE} {body : List IS} {m : Nat} {Q : Fl → G → Prop} : WWh tb n t body (m + 1) g Q ↔ WT tb n t g fun k g1 => if k = true then WB tb n body g1 fun fl g2 => (match fl with | .nx => WWh tb n t body m g2 Q | .ret r => Q (.ret r) g2) else Q .nx g1 := by
  show Wo (evWh (ev tb n) t body (m + 1) g) Q ↔ Wo _ _
  unfold evWh
  cases (ev tb n).t t g with
  | none => simp only [wo_none]
  | some kg =>
    obtain ⟨k, g1⟩ := kg
    cases k with
    | false => simp only [wo_some, Bool.false_eq_true, if_false]
    | true =>
      simp only [wo_some, if_true, WB]
      cases (ev tb n).ss body g1 with
      | none => simp only [wo_none]
      | some fg => obtain ⟨fl, g2⟩ := fg; cases fl <;> simp only [wo_some, WWh]
/-- a while loop by its measure -/
theorem wwh_inv {t : IE} {body : List IS} {Q : Fl → G → Prop} (I : Nat → G → Prop) (step : ∀ m g, I m g → WT tb n t g fun k g1 => if k = true then ∃ m', m = m' + 1 ∧ WB tb n body g1 fun fl g2 => (match fl with | .nx => ∃ m2, m2 ≤ m' ∧ I m2 g2 | .ret r => Q (.ret r) g2) else Q .nx g1) :
    ∀ (f m : Nat) (g : G), m < f → I m g → WWh tb n t body f g Q
  | 0, m, g, h, _ => absurd h (Nat.not_lt_zero m)
  | f + 1, m, g, h, hi => by
    rw [wwh_succ]
    refine wo_imp (step m g hi) fun k g1 q => ?_
    cases k with
    | false => exact q
    | true =>
      simp only [if_true] at q ⊢
      obtain ⟨m', rfl, q⟩ := q
      refine wo_imp q fun fl g2 q => ?_
      cases fl with
      | nx => obtain ⟨m2, h2, hi2⟩ := q; exact wwh_inv I step f m2 g2 (by omega) hi2
      | ret r => exact q
theorem ws_dput {i : Nat} {k v : IE} {Q : Fl → G → Prop} : WS tb n (.dput i k v) g Q ↔ WKp tb n v g fun d g2 => dicP g2 i (fun _ _ => True) ∧ WKp tb n k g2 fun x g3 => dicP g3 i fun t kvs => So (keyD t x) fun kk => kvs.length < szL ∧ Q .nx (setDic g3 i t (dstore kvs x kk d)) := by
  rw [wkp_iff]
  show Wo (stS (ev tb n) (.dput i k v) g) Q ↔ _
  simp only [stS, wkp_iff]
  unfold kp1
  cases (ev tb n).e v g with
  | none => simp only [wo_none]
  | some rg =>
    obtain ⟨r, g1⟩ := rg
    simp only
    cases keepR r g1 with
    | none => simp only [wo_none]
    | some dg =>
      obtain ⟨d, g2⟩ := dg
      simp only [wo_some, dicP]
      rcases g2.env[i]? with _ | (_ | sv)
      · simp only [wo_none, false_and]
      · simp only [wo_none, false_and]
      cases sv with
      | dic t0 kvs0 =>
        simp only [true_and]
        cases (ev tb n).e k g2 with
        | none => simp only [wo_none]
        | some rg =>
          obtain ⟨r, g1⟩ := rg
          simp only
          cases keepR r g1 with
          | none => simp only [wo_none]
          | some xg =>
            obtain ⟨x, g3⟩ := xg
            simp only [wo_some]
            rcases g3.env[i]? with _ | (_ | sv)
            · simp only [wo_none]
            · simp only [wo_none]
            cases sv with
            | dic t kvs =>
              simp only
              cases keyD t x with
              | none => simp only [wo_none, so_none]
              | some kk =>
                simp only [so_some]
                by_cases h : kvs.length < szL
                · rw [if_pos h, wo_some]; exact ⟨fun q => ⟨h, q⟩, fun q => q.2⟩
                · rw [if_neg h, wo_none]; exact ⟨False.elim, fun q => h q.1⟩
            | _ => simp only [wo_none]
      | _ => simp only [wo_none, false_and]
end
end DL
end
section
set_option Elab.async false
set_option linter.all false
set_option maxRecDepth 100000
set_option autoImplicit false
set_option maxHeartbeats 4000000
/-! DL, part x: one step of a run. -/
namespace DL
open PySem PySem.Spec L2
theorem slot_d {g : G} {i : Nat} {x : D} {Q : R → G → Prop} (h : g.env[i]? = some (some (.d x))) (q : Q (.d x) g) : slotP g i Q := by unfold slotP; rw [h]; exact q
theorem slot_own {g : G} {i : Nat} {x : List D} {Q : R → G → Prop} (h : g.env[i]? = some (some (.own x))) (q : Q (.bo i x) g) : slotP g i Q := by unfold slotP; rw [h]; exact q
theorem slot_scr {g : G} {i : Nat} {x : List Int} {Q : R → G → Prop} (h : g.env[i]? = some (some (.scr x))) (q : Q (.scr x) g) : slotP g i Q := by unfold slotP; rw [h]; exact q
theorem slot_pen {g : G} {i : Nat} {Q : R → G → Prop} (h : g.env[i]? = some (some .pen)) (hp : g.pen.isSome = true) (q : Q .pen g) : slotP g i Q := by unfold slotP; rw [h]; exact ⟨hp, q⟩
theorem so_rfl {α : Type} {o : Option α} {a : α} {Q : α → Prop} (h : o = some a) (q : Q a) : So o Q := ⟨a, h, q⟩
theorem so_ite {α : Type} {c : Prop} {inst : Decidable c} {a : α} {Q : α → Prop} (h : c) (q : Q a) : So (@ite _ c inst (some a) none) Q := so_if.mpr ⟨h, q⟩
theorem ite_t {A B : Prop} (h : A) : if true = true then A else B := by rw [if_pos rfl]; exact h
theorem ite_f {A B : Prop} (h : B) : if false = true then A else B := by rw [if_neg Bool.false_ne_true]; exact h
theorem ite_d {p A B : Prop} [Decidable p] (h1 : p → A) (h2 : ¬ p → B) : if decide p = true then A else B := by
  by_cases h : p
  · rw [if_pos (decide_eq_true h)]; exact h1 h
  · rw [if_neg (by rw [decide_eq_false h]; exact Bool.false_ne_true)]; exact h2 h
theorem ite_b {b : Bool} {A B : Prop} (h1 : b = true → A) (h2 : b = false → B) : if b = true then A else B := by
  cases b with
  | true => exact ite_t (h1 rfl)
  | false => exact ite_f (h2 rfl)
theorem wr_of {tb : List FnD} {n : Nat} {g : G} {ir : IE} {Q : D → G → Prop} (h : WE tb n ir g fun r g1 => So (rdR r) fun x => Q x g1) : WR tb n ir g Q := h
theorem wkp_of {tb : List FnD} {n : Nat} {g : G} {ir : IE} {Q : D → G → Prop} (h : WE tb n ir g fun r g1 => Wo (keepR r g1) Q) : WKp tb n ir g Q := h
theorem wo_rfl {α β : Type} {o : Option (α × β)} {a : α} {b : β} {Q : α → β → Prop} (h : o = some (a, b)) (q : Q a b) : Wo o Q := ⟨a, b, h, q⟩
theorem wp_n {tb : List FnD} {n : Nat} {g : G} {Q : Option Int → G → Prop} (h : Q none g) : WP tb n none g Q := h
theorem wp_s {tb : List FnD} {n : Nat} {g : G} {e : IE} {Q : Option Int → G → Prop} (h : WR tb n e g fun x g1 => match x with | .int i => Q (some i) g1 | _ => False) : WP tb n (some e) g Q := h
theorem rows_at {P : Int → Prop} {l : List D} {i : Int} (hl : ∀ d ∈ l, ∃ z, d = .int z ∧ P z) (h0 : 0 ≤ i) (h1 : i < l.length) : ∃ z, L2.atI l i = some (.int z) ∧ P z := by
  obtain ⟨k, rfl⟩ := Int.eq_ofNat_of_zero_le h0
  have hk : k < l.length := by omega
  obtain ⟨z, e, hz⟩ := hl l[k] (List.getElem_mem hk)
  exact ⟨z, L2.atI_nat (by rw [List.getElem?_eq_getElem hk, e]), hz⟩
theorem log_lt {i : Int} {k : Nat} (h0 : i.natAbs < 2 ^ k) (hk : 0 < k) : i.natAbs.log2 < k := by
  by_cases h : i.natAbs = 0
  · rw [h]; exact hk
  · exact (Nat.log2_lt h).mpr h0
theorem log_int {i : Int} {k : Nat} (h0 : 0 ≤ i) (h : i < 2 ^ k) (hk : 0 < k) : i.natAbs.log2 < k := by
  refine log_lt ?_ hk
  have e : ((i.natAbs : Nat) : Int) = i := Int.natAbs_of_nonneg h0
  have : ((i.natAbs : Nat) : Int) < ((2 ^ k : Nat) : Int) := by rw [e]; simpa using h
  exact Int.ofNat_lt.mp this
theorem sto_pen {tb : List FnD} {n : Nat} {g : G} {i : Nat} {k e : IE} {Q : Fl → G → Prop} (h : WKp tb n e g fun d g2 => g2.env[i]? = some (some .pen) ∧ WR tb n k g2 fun y g3 => ∃ j xs m, y = .int j ∧ g3.env[i]? = some (some .pen) ∧ g3.pen = some xs ∧ ixN xs.length j = some m ∧ Q .nx { g3 with pen := some (xs.set m d) }) : WS tb n (.sto i k e) g Q := by
  rw [ws_sto]
  refine wo_imp h fun r g1 q => wo_imp q fun d g2 ⟨h1, q⟩ => ⟨⟨_, h1⟩, wo_imp q fun r2 g3 ⟨y, e1, j, xs, m, e2, e3, e4, e5, q⟩ => ⟨y, e1, ?_⟩⟩
  subst e2
  simp only [e3, e4]
  exact ⟨xs, rfl, m, e5, q⟩
theorem sto_own {tb : List FnD} {n : Nat} {g : G} {i : Nat} {k e : IE} {Q : Fl → G → Prop} (h : WKp tb n e g fun d g2 => (∃ xs, g2.env[i]? = some (some (.own xs))) ∧ WR tb n k g2 fun y g3 => ∃ j xs m, y = .int j ∧ g3.env[i]? = some (some (.own xs)) ∧ ixN xs.length j = some m ∧ Q .nx (setOwn g3 i (xs.set m d))) : WS tb n (.sto i k e) g Q := by
  rw [ws_sto]
  refine wo_imp h fun r g1 q => wo_imp q fun d g2 ⟨⟨_, h1⟩, q⟩ => ⟨⟨_, h1⟩, wo_imp q fun r2 g3 ⟨y, e1, j, xs, m, e2, e3, e5, q⟩ => ⟨y, e1, ?_⟩⟩
  subst e2
  simp only [e3]
  exact ⟨m, e5, q⟩
theorem app_own {tb : List FnD} {n : Nat} {g : G} {i : Nat} {e : IE} {Q : Fl → G → Prop} (h0 : isOwn g.env[i]?) (h : WKp tb n e g fun d g2 => ∃ xs, g2.env[i]? = some (some (.own xs)) ∧ xs.length < szL ∧ Q .nx (setOwn g2 i (xs ++ [d]))) : WS tb n (.app i e) g Q := by
  rw [ws_app]
  refine ⟨h0, wo_imp h fun r g1 q => wo_imp q fun d g2 ⟨xs, e1, q⟩ => ?_⟩
  simp only [e1]
  exact q
theorem wfor_inv {tb : List FnD} {n : Nat} {tg : Tg} {body : List IS} {Q : Fl → G → Prop} (I : List D → G → Prop)
    (step : ∀ d ds g, I (d :: ds) g → So (asgT tg d g) fun g1 => WB tb n body g1 fun fl g2 => match fl with | .nx => I ds g2 | .ret r => Q (.ret r) g2) (hq : ∀ g, I [] g → Q .nx g) : ∀ {ds : List D} {g : G}, I ds g → WFor tb n tg body ds g Q
  | [], g, h => wfor_nil.mpr (hq g h)
  | d :: ds, g, h => by
    rw [wfor_cons]
    obtain ⟨g1, e, q⟩ := step d ds g h
    refine ⟨g1, e, wo_imp q fun fl g2 z => ?_⟩
    cases fl with
    | nx => exact wfor_inv I step hq z
    | ret r => exact z
theorem ite_nd {p A B : Prop} [Decidable p] (h1 : ¬ p → A) (h2 : p → B) : if (!decide p) = true then A else B := by
  by_cases h : p
  · rw [decide_eq_true h]; exact ite_f (h2 h)
  · rw [decide_eq_false h]; exact ite_t (h1 h)
theorem ite_ndf {p A B : Prop} [Decidable p] (h1 : ¬ p → B) (h2 : p → A) : if (!decide p) = false then A else B := by
  by_cases h : p
  · rw [decide_eq_true h, if_pos (show (!true) = false from rfl)]; exact h2 h
  · rw [decide_eq_false h, if_neg (show ¬ (!false) = false by decide)]; exact h1 h
theorem ite_df {p A B : Prop} [Decidable p] (h1 : p → B) (h2 : ¬ p → A) : if decide p = false then A else B := by
  by_cases h : p
  · rw [decide_eq_true h, if_neg (show ¬ true = false by decide)]; exact h1 h
  · rw [decide_eq_false h, if_pos (show false = false from rfl)]; exact h2 h
theorem ite_bf {b : Bool} {A B : Prop} (h1 : b = true → B) (h2 : b = false → A) : if b = false then A else B := by
  cases b with
  | true => rw [if_neg (show ¬ true = false by decide)]; exact h1 rfl
  | false => rw [if_pos (show false = false from rfl)]; exact h2 rfl
theorem ite_nb {b : Bool} {A B : Prop} (h1 : b = false → A) (h2 : b = true → B) : if (!b) = true then A else B := by
  cases b with
  | true => exact ite_f (h2 rfl)
  | false => exact ite_t (h1 rfl)
theorem wlc_inv {tb : List FnD} {n : Nat} {elt : IE} {tg : Tg} {cond : Option IE} {own : List Nat} {Q : List D → G → Prop} (I : List D → List D → G → Prop)
    (step : ∀ d ds acc g, I (d :: ds) acc g → So (asgT tg d { g with env := wipeE g.env own }) fun g1 => WCnd tb n cond g1 fun k g2 => if k = true then WKp tb n elt g2 fun x g4 => acc.length < szL ∧ I ds (acc ++ [x]) g4 else I ds acc g2)
    (hq : ∀ acc g, I [] acc g → Q acc { g with env := wipeE g.env own }) : ∀ {ds acc : List D} {g : G}, I ds acc g → WLc tb n elt tg cond own ds acc g Q
  | [], acc, g, h => wlc_nil.mpr (hq acc g h)
  | d :: ds, acc, g, h => by
    rw [wlc_cons]
    obtain ⟨g1, e, q⟩ := step d ds acc g h
    refine ⟨g1, e, ?_⟩
    have go : ∀ k g2, (if k = true then WKp tb n elt g2 fun x g4 => acc.length < szL ∧ I ds (acc ++ [x]) g4 else I ds acc g2) → (if k = true then WKp tb n elt g2 fun d g4 => acc.length < szL ∧ WLc tb n elt tg cond own ds (acc ++ [d]) g4 Q else WLc tb n elt tg cond own ds acc g2 Q) := fun k g2 z => by
      cases k with
      | true =>
        rw [if_pos rfl] at z ⊢
        exact wo_imp z fun r g3 z => wo_imp z fun x g4 z => ⟨z.1, wlc_inv I step hq z.2⟩
      | false =>
        rw [if_neg Bool.false_ne_true] at z ⊢
        exact wlc_inv I step hq z
    cases cond with
    | none => exact go true g1 q
    | some c => exact wo_imp q fun k g2 z => go k g2 z
/-- what holds between a statement and the rest -/
theorem wb_cut {tb : List FnD} {n : Nat} {g : G} {st : IS} {rest : List IS} {Q : Fl → G → Prop} (Mid : G → Prop) (h : WS tb n st g fun fl g1 => match fl with | .nx => Mid g1 | .ret r => Q (.ret r) g1) (k : ∀ g1, Mid g1 → WB tb n rest g1 Q) : WB tb (n + 1) (st :: rest) g Q := by
  rw [wb_cons]
  refine wo_imp h fun fl g1 q => ?_
  cases fl with
  | nx => exact k g1 q
  | ret r => exact q
/-- a product of two small ones may be written -/
theorem mul_small {i j : Int} (h0 : 0 ≤ i) (h1 : i < 2 ^ 90) (h2 : 0 ≤ j) (h3 : j < 2 ^ 90) : i.natAbs.log2 + j.natAbs.log2 < 1000000 := by
  have a := log_int h0 h1 (by omega)
  have b := log_int h2 h3 (by omega)
  omega
theorem cnd_n {tb : List FnD} {n : Nat} {g : G} {Q : Bool → G → Prop} (h : Q true g) : WCnd tb n none g Q := h
theorem cnd_s {tb : List FnD} {n : Nat} {c : IE} {g : G} {Q : Bool → G → Prop} (h : WT tb n c g Q) : WCnd tb n (some c) g Q := h
theorem so_id {α : Type} {o : Option α} {Q : α → Prop} (h : So o Q) : So o Q := h
theorem ite_y {b c : Bool} {inst : Decidable (b = c)} {A B : Prop} (h : b = c) (q : A) : @ite _ (b = c) inst A B := by rw [if_pos h]; exact q
theorem ite_n {b c : Bool} {inst : Decidable (b = c)} {A B : Prop} (h : b = !c) (q : B) : @ite _ (b = c) inst A B := by
  rw [if_neg (by subst h; cases c <;> simp)]
  exact q
theorem we_allG {tb : List FnD} {n : Nat} {g : G} {j i : Nat} {it : IE} {Q : R → G → Prop} (h : WE tb n it g fun r g1 => So (rdR r) fun x => ∃ a z, x = .str a ∧ g1.env[j]? = some (some (.d (.str z))) ∧ Q (.d (.bool (a.cps.toList.all fun ch => decide (ch ∈ z.cps.toList)))) g1) : WE tb (n + 1) (.allG (.slot j) i it) g Q := by
  obtain ⟨r, g1, e1, x, e2, a, z, rfl, e3, q⟩ := h
  have e4 : rd1 (ev tb n) it g = some (.str a, g1) := by
    unfold rd1
    rw [e1]
    simp only [e2, Option.map_some]
  refine ⟨_, _, ?_, q⟩
  show stE (ev tb n) (.allG (.slot j) i it) g = _
  simp only [stE, e4, e3]
theorem wt_allG {tb : List FnD} {n : Nat} {g : G} {a : IE} {j i : Nat} {Q : Bool → G → Prop} (h : WR tb n (.allG (.slot j) i a) g fun x g1 => So (truD x) fun k => Q k g1) : WT tb (n + 1) (.allG (.slot j) i a) g Q := (wt_any rfl).mpr h
theorem we_join {tb : List FnD} {n : Nat} {a b : IE} {g : G} {Q : R → G → Prop} : WE tb (n + 1) (.join a b) g Q ↔ WE tb n a g fun r1 g1 => WE tb n b g1 fun r2 g2 => So (rdR r1) fun x => So (rdR r2) fun y => match x, y with
    | .str x, .list ds => So (strsD ds) fun ys => (ys.map (·.length)).sum + ys.length * x.length ≤ szL ∧ Q (.d (.str (Txt.join x ys))) g2
    | _, _ => False := by
  show Wo (stE (ev tb n) (.join a b) g) Q ↔ _
  rw [← wr2_iff (Q := fun x y g2 => match x, y with
    | .str x, .list ds => So (strsD ds) fun ys => (ys.map (·.length)).sum + ys.length * x.length ≤ szL ∧ Q (.d (.str (Txt.join x ys))) g2
    | _, _ => False)]
  simp only [stE]
  cases rd2 (ev tb n) a b g with
  | none => simp only [wo_none]; exact ⟨False.elim, fun ⟨_, _, _, h, _⟩ => (by cases h)⟩
  | some t =>
    obtain ⟨x, y, g1⟩ := t
    have one : ∀ {P : D → D → G → Prop}, (∃ x' y' g', some (x, y, g1) = some (x', y', g') ∧ P x' y' g') ↔ P x y g1 := fun {P} => ⟨fun ⟨_, _, _, e, q⟩ => by cases e; exact q, fun q => ⟨_, _, _, rfl, q⟩⟩
    rw [one]
    cases x <;> cases y <;> simp only [wo_none]
    rename_i s1 ds
    cases strsD ds with
    | none => simp only [so_none, wo_none]
    | some k =>
      simp only [so_some]
      split
      · rename_i h; rw [wo_some]; exact ⟨fun q => ⟨h, q⟩, fun q => q.2⟩
      · rename_i h; rw [wo_none]; exact ⟨False.elim, fun q => h q.1⟩
theorem wb_id {tb : List FnD} {n : Nat} {ss : List IS} {g : G} {Q : Fl → G → Prop} (h : WB tb n ss g Q) : WB tb n ss g Q := h
theorem wc_id {tb : List FnD} {n f : Nat} {as : List Sv} {p : Option (List D)} {Q : R → Option (List D) → Prop} (h : WC tb n f as p Q) : WC tb n f as p Q := h
theorem wfor_id {tb : List FnD} {n : Nat} {tg : Tg} {body : List IS} {ds : List D} {g : G} {Q : Fl → G → Prop} (h : WFor tb n tg body ds g Q) : WFor tb n tg body ds g Q := h
theorem wlc_id {tb : List FnD} {n : Nat} {elt : IE} {tg : Tg} {cond : Option IE} {own : List Nat} {ds acc : List D} {g : G} {Q : List D → G → Prop} (h : WLc tb n elt tg cond own ds acc g Q) : WLc tb n elt tg cond own ds acc g Q := h
theorem slot_dic {g : G} {i : Nat} {t : Bool} {kvs : List (D × D)} {Q : R → G → Prop} (h : g.env[i]? = some (some (.dic t kvs))) (q : Q (.bd i t kvs) g) : slotP g i Q := by unfold slotP; rw [h]; exact q
theorem slot_fn {g : G} {i k : Nat} {cs : List Cv} {Q : R → G → Prop} (h : g.env[i]? = some (some (.fn k cs))) (q : Q (.fn k cs) g) : slotP g i Q := by unfold slotP; rw [h]; exact q
theorem slot_ofn {g : G} {i k k' : Nat} {js : List Nat} {cs : List Cv} {Q : R → G → Prop} (h : g.env[i]? = some (some (.ofn k js))) (h2 : fnAt g i = some (k', cs)) (q : Q (.fn k' cs) g) : slotP g i Q := by unfold slotP; rw [h]; exact ⟨_, h2, q⟩
theorem dic_p {g : G} {i : Nat} {t : Bool} {kvs : List (D × D)} {Q : Bool → List (D × D) → Prop} (h : g.env[i]? = some (some (.dic t kvs))) (q : Q t kvs) : dicP g i Q := by unfold dicP; rw [h]; exact q
theorem int_p {g : G} {i : Nat} {a : Int} {Q : Int → Prop} (h : g.env[i]? = some (some (.d (.int a)))) (q : Q a) : intP g i Q := by unfold intP; rw [h]; exact q
theorem callS_of {tb : List FnD} {n : Nat} {g : G} {i : Nat} {es : List IE} {Q : R → G → Prop} (h0 : (fnAt g i).isSome = true) (h : WAs tb n es g fun as g1 => So (fnAt g1 i) fun kc => WK tb n kc.1 kc.2 as g1.pen fun r p => Q r { g1 with pen := p }) : WE tb (n + 1) (.callS i es) g Q := we_callS.mpr ⟨h0, h⟩
theorem dget_of {tb : List FnD} {n : Nat} {g : G} {i : Nat} {k : IE} {Q : R → G → Prop} {t : Bool} {kvs : List (D × D)} (h0 : g.env[i]? = some (some (.dic t kvs))) (h : WR tb n k g fun x g1 => dicP g1 i fun t kvs => So (keyD t x) fun kk => So (dfind kvs kk) fun v => Q (.d v) g1) : WE tb (n + 1) (.dget i k) g Q := we_dget.mpr ⟨dic_p h0 trivial, h⟩
theorem wk_id {tb : List FnD} {n f : Nat} {cs : List Cv} {as : List Sv} {p : Option (List D)} {Q : R → Option (List D) → Prop} (h : WK tb n f cs as p Q) : WK tb n f cs as p Q := h
theorem wt_any_callS {tb : List FnD} {n : Nat} {g : G} {i : Nat} {es : List IE} {Q : Bool → G → Prop} : WT tb (n + 1) (.callS i es) g Q ↔ WR tb n (.callS i es) g fun x g1 => So (truD x) fun k => Q k g1 := wt_any rfl
theorem wdc_inv {tb : List FnD} {n : Nat} {t : Bool} {k v : IE} {i : Nat} {Q : List (D × D) → G → Prop} (I : List D → List (D × D) → G → Prop)
    (step : ∀ d ds acc g, I (d :: ds) acc g → WDs tb n [k, v] (setD { g with env := wipeE g.env [i] } i d) fun l g1 => match l with
      | [kd, vd] => So (keyD t kd) fun kk => acc.length < szL ∧ I ds (dstore acc kd kk vd) g1
      | _ => False)
    (hq : ∀ acc g, I [] acc g → Q acc { g with env := wipeE g.env [i] }) : ∀ {ds : List D} {acc : List (D × D)} {g : G}, I ds acc g → WDc tb n t k v i ds acc g Q
  | [], acc, g, h => wdc_nil.mpr (hq acc g h)
  | d :: ds, acc, g, h => by
    rw [wdc_cons]
    refine wo_imp (step d ds acc g h) fun l g1 q => ?_
    match l, q with
    | [kd, vd], q => obtain ⟨kk, e, h1, h2⟩ := q; exact ⟨kk, e, h1, wdc_inv I step hq h2⟩
end DL
end
section
set_option Elab.async false
set_option linter.all false
set_option maxRecDepth 100000
set_option autoImplicit false
set_option maxHeartbeats 1000000
open PySem PySem.Spec
/-! CL: what the laws have in common: numbers drawn from the script. -/
namespace CL
open DL L2
local macro_rules | `(tactic| decreasing_tactic) => `(tactic| repeat (first | ((with_reducible apply slot_d); · exact rfl) | ((with_reducible apply so_rfl); · exact rfl) | ((with_reducible apply wo_rfl); · exact rfl) | ((with_reducible refine (wb_cons (s := IS.set _ _)).mpr ?_); try dsimp only [setD, setOwn, setDic, List.set_cons_zero, List.set_cons_succ]) | ((with_reducible refine (wb_cons (s := IS.ret _)).mpr ?_); try dsimp only [setD, setOwn, setDic, List.set_cons_zero, List.set_cons_succ]) | ((with_reducible refine (wb_cons (s := IS.sto _ _ _)).mpr ?_); try dsimp only [setD, setOwn, setDic, List.set_cons_zero, List.set_cons_succ]) | ((with_reducible refine (wb_cons (s := IS.app _ _)).mpr ?_); try dsimp only [setD, setOwn, setDic, List.set_cons_zero, List.set_cons_succ]) | ((with_reducible refine (wb_cons (s := IS.own _ _)).mpr ?_); try dsimp only [setD, setOwn, setDic, List.set_cons_zero, List.set_cons_succ]) | ((with_reducible refine (wb_cons (s := IS.exp _)).mpr ?_); try dsimp only [setD, setOwn, setDic, List.set_cons_zero, List.set_cons_succ]) | ((with_reducible refine (wb_cons (s := IS.unp _ _)).mpr ?_); try dsimp only [setD, setOwn, setDic, List.set_cons_zero, List.set_cons_succ]) | ((with_reducible refine (wb_cons (s := IS.par _ _ _ _ _ _)).mpr ?_); try dsimp only [setD, setOwn, setDic, List.set_cons_zero, List.set_cons_succ]) | ((with_reducible refine (wb_cons (s := IS.pen _ _)).mpr ?_); try dsimp only [setD, setOwn, setDic, List.set_cons_zero, List.set_cons_succ]) | ((with_reducible refine (wb_cons (s := IS.iff _ _ _) (ss := [])).mpr ?_); try dsimp only [setD, setOwn, setDic, List.set_cons_zero, List.set_cons_succ]) | with_reducible refine ws_set.mpr ?_ | with_reducible refine ws_ret.mpr ?_ | with_reducible refine ws_iff.mpr ?_ | with_reducible refine ws_own.mpr ?_ | with_reducible refine ws_for.mpr ?_ | with_reducible refine ws_exp.mpr ?_ | with_reducible refine ws_unp.mpr ?_ | with_reducible refine ws_par.mpr ?_ | with_reducible refine ws_pen.mpr ?_ | with_reducible refine wb_nil.mpr ?_ | with_reducible refine we_slot.mpr ?_ | with_reducible refine we_cst.mpr ?_ | with_reducible refine we_bin.mpr ?_ | with_reducible refine we_bi1.mpr ?_ | with_reducible refine we_cmp.mpr ?_ | with_reducible refine we_idx.mpr ?_ | with_reducible refine we_call.mpr ?_ | with_reducible refine we_bop.mpr ?_ | with_reducible refine we_not.mpr ?_ | with_reducible refine we_chn.mpr ?_ | with_reducible refine we_tup.mpr ?_ | with_reducible refine we_lst.mpr ?_ | with_reducible refine we_neg.mpr ?_ | with_reducible refine we_ife.mpr ?_ | with_reducible refine we_bi2.mpr ?_ | with_reducible refine we_rngL.mpr ?_ | with_reducible refine we_slc.mpr ?_ | with_reducible refine we_rev.mpr ?_ | with_reducible refine we_lc.mpr ?_ | with_reducible refine we_idxS.mpr ?_ | with_reducible refine wr_of ?_ | with_reducible refine wkp_of ?_ | with_reducible refine wp_n ?_ | with_reducible refine wp_s ?_ | with_reducible refine wds_cons.mpr ?_ | with_reducible refine wds_nil.mpr ?_ | with_reducible refine was_cons.mpr ?_ | with_reducible refine was_nil.mpr ?_ | with_reducible refine wt_bop.mpr ?_ | with_reducible refine wt_not.mpr ?_ | with_reducible refine wt_cmp.mpr ?_ | with_reducible refine wt_chn.mpr ?_ | with_reducible refine wt_call.mpr ?_ | with_reducible refine wt_bi1.mpr ?_ | with_reducible refine wt_slot.mpr ?_ | with_reducible refine wt_idx.mpr ?_ | with_reducible refine wits_seq.mpr ?_ | with_reducible refine wits_rng.mpr ?_ | with_reducible refine wits_enu.mpr ?_ | with_reducible refine wits_zip.mpr ?_ | with_reducible refine cnd_n ?_ | with_reducible refine cnd_s ?_ | with_reducible refine we_allG ?_ | with_reducible refine wt_allG ?_ | with_reducible refine we_join.mpr ?_ | with_reducible refine we_lam.mpr ?_ | with_reducible refine we_din.mpr ?_ | with_reducible refine wt_din.mpr ?_ | with_reducible refine we_dnew1.mpr ?_ | with_reducible refine we_dcomp.mpr ?_ | with_reducible refine wits_dic.mpr ?_ | with_reducible refine ws_aug.mpr ?_ | with_reducible refine ws_dput.mpr ?_ | with_reducible refine wt_any_callS.mpr ?_ | ((with_reducible apply dic_p); · exact rfl) | ((with_reducible apply int_p); · exact rfl) | ((with_reducible apply callS_of); · exact rfl) | ((with_reducible apply dget_of); · exact rfl) | ((with_reducible apply slot_dic); · exact rfl) | ((with_reducible apply slot_fn); · exact rfl) | ((with_reducible apply slot_ofn); · exact rfl; · exact rfl) | ((with_reducible apply ite_y); · exact rfl) | ((with_reducible apply ite_n); · exact rfl) | with_reducible refine sto_pen ?_ | ((with_reducible apply slot_pen); · exact rfl; · exact rfl) | ((with_reducible apply slot_own); · exact rfl) | ((with_reducible apply slot_scr); · exact rfl) | ((with_reducible apply so_id); refine so_ite ?_ ?_; · (first | decide | omega | exact mul_small (by omega) (by omega) (by omega) (by omega))) | ((fail_if_success (first | with_reducible apply wb_id | with_reducible apply wc_id | with_reducible apply wk_id | with_reducible apply wfor_id | with_reducible apply wlc_id)); refine ⟨_, _, rfl, rfl, ?_⟩) | ((fail_if_success (first | with_reducible apply wb_id | with_reducible apply wc_id | with_reducible apply wk_id | with_reducible apply wfor_id | with_reducible apply wlc_id)); refine ⟨rfl, ?_⟩) | ((fail_if_success (first | with_reducible apply wb_id | with_reducible apply wc_id | with_reducible apply wk_id | with_reducible apply wfor_id | with_reducible apply wlc_id)); refine ⟨_, _, _, rfl, rfl, rfl, rfl, ?_⟩)))
def bSpread : List IS := [.iff (.cmp .GtE (.slot 0) (.bin .Pow (.cst (.int 10)) (.cst (.int 18)))) [.ret (.slot 0)] [], .set 2 (.lst [(.cst (.int 2147483629)), (.cst (.int 2147483587)), (.cst (.int 2147483579)), (.cst (.int 2147483563)), (.cst (.int 2147483549)), (.cst (.int 2147483543)), (.cst (.int 2147483497))]), .set 2 (.bin .Add (.slot 2) (.lst [(.cst (.int 2147483489)), (.cst (.int 2147483477)), (.cst (.int 2147483423)), (.cst (.int 2147483399)), (.cst (.int 2147483353)), (.cst (.int 2147483323))])), .set 3 (.bin .Add (.bin .Add (.bin .Mult (.bin .Mod (.bi1 .int (.slot 0)) (.cst (.int 1000000007))) (.bin .Add (.bin .Mult (.cst (.int 2)) (.slot 1)) (.cst (.int 69069)))) (.bin .Mult (.slot 1) (.cst (.int 40503)))) (.cst (.int 977))), .set 4 (.bin .Mod (.bi1 .int (.bin .Pow (.slot 3) (.cst (.int 3)))) (.idx (.slot 2) (.bin .Mod (.bi1 .int (.slot 1)) (.cst (.int 13))))), .set 5 (.bin .Add (.bin .Mod (.bi1 .int (.slot 0)) (.cst (.int 65537))) (.cst (.int 5))), .set 6 (.bin .Mod (.bi1 .int (.bin .Pow (.bin .Add (.bin .Mult (.slot 4) (.bin .Add (.slot 1) (.cst (.int 3)))) (.slot 5)) (.cst (.int 5)))) (.idx (.slot 2) (.bin .Mod (.bi1 .int (.bin .Add (.slot 1) (.cst (.int 5)))) (.cst (.int 13))))), .set 7 (.bin .Mod (.bi1 .int (.bin .Pow (.bin .Add (.bin .Add (.slot 6) (.bin .Mod (.bi1 .int (.slot 4)) (.cst (.int 1009)))) (.slot 1)) (.cst (.int 3)))) (.idx (.slot 2) (.bin .Mod (.bi1 .int (.bin .Add (.slot 1) (.cst (.int 7)))) (.cst (.int 13))))), .ret (.bin .Add (.bin .Mult (.bin .Add (.bin .Mult (.slot 4) (.cst (.int 2147483647))) (.slot 6)) (.cst (.int 2147483647))) (.slot 7))]
theorem prims (i : Int) (h0 : 0 ≤ i) (h1 : i < 13) : ∃ z : Int, idxD (.list ([.int 2147483629, .int 2147483587, .int 2147483579, .int 2147483563, .int 2147483549, .int 2147483543, .int 2147483497] ++ [.int 2147483489, .int 2147483477, .int 2147483423, .int 2147483399, .int 2147483353, .int 2147483323])) (.int i) = some (.int z) ∧ 2147483323 ≤ z ∧ z ≤ 2147483629 := by
  refine rows_at (P := fun z => 2147483323 ≤ z ∧ z ≤ 2147483629) ?_ h0 h1
  intro d hd
  simp only [List.cons_append, List.nil_append, List.mem_cons, List.not_mem_nil, or_false] at hd
  rcases hd with rfl | rfl | rfl | rfl | rfl | rfl | rfl | rfl | rfl | rfl | rfl | rfl | rfl <;> exact ⟨_, rfl, by decide, by decide⟩
theorem spread_ok {tb : List FnD} {f : Nat} {nm : Str} (hf : tb[f]? = some ⟨nm, 2, 8, bSpread, none⟩) {n : Nat} {cell at_ : Int} {p : Option (List D)} (h0 : 0 ≤ at_) (h1 : at_ ≤ 1000000) {Q : R → Option (List D) → Prop} (k : ∀ z : Int, Q (.d (.int z)) p) : WC tb (n + 30) f [.d (.int cell), .d (.int at_)] p Q := by
  rw [wc_def hf rfl rfl]
  show WB tb (n + 29) bSpread { env := [some (.d (.int cell)), some (.d (.int at_)), none, none, none, none, none, none], pen := p } _
  unfold bSpread
  refine wb_cons.mpr ?_
  decreasing_tactic
  refine ite_d (fun c => ?_) (fun c => ?_)
  · decreasing_tactic
    exact k _
  · have m0 : 0 ≤ cell % 1000000007 := Int.emod_nonneg _ (by decide)
    have m1 : cell % 1000000007 < 1000000007 := Int.emod_lt_of_pos _ (by decide)
    have m2 : 0 ≤ cell % 1000000007 * (2 * at_ + 69069) := Int.mul_nonneg m0 (by omega)
    have m3 : cell % 1000000007 * (2 * at_ + 69069) ≤ 1000000007 * 2069069 := Int.mul_le_mul (by omega) (by omega) (by omega) (by omega)
    decreasing_tactic
    obtain ⟨z1, e1, l1, u1⟩ := prims (at_ % 13) (by omega) (by omega)
    decreasing_tactic
    refine so_rfl e1 ?_
    decreasing_tactic
    generalize cell % 1000000007 * (2 * at_ + 69069) + at_ * 40503 + 977 = M
    have a0 : 0 ≤ M ^ (3 : Int).toNat % z1 := Int.emod_nonneg _ (by omega)
    have a1 : M ^ (3 : Int).toNat % z1 < z1 := Int.emod_lt_of_pos _ (by omega)
    generalize M ^ (3 : Int).toNat % z1 = one at *
    have b0 : 0 ≤ one * (at_ + 3) := Int.mul_nonneg a0 (by omega)
    have b1 : one * (at_ + 3) ≤ 2147483629 * 1000003 := Int.mul_le_mul (by omega) (by omega) (by omega) (by omega)
    have c0 : 0 ≤ cell % 65537 := Int.emod_nonneg _ (by decide)
    have c1 : cell % 65537 < 65537 := Int.emod_lt_of_pos _ (by decide)
    decreasing_tactic
    obtain ⟨z2, e2, l2, u2⟩ := prims ((at_ + 5) % 13) (by omega) (by omega)
    refine so_rfl e2 ?_
    decreasing_tactic
    have d0 : 0 ≤ (one * (at_ + 3) + (cell % 65537 + 5)) ^ (5 : Int).toNat % z2 := Int.emod_nonneg _ (by omega)
    have d1 : (one * (at_ + 3) + (cell % 65537 + 5)) ^ (5 : Int).toNat % z2 < z2 := Int.emod_lt_of_pos _ (by omega)
    generalize (one * (at_ + 3) + (cell % 65537 + 5)) ^ (5 : Int).toNat % z2 = two at *
    decreasing_tactic
    obtain ⟨z3, e3, l3, u3⟩ := prims ((at_ + 7) % 13) (by omega) (by omega)
    refine so_rfl e3 ?_
    decreasing_tactic
    have f0 : 0 ≤ (two + one % 1009 + at_) ^ (3 : Int).toNat % z3 := Int.emod_nonneg _ (by omega)
    have f1 : (two + one % 1009 + at_) ^ (3 : Int).toNat % z3 < z3 := Int.emod_lt_of_pos _ (by omega)
    decreasing_tactic
    exact k _

def Pn (cs : List Int) (at_ cell : Int) : List D := [.list (cs.map .int), .int at_, .int cell]
def bTake (sp : Nat) : List IS := [.iff (.cmp .Lt (.idx (.slot 0) (.cst (.int 2))) (.slot 1)) [.set 3 (.idx (.slot 0) (.cst (.int 1))), .set 4 (.cst (.int 0)), .iff (.cmp .Lt (.slot 3) (.bi1 .len (.idx (.slot 0) (.cst (.int 0))))) [.set 4 (.idx (.idx (.slot 0) (.cst (.int 0))) (.slot 3))] [.iff (.cmp .Gt (.bi1 .len (.idx (.slot 0) (.cst (.int 0)))) (.cst (.int 0))) [.set 4 (.bin .Mod (.bi1 .int (.idx (.idx (.slot 0) (.cst (.int 0))) (.bin .Mod (.bi1 .int (.bin .Add (.bin .Mult (.slot 3) (.cst (.int 5))) (.cst (.int 3)))) (.bi1 .len (.idx (.slot 0) (.cst (.int 0))))))) (.bin .Add (.bin .Pow (.cst (.int 10)) (.cst (.int 17))) (.slot 3)))] []], .sto 0 (.cst (.int 1)) (.bin .Add (.slot 3) (.cst (.int 1))), .sto 0 (.cst (.int 2)) (.call sp [(.slot 4), (.slot 3)])] [], .set 2 (.bin .Mod (.bi1 .int (.idx (.slot 0) (.cst (.int 2)))) (.slot 1)), .sto 0 (.cst (.int 2)) (.bin .FloorDiv (.idx (.slot 0) (.cst (.int 2))) (.slot 1)), .ret (.slot 2)]
theorem cells_at {cs : List Int} {i : Int} (h0 : 0 ≤ i) (h1 : i < cs.length) : ∃ z : Int, idxD (.list (cs.map .int)) (.int i) = some (.int z) := by
  obtain ⟨z, h, _⟩ := rows_at (P := fun _ => True) (l := cs.map PyData.int) (i := i) (fun d hd => by
    obtain ⟨z, _, rfl⟩ := List.mem_map.mp hd
    exact ⟨z, rfl, trivial⟩) h0 (by rw [List.length_map]; exact h1)
  exact ⟨z, h⟩
theorem take_ok {tb : List FnD} {f sp : Nat} {nm nm2 : Str} (hf : tb[f]? = some ⟨nm, 2, 5, bTake sp, none⟩) (hs : tb[sp]? = some ⟨nm2, 2, 8, bSpread, none⟩) {n : Nat} {cs : List Int} {at_ cell many : Int} (h0 : 0 ≤ at_) (h1 : at_ ≤ 900000) (h2 : 1 ≤ many) (h3 : many < 2 ^ 60)
    {Q : R → Option (List D) → Prop} (k : ∀ z a c : Int, 0 ≤ z → z < many → at_ ≤ a → a ≤ at_ + 1 → Q (.d (.int z)) (some (Pn cs a c))) : WC tb (n + 50) f [.pen, .d (.int many)] (some (Pn cs at_ cell)) Q := by
  rw [wc_def hf rfl rfl]
  show WB tb (n + 49) (bTake sp) { env := [some .pen, some (.d (.int many)), none, none, none], pen := some (Pn cs at_ cell) } _
  unfold bTake
  refine wb_cut (fun g1 => ∃ (o2 o3 o4 : Option Sv) (a c : Int), at_ ≤ a ∧ a ≤ at_ + 1 ∧ g1 = { env := [some .pen, some (.d (.int many)), o2, o3, o4], pen := some (Pn cs a c) }) ?_ ?_
  · decreasing_tactic
    refine ite_d (fun _ => ?_) (fun _ => ?_)
    · decreasing_tactic
      refine wb_cut (fun g1 => ∃ (o3 : Int) (o2 : Option Sv), g1 = { env := [some .pen, some (.d (.int many)), o2, some (.d (.int at_)), some (.d (.int o3))], pen := some (Pn cs at_ cell) }) ?_ ?_
      · decreasing_tactic
        refine ite_d (fun q => ?_) (fun q => ?_)
        · decreasing_tactic
          obtain ⟨z, hz⟩ := cells_at (cs := cs) (i := at_) h0 (by simpa using q)
          refine so_rfl hz ?_
          decreasing_tactic
          exact ⟨_, _, rfl⟩
        · decreasing_tactic
          refine ite_d (fun q2 => ?_) (fun q2 => ?_)
          · decreasing_tactic
            have p17 : (0 : Int) < 10 ^ (17 : Int).toNat := by decide
            obtain ⟨z, hz⟩ := cells_at (cs := cs) (i := (at_ * 5 + 3) % ((cs.map PyData.int).length : Int)) (Int.emod_nonneg _ (by omega)) (by rw [List.length_map] at *; exact Int.emod_lt_of_pos _ q2)
            refine so_rfl hz ?_
            decreasing_tactic
            exact ⟨_, _, rfl⟩
          · decreasing_tactic
            exact ⟨_, _, rfl⟩
      · rintro _ ⟨o3, o2, rfl⟩
        decreasing_tactic
        refine spread_ok hs h0 (by omega) fun z => ?_
        decreasing_tactic
        exact ⟨_, _, _, at_ + 1, z, by omega, by omega, rfl⟩
    · decreasing_tactic
      exact ⟨_, _, _, at_, cell, by omega, by omega, rfl⟩
  · rintro _ ⟨o2, o3, o4, a, c, l, u, rfl⟩
    have f1 : many.natAbs.log2 < 9000 := Nat.lt_trans (log_int (k := 60) (by omega) h3 (by omega)) (by omega)
    have p1 : 0 < many := by omega
    decreasing_tactic
    exact k (c % many) a (c / many) (Int.emod_nonneg _ (by omega)) (Int.emod_lt_of_pos _ (by omega)) l u

def bAnew : List IS := [.sto 0 (.cst (.int 2)) (.cst (.int 0)), .ret (.slot 0)]
theorem anew_ok {tb : List FnD} {f : Nat} {nm : Str} (hf : tb[f]? = some ⟨nm, 1, 1, bAnew, none⟩) {n : Nat} {cs : List Int} {at_ cell : Int} {Q : R → Option (List D) → Prop} (k : Q .pen (some (Pn cs at_ 0))) : WC tb (n + 10) f [.pen] (some (Pn cs at_ cell)) Q := by
  rw [wc_def hf rfl rfl]
  show WB tb (n + 9) bAnew { env := [some .pen], pen := some (Pn cs at_ cell) } _
  unfold bAnew
  decreasing_tactic
  exact k
def bOne (tk : Nat) : List IS := [.ret (.idx (.slot 1) (.call tk [(.slot 0), (.bi1 .len (.slot 1))]))]
theorem one_ok {tb : List FnD} {f tk sp : Nat} {nm nm2 nm3 : Str} (hf : tb[f]? = some ⟨nm, 2, 2, bOne tk, none⟩) (ht : tb[tk]? = some ⟨nm3, 2, 5, bTake sp, none⟩) (hs : tb[sp]? = some ⟨nm2, 2, 8, bSpread, none⟩) {n : Nat} {cs : List Int} {at_ cell : Int} {xs : List D} (h0 : 0 ≤ at_) (h1 : at_ ≤ 900000) (h2 : 1 ≤ xs.length) (h3 : xs.length < 1000000)
    {Q : R → Option (List D) → Prop} (k : ∀ x ∈ xs, ∀ a c : Int, at_ ≤ a → a ≤ at_ + 1 → Q (.d x) (some (Pn cs a c))) : WC tb (n + 60) f [.pen, .d (.list xs)] (some (Pn cs at_ cell)) Q := by
  rw [wc_def hf rfl rfl]
  show WB tb (n + 59) (bOne tk) { env := [some .pen, some (.d (.list xs))], pen := some (Pn cs at_ cell) } _
  unfold bOne
  decreasing_tactic
  refine take_ok ht hs h0 h1 (by omega) (by omega) fun z a c hz hz2 l u => ?_
  decreasing_tactic
  obtain ⟨i, rfl⟩ := Int.eq_ofNat_of_zero_le hz
  have hi : i < xs.length := by omega
  refine so_rfl (a := xs[i]) (L2.atI_nat (List.getElem?_eq_getElem hi)) ?_
  decreasing_tactic
  exact k _ (List.getElem_mem hi) a c l u
def bWhole : List IS := [.ret (.bop true (.bi1 (.isin "int") (.slot 0)) (.notE (.bi1 (.isin "bool") (.slot 0))))]
def notDict : D → Prop
  | .dict _ => False
  | _ => True
def isI : D → Bool
  | .int _ => true
  | _ => false
theorem whole_ok {tb : List FnD} {f : Nat} {nm : Str} (hf : tb[f]? = some ⟨nm, 1, 1, bWhole, none⟩) {n : Nat} {x : D} {p : Option (List D)} (hx : notDict x) {Q : R → Option (List D) → Prop} (k : Q (.d (.bool (isI x))) p) : WC tb (n + 10) f [.d x] p Q := by
  rw [wc_def hf rfl rfl]
  show WB tb (n + 9) bWhole { env := [some (.d x)], pen := p } _
  unfold bWhole
  cases x with
  | dict _ => exact hx.elim
  | _ => 
    decreasing_tactic
    exact k
def bOpen : List IS := [.own 1 (.bi1 .list (.slc (.slot 0) none (some (.cst (.int 12))))), .for_ (.many [2, 3]) .enu [(.slc (.slot 0) (some (.cst (.int 12))) (some (.cst (.int 63))))] [.sto 1 (.bin .Mod (.bi1 .int (.slot 2)) (.cst (.int 12))) (.bin .Add (.idx (.slot 1) (.bin .Mod (.bi1 .int (.slot 2)) (.cst (.int 12)))) (.slot 3))], .ret (.lst [(.slot 1), (.cst (.int 0)), (.cst (.int 0))])]
theorem cut_ints (ns : List Int) (lo hi : Option Int) : ∃ ms : List Int, cutD (ns.map PyData.int) lo hi = ms.map .int ∧ (lo = none → hi = some 12 → ms = ns.take 12) ∧ (ns.length ≤ 12 → lo = some 12 → ms = []) := by
  unfold cutD
  refine ⟨(ns.drop (HT.sIx (ns.map PyData.int).length 0 lo)).take (HT.sIx (ns.map PyData.int).length (ns.map PyData.int).length hi - HT.sIx (ns.map PyData.int).length 0 lo), by rw [List.map_take, List.map_drop], fun e1 e2 => ?_, fun hl e1 => ?_⟩
  · subst e1
    subst e2
    have e : HT.sIx (ns.map PyData.int).length (ns.map PyData.int).length (some 12) = min 12 ns.length := by
      have := HT.sIx_nat (ns.map PyData.int).length (ns.map PyData.int).length 12
      rw [List.length_map] at *
      exact this
    rw [e, HT.sIx_none, List.drop_zero, Nat.sub_zero]
    by_cases h : ns.length ≤ 12
    · rw [Nat.min_eq_right h, List.take_length, List.take_of_length_le h]
    · rw [Nat.min_eq_left (by omega)]
  · subst e1
    have e : HT.sIx (ns.map PyData.int).length 0 (some 12) = min 12 ns.length := by
      have := HT.sIx_nat (ns.map PyData.int).length 0 12
      rw [List.length_map] at *
      exact this
    rw [e, Nat.min_eq_right hl, List.drop_length, List.take_nil]
theorem open_ok {tb : List FnD} {f : Nat} {nm : Str} (hf : tb[f]? = some ⟨nm, 1, 4, bOpen, none⟩) {n : Nat} {ns : List Int} {Q : R → Option (List D) → Prop} (k : ∀ cs : List Int, cs.length ≤ 12 → Q (.fr (Pn cs 0 0)) none) : WC tb (n + 60) f [.scr ns] none Q := by
  rw [wc_def hf rfl rfl]
  show WB tb (n + 59) bOpen { env := [some (.scr ns), none, none, none], pen := none } _
  unfold bOpen
  obtain ⟨c1, e1, f1, _⟩ := cut_ints ns none (some 12)
  obtain ⟨c2, e2, _, f2⟩ := cut_ints ns (some 12) (some 63)
  have h1 : c1 = ns.take 12 := f1 rfl rfl
  decreasing_tactic
  rw [e1]
  refine wb_cons.mpr ?_
  decreasing_tactic
  rw [e2]
  refine wfor_inv (fun rest g => ∃ (cs : List Int) (j : Nat) (more : List Int) (o2 o3 : Option Sv), cs.length ≤ 12 ∧ (rest ≠ [] → cs.length = 12) ∧ rest = (more.zipIdx j).map (fun p => PyData.tuple [.int (p.2 : Int), .int p.1]) ∧ g = { env := [some (.scr ns), some (.own (cs.map .int)), o2, o3], pen := none }) ?_ ?_ ⟨c1, 0, c2, _, _, ?_, ?_, ?_, rfl⟩
  · rintro d rest _ ⟨cs, j, more, o2, o3, hl, h12, er, rfl⟩
    have hc := h12 (by simp)
    cases more with
    | nil => cases er
    | cons m more =>
      rw [List.zipIdx_cons, List.map_cons] at er
      cases er
      refine so_rfl rfl ?_
      refine (wb_cons (s := IS.sto _ _ _)).mpr ?_
      refine sto_own ?_
      obtain ⟨z, hz⟩ := cells_at (cs := cs) (i := (j : Int) % 12) (Int.emod_nonneg _ (by decide)) (by rw [hc]; exact Int.emod_lt_of_pos _ (by decide))
      decreasing_tactic
      refine so_rfl hz ?_
      decreasing_tactic
      refine ⟨⟨_, rfl⟩, ?_⟩
      decreasing_tactic
      have hm : 0 ≤ (j : Int) % 12 ∧ (j : Int) % 12 < 12 := ⟨Int.emod_nonneg _ (by decide), Int.emod_lt_of_pos _ (by decide)⟩
      refine ⟨_, _, ((j : Int) % 12).toNat, rfl, rfl, ?_, ?_⟩
      · show ixN (cs.map PyData.int).length ((j : Int) % 12) = _
        unfold ixN
        rw [if_pos hm.1, List.length_map, hc, if_pos (by omega)]
      · decreasing_tactic
        refine ⟨cs.set ((j : Int) % 12).toNat (z + m), j + 1, more, some (.d (.int j)), some (.d (.int m)), by rw [List.length_set]; exact hl, fun _ => by rw [List.length_set]; exact hc, rfl, ?_⟩
        rw [List.map_set]
        rfl
  · rintro _ ⟨cs, j, more, o2, o3, hl, _, _, rfl⟩
    decreasing_tactic
    exact k cs hl
  · rw [h1, List.length_take]; omega
  · intro h
    rw [h1, List.length_take]
    by_cases q : ns.length ≤ 12
    · rw [f2 q rfl] at h
      exact absurd rfl h
    · omega
  · show List.map _ _ = _
    rw [List.zipIdx_map, List.map_map]
    rfl
end CL
end
section
set_option Elab.async false
set_option linter.all false
set_option maxRecDepth 100000
set_option autoImplicit false
set_option maxHeartbeats 4000000
open PySem PySem.Spec
/-! CM: data: right machines, small data. -/
namespace CL
open DL L2
theorem boolsD_map (f : D → Bool) : ∀ ds : List D, boolsD (ds.map fun d => .bool (f d)) = some (ds.map f)
  | [] => rfl
  | d :: r => by rw [List.map_cons, List.map_cons]; show (boolsD (r.map fun d => .bool (f d))).map (f d :: ·) = _; rw [boolsD_map f r]; rfl
/-- no dict in it -/
def nd (d : D) : Prop := d.hasDict = false
theorem nd_not {d : D} (h : nd d) : notDict d := by
  cases d with
  | dict _ => cases h
  | _ => trivial
theorem nd_all {ds : List D} (h : PyData.hasDictAll ds = false) : ∀ d ∈ ds, nd d := by
  induction ds with
  | nil => intro d hd; cases hd
  | cons x xs ih =>
    simp only [PyData.hasDictAll, Bool.or_eq_false_iff] at h
    intro d hd
    rcases List.mem_cons.mp hd with e | e
    · rw [e]; exact h.1
    · exact ih h.2 d e
theorem nd_tup {ds : List D} (h : nd (.tuple ds)) : ∀ d ∈ ds, nd d := nd_all (by simpa only [nd, PyData.hasDict] using h)

mutual
def wid : D → Prop
  | .tuple ds => ds.length < 1000 ∧ widAll ds
  | .list ds => ds.length < 1000 ∧ widAll ds
  | _ => True
def widAll : List D → Prop
  | [] => True
  | d :: ds => wid d ∧ widAll ds
end
theorem wid_all : ∀ {ds : List D}, widAll ds → ∀ d ∈ ds, wid d
  | _ :: _, h, d, hd => by
    simp only [widAll] at h
    rcases List.mem_cons.mp hd with e | e
    · rw [e]; exact h.1
    · exact wid_all h.2 d e
def letB : D → Bool
  | .int i => decide (1 ≤ i) && decide (i ≤ 3)
  | _ => false
def stdL (many : Int) : Int → List D → Bool
  | _, [] => true
  | last, .int i :: r => decide (last < i) && decide (i < many) && stdL many i r
  | _, _ :: _ => false
def stdB (x : D) (many : Int) : Bool := match x with
  | .tuple ds => stdL many (-1) ds
  | _ => false
def rowL (many : Int) : List D → Bool
  | [] => true
  | .int i :: r => decide (0 ≤ i) && decide (i < many) && rowL many r
  | _ :: _ => false
def rowB (x : D) (letters many : Int) : Bool := match x with
  | .tuple ds => decide ((ds.length : Int) = letters) && rowL many ds
  | _ => false
def entB (many : Int) : D → Bool
  | .int i => decide (0 ≤ i) && decide (i < many)
  | _ => false
theorem rowL_all (many : Int) : ∀ ds : List D, rowL many ds = (ds.map (entB many)).all id
  | [] => rfl
  | .int i :: r => by rw [List.map_cons, List.all_cons, ← rowL_all many r]; rfl
  | .none :: _ => rfl
  | .bool _ :: _ => rfl
  | .str _ :: _ => rfl
  | .list _ :: _ => rfl
  | .tuple _ :: _ => rfl
  | .dict _ :: _ => rfl
def movB (x : D) (letters : Int) : Bool := match x with
  | .tuple ds => decide (1 ≤ ds.length) && decide (ds.length ≤ 32) && ds.all fun d => rowB d letters ds.length
  | _ => false
def movL : D → D → Bool
  | .int k, m => movB m k
  | _, _ => false
def endB (e : D) : D → Bool
  | .tuple ms => stdB e ms.length
  | _ => false
def machB : D → Bool
  | .tuple [l, m, e] => letB l && movL l m && endB e m
  | _ => false
theorem len3 {α : Type} {xs : List α} (h : xs.length = 3) : ∃ a b c, xs = [a, b, c] := by
  match xs, h with
  | [a, b, c], _ => exact ⟨a, b, c, rfl⟩
theorem machB_len {ds : List D} (h : ds.length ≠ 3) : machB (.tuple ds) = false := by
  unfold machB
  split
  · rename_i e
    cases e
    exact absurd rfl h
  · rfl
theorem ints_lay : ∀ ns : List Int, PyData.canLayAll0 (ns.map .int) = true ∧ PyData.depthAll (ns.map .int) = 0
  | [] => ⟨rfl, rfl⟩
  | n :: ns => by
    obtain ⟨h1, h2⟩ := ints_lay ns
    simp only [List.map_cons, PyData.canLayAll0, PyData.canLay0, h1, PyData.depthAll, PyData.depth, h2, Bool.true_and, Nat.max_self, and_self]
theorem ints_shaped (ns : List Int) : SeqAt.shaped (.list (ns.map .int)) = true := by
  obtain ⟨h1, h2⟩ := ints_lay ns
  unfold SeqAt.shaped
  simp only [PyData.canLay0, h1, PyData.depth, h2, Bool.true_and]
  decide
/-! ### data: how many parts, how deep, how small -/
mutual
def wt : D → Nat
  | .list xs => wts xs + 1
  | .tuple xs => wts xs + 1
  | .none => 1
  | .bool _ => 1
  | .int _ => 1
  | .str _ => 1
  | .dict _ => 1
def wts : List D → Nat
  | [] => 0
  | x :: xs => wt x + wts xs
end
mutual
def okD (b : Nat) : D → Prop
  | .int i => i.natAbs ≤ b
  | .str s => (reprText s).length ≤ 20
  | .list xs => okDs b xs
  | .tuple xs => okDs b xs
  | .dict _ => False
  | .none => True
  | .bool _ => True
def okDs (b : Nat) : List D → Prop
  | [] => True
  | x :: xs => okD b x ∧ okDs b xs
end
theorem wt_pos : ∀ d : D, 1 ≤ wt d
  | .list _ => by simp only [wt]; omega
  | .tuple _ => by simp only [wt]; omega
  | .none => by simp only [wt]; omega
  | .bool _ => by simp only [wt]; omega
  | .int _ => by simp only [wt]; omega
  | .str _ => by simp only [wt]; omega
  | .dict _ => by simp only [wt]; omega
theorem wts_app : ∀ xs ys : List D, wts (xs ++ ys) = wts xs + wts ys
  | [], ys => by simp only [List.nil_append, wts]; omega
  | x :: xs, ys => by simp only [List.cons_append, wts, wts_app xs ys]; omega
theorem wts_rev : ∀ xs : List D, wts xs.reverse = wts xs
  | [] => rfl
  | x :: xs => by rw [List.reverse_cons, wts_app, wts_rev xs]; simp only [wts]; omega
theorem wts_len : ∀ xs : List D, xs.length ≤ wts xs
  | [] => Nat.zero_le _
  | x :: xs => by
    have := wt_pos x
    have := wts_len xs
    simp only [List.length_cons, wts]
    omega
theorem okDs_iff {b : Nat} : ∀ {xs : List D}, okDs b xs ↔ ∀ x ∈ xs, okD b x
  | [] => by simp only [okDs, List.not_mem_nil, false_implies, implies_true]
  | x :: xs => by simp only [okDs, okDs_iff (xs := xs), List.forall_mem_cons]
theorem dep_iff {k : Nat} : ∀ {xs : List D}, PyData.depthAll xs ≤ k ↔ ∀ x ∈ xs, x.depth ≤ k
  | [] => by simp only [PyData.depthAll, Nat.zero_le, List.not_mem_nil, false_implies, implies_true]
  | x :: xs => by simp only [PyData.depthAll, Nat.max_le, dep_iff (xs := xs), List.forall_mem_cons]
mutual
theorem okD_mono {b c : Nat} (h : b ≤ c) : ∀ {d : D}, okD b d → okD c d
  | .int _, q => by simp only [okD] at q ⊢; omega
  | .str _, q => by simpa only [okD] using q
  | .list _, q => by simp only [okD] at q ⊢; exact okDs_mono h q
  | .tuple _, q => by simp only [okD] at q ⊢; exact okDs_mono h q
  | .dict _, q => by simp only [okD] at q
  | .none, q => by simp only [okD]
  | .bool _, q => by simp only [okD]
theorem okDs_mono {b c : Nat} (h : b ≤ c) : ∀ {d : List D}, okDs b d → okDs c d
  | [], _ => by simp only [okDs]
  | _ :: _, q => by simp only [okDs] at q ⊢; exact ⟨okD_mono h q.1, okDs_mono h q.2⟩
end
mutual
theorem nd_of {b : Nat} : ∀ {d : D}, okD b d → d.hasDict = false
  | .int _, _ => rfl
  | .str _, _ => rfl
  | .list _, q => by simp only [okD] at q; simp only [PyData.hasDict]; exact nds_of q
  | .tuple _, q => by simp only [okD] at q; simp only [PyData.hasDict]; exact nds_of q
  | .dict _, q => by simp only [okD] at q
  | .none, _ => rfl
  | .bool _, _ => rfl
theorem nds_of {b : Nat} : ∀ {d : List D}, okDs b d → PyData.hasDictAll d = false
  | [], _ => rfl
  | _ :: _, q => by simp only [okDs] at q; simp only [PyData.hasDictAll, nd_of q.1, nds_of q.2, Bool.or_self]
end
mutual
theorem wid_of : ∀ {d : D}, wt d ≤ 1000 → wid d
  | .list xs, h => by
    simp only [wt] at h
    simp only [wid]
    have := wts_len xs
    exact ⟨by omega, wids_of (by omega)⟩
  | .tuple xs, h => by
    simp only [wt] at h
    simp only [wid]
    have := wts_len xs
    exact ⟨by omega, wids_of (by omega)⟩
  | .int _, _ => by simp only [wid]
  | .str _, _ => by simp only [wid]
  | .dict _, _ => by simp only [wid]
  | .none, _ => by simp only [wid]
  | .bool _, _ => by simp only [wid]
theorem wids_of : ∀ {ds : List D}, wts ds ≤ 1000 → widAll ds
  | [], _ => by simp only [widAll]
  | x :: xs, h => by
    simp only [wts] at h
    simp only [widAll]
    exact ⟨wid_of (by omega), wids_of (by omega)⟩
end
theorem log_of {i : Int} (h : i.natAbs ≤ 2 ^ 90) : i.natAbs.log2 < 91 := log_lt (Nat.lt_of_le_of_lt h (by decide)) (by decide)
mutual
theorem show_of {b : Nat} (hb : b ≤ 2 ^ 90) : ∀ {d : D}, okD b d → d.showable = true
  | .int _, q => by
    simp only [okD] at q
    simp only [PyData.showable]
    exact decide_eq_true (Nat.lt_trans (log_of (Nat.le_trans q hb)) (by decide))
  | .str _, _ => rfl
  | .list _, q => by simp only [okD] at q; simp only [PyData.showable]; exact shows_of hb q
  | .tuple _, q => by simp only [okD] at q; simp only [PyData.showable]; exact shows_of hb q
  | .dict _, q => by simp only [okD] at q
  | .none, _ => rfl
  | .bool _, _ => rfl
theorem shows_of {b : Nat} (hb : b ≤ 2 ^ 90) : ∀ {d : List D}, okDs b d → PyData.showableAll d = true
  | [], _ => rfl
  | _ :: _, q => by simp only [okDs] at q; simp only [PyData.showableAll, show_of hb q.1, shows_of hb q.2, Bool.and_self]
end
theorem list_text (ts : List Str) : (listText ts).length ≤ piled ts + 2 := by
  cases ts with
  | nil => decide
  | cons t r =>
    have w1 := textFrom_length_pos r 1 (("[" : Str) ++ (if 0 > 0 then ", " else "" : String) ++ t) Nat.one_pos
    have w2 : ((("[" : Str) ++ (if 0 > 0 then ", " else "" : String) ++ t)).length = 1 + t.length := by rw [strLen_append, strLen_append]; rfl
    have w3 : (listText (t :: r)).length = (textFrom 1 (("[" : Str) ++ (if 0 > 0 then ", " else "" : String) ++ t) r).length + 1 := by
      have : listText (t :: r) = textFrom 1 (("[" : Str) ++ (if 0 > 0 then ", " else "" : String) ++ t) r ++ "]" := rfl
      rw [this, strLen_append]
      rfl
    rw [w3, w1, w2, piled_cons]
    omega
theorem tuple_text (ts : List Str) : (tupleText ts).length ≤ piled ts + 3 := by
  unfold tupleText
  rw [strLen_append, strLen_append]
  have e1 : ((("(" : String) : Str)).length = 1 := rfl
  have e3 : (((if ts.length == 1 then ",)" else ")" : String) : Str)).length ≤ 2 := by split <;> decide
  rw [e1]
  by_cases h : ts = []
  · subst h
    have : (Str.join ", " []).length = 0 := rfl
    rw [this]
    omega
  · have := join_length_add ts h
    omega
mutual
theorem text_of {b : Nat} (hb : b ≤ 2 ^ 90) : ∀ {d : D}, okD b d → d.shown.length + 2 ≤ 100 * wt d
  | .int i, q => by
    simp only [okD] at q
    have e := int_text_length_le (k := 91) (by decide) (log_of (Nat.le_trans q hb))
    have e2 : (PyData.shown (.int i)).length = (toString i).length := by
      show (Str.ofString (toString i)).length = _
      rw [ofString_length]
    rw [e2]
    simp only [wt]
    omega
  | .str s, q => by
    simp only [okD] at q
    have e2 : (PyData.shown (.str s)).length = (reprText s).length := rfl
    rw [e2]
    simp only [wt]
    omega
  | .list xs, q => by
    simp only [okD] at q
    have h := texts_of hb q
    have h2 := list_text (PyData.shownAll xs)
    have e2 : (PyData.shown (.list xs)).length = (listText (PyData.shownAll xs)).length := by simp only [PyData.shown]
    rw [e2]
    simp only [wt]
    omega
  | .tuple xs, q => by
    simp only [okD] at q
    have h := texts_of hb q
    have h2 := tuple_text (PyData.shownAll xs)
    have e2 : (PyData.shown (.tuple xs)).length = (tupleText (PyData.shownAll xs)).length := by simp only [PyData.shown]
    rw [e2]
    simp only [wt]
    omega
  | .dict _, q => by simp only [okD] at q
  | .none, _ => by decide
  | .bool true, _ => by decide
  | .bool false, _ => by decide
theorem texts_of {b : Nat} (hb : b ≤ 2 ^ 90) : ∀ {d : List D}, okDs b d → piled (PyData.shownAll d) ≤ 100 * wts d
  | [], _ => by decide
  | x :: xs, q => by
    simp only [okDs] at q
    have h1 := text_of hb q.1
    have h2 := texts_of hb q.2
    simp only [PyData.shownAll, piled_cons, wts]
    omega
end
/-- what the program and the law look at -/
structure Gd (d : D) : Prop where
  ok : okD (2 ^ 90) d
  w : wt d ≤ 1000
  dp : d.depth ≤ 60
theorem Gd.nd {d : D} (h : Gd d) : nd d := nd_of h.ok
theorem Gd.wid {d : D} (h : Gd d) : wid d := wid_of h.w
theorem Gd.repr {d : D} (h : Gd d) : bi1D .repr d = some (.d (.str d.shown)) := by
  have h4 := text_of (Nat.le_refl _) h.ok
  have h5 := h.w
  show (if d.showable = true ∧ d.hasDict = false ∧ d.depth ≤ 60 ∧ d.shown.length ≤ szL then some (R.d (.str d.shown)) else none) = _
  rw [if_pos ⟨show_of (Nat.le_refl _) h.ok, nd_of h.ok, h.dp, by unfold szL; omega⟩]
theorem reprB (b : Bool) : bi1D .repr (.bool b) = some (.d (.str (PyData.shown (.bool b)))) :=
  Gd.repr ⟨by simp only [okD], by simp only [wt]; omega, by simp only [PyData.depth]; omega⟩
def RowI (letters many : Int) (r : D) : Prop := ∃ ns : List Int, r = .tuple (ns.map .int) ∧ (ns.length : Int) = letters ∧ ∀ i ∈ ns, 0 ≤ i ∧ i < many
theorem eq_nil (ns : List Int) : eqD (.list (ns.map .int)) (.list []) = some ns.isEmpty := by
  have h : SeqAt.shaped (.list (ns.map .int)) = true ∧ SeqAt.shaped (.list []) = true := ⟨ints_shaped _, by decide⟩
  show (if SeqAt.shaped (.list (ns.map .int)) = true ∧ SeqAt.shaped (.list []) = true then some (PyData.eqv (.list (ns.map .int)) (.list [])) else none) = _
  rw [if_pos h]
  cases ns <;> rfl
theorem rng_ints {m : Int} (h0 : 0 ≤ m) (h1 : m ≤ 1000) : ∃ ns : List Int, ((List.range m.toNat).map fun (i : Nat) => PyData.int (0 + (i : Int))) = ns.map .int ∧ (ns.length : Int) = m ∧ (∀ i ∈ ns, 0 ≤ i ∧ i < m) ∧ ns.Pairwise (· < ·) := by
  refine ⟨(List.range m.toNat).map fun (i : Nat) => 0 + (i : Int), ?_, ?_, ?_, ?_⟩
  · rw [List.map_map]
    rfl
  · rw [List.length_map, List.length_range]
    omega
  · intro i hi
    obtain ⟨j, hj, rfl⟩ := List.mem_map.mp hi
    have := List.mem_range.mp hj
    omega
  · refine List.pairwise_map.mpr ?_
    exact List.Pairwise.imp (fun {a b} h => by omega) List.pairwise_lt_range
/-- a right machine, told by its parts -/
def machD (l : Int) (nss : List (List Int)) (ends : List Int) : D := .tuple [.int l, .tuple (nss.map fun ns => .tuple (ns.map .int)), .tuple (ends.map .int)]
structure Mok (l many : Int) (nss : List (List Int)) (ends : List Int) : Prop where
  l0 : 1 ≤ l
  l1 : l ≤ 3
  m0 : 1 ≤ many
  m1 : many ≤ 32
  len : (nss.length : Int) = many
  row : ∀ ns ∈ nss, (ns.length : Int) = l ∧ ∀ i ∈ ns, 0 ≤ i ∧ i < many
  en : ∀ i ∈ ends, 0 ≤ i ∧ i < many
  asc : ends.Pairwise (· < ·)
  el : ends.length ≤ 40
theorem rows_nss {l many : Int} : ∀ {rows : List D}, (∀ r ∈ rows, RowI l many r) → ∃ nss : List (List Int), rows = nss.map (fun ns => .tuple (ns.map .int)) ∧ ∀ ns ∈ nss, (ns.length : Int) = l ∧ ∀ i ∈ ns, 0 ≤ i ∧ i < many
  | [], _ => ⟨[], rfl, fun ns h => nomatch h⟩
  | r :: rs, h => by
    obtain ⟨ns, e, h1, h2⟩ := h r List.mem_cons_self
    obtain ⟨nss, e2, h3⟩ := rows_nss fun x hx => h x (List.mem_cons_of_mem _ hx)
    refine ⟨ns :: nss, by rw [e, e2]; rfl, fun x hx => ?_⟩
    rcases List.mem_cons.mp hx with rfl | hx
    · exact ⟨h1, h2⟩
    · exact h3 x hx
theorem stdL_of {many : Int} : ∀ {es : List Int} {last : Int}, (∀ i ∈ es, last < i) → (∀ i ∈ es, i < many) → es.Pairwise (· < ·) → stdL many last (es.map .int) = true
  | [], _, _, _, _ => rfl
  | e :: es, last, h1, h2, h3 => by
    obtain ⟨h4, h5⟩ := List.pairwise_cons.mp h3
    simp only [List.map_cons, stdL, decide_eq_true (h1 e List.mem_cons_self), decide_eq_true (h2 e List.mem_cons_self), Bool.true_and]
    exact stdL_of h4 (fun i h => h2 i (List.mem_cons_of_mem _ h)) h5
theorem rowL_of {many : Int} : ∀ {es : List Int}, (∀ i ∈ es, 0 ≤ i ∧ i < many) → rowL many (es.map .int) = true
  | [], _ => rfl
  | e :: es, h => by
    simp only [List.map_cons, rowL, decide_eq_true (h e List.mem_cons_self).1, decide_eq_true (h e List.mem_cons_self).2, Bool.true_and]
    exact rowL_of fun i q => h i (List.mem_cons_of_mem _ q)
theorem Mok.mach {l many : Int} {nss : List (List Int)} {ends : List Int} (h : Mok l many nss ends) : machB (machD l nss ends) = true := by
  have e0 : (nss.map fun ns : List Int => PyData.tuple (ns.map .int)).length = nss.length := List.length_map ..
  have a1 : letB (.int l) = true := by simp only [letB, decide_eq_true h.l0, decide_eq_true h.l1, Bool.true_and]
  have a2 : movB (.tuple (nss.map fun ns : List Int => PyData.tuple (ns.map .int))) l = true := by
    have hl := h.len
    have m0 := h.m0
    have m1 := h.m1
    simp only [movB, e0, decide_eq_true (show 1 ≤ nss.length by omega), decide_eq_true (show nss.length ≤ 32 by omega), Bool.true_and, List.all_map]
    refine List.all_eq_true.mpr fun ns hns => ?_
    obtain ⟨q1, q2⟩ := h.row ns hns
    show rowB (.tuple (ns.map .int)) l nss.length = true
    simp only [rowB, List.length_map, decide_eq_true q1, Bool.true_and]
    exact rowL_of fun i hi => by have := q2 i hi; omega
  have a3 : stdB (.tuple (ends.map .int)) (nss.length : Int) = true := by
    rw [h.len]
    exact stdL_of (fun i hi => by have := h.en i hi; omega) (fun i hi => (h.en i hi).2) h.asc
  simp only [machD, machB, movL, endB, a1, a2, e0, a3, Bool.and_self]
theorem wts_ints : ∀ ns : List Int, wts (ns.map .int) = ns.length
  | [] => rfl
  | n :: ns => by simp only [List.map_cons, wts, wt, wts_ints ns, List.length_cons]; omega
theorem ok_ints {b : Nat} : ∀ {ns : List Int}, (∀ i ∈ ns, i.natAbs ≤ b) → okDs b (ns.map .int)
  | [], _ => by simp only [List.map_nil, okDs]
  | n :: ns, h => by simp only [List.map_cons, okDs, okD]; exact ⟨h n List.mem_cons_self, ok_ints fun i q => h i (List.mem_cons_of_mem _ q)⟩
theorem rows_gd {l many : Int} (hl : l ≤ 3) (hm : many ≤ 32) : ∀ {nss : List (List Int)}, (∀ ns ∈ nss, (ns.length : Int) = l ∧ ∀ i ∈ ns, 0 ≤ i ∧ i < many) →
    okDs (2 ^ 90) (nss.map fun ns => .tuple (ns.map .int)) ∧ wts (nss.map fun ns => .tuple (ns.map .int)) ≤ 4 * nss.length ∧ PyData.depthAll (nss.map fun ns => .tuple (ns.map .int)) ≤ 1
  | [], _ => ⟨by simp only [List.map_nil, okDs], by decide, by decide⟩
  | ns :: nss, h => by
    obtain ⟨h1, h2, h3⟩ := rows_gd hl hm fun x hx => h x (List.mem_cons_of_mem _ hx)
    obtain ⟨q1, q2⟩ := h ns List.mem_cons_self
    refine ⟨?_, ?_, ?_⟩
    · simp only [List.map_cons, okDs, okD]
      exact ⟨ok_ints fun i hi => by have := q2 i hi; omega, h1⟩
    · simp only [List.map_cons, wts, wt, wts_ints, List.length_cons]
      omega
    · simp only [List.map_cons, PyData.depthAll, PyData.depth, (ints_lay ns).2]
      omega
theorem Mok.gd {l many : Int} {nss : List (List Int)} {ends : List Int} (h : Mok l many nss ends) : Gd (machD l nss ends) := by
  obtain ⟨h1, h2, h3⟩ := rows_gd h.l1 h.m1 h.row
  have hl := h.len
  have hm := h.m1
  have l0 := h.l0
  have l1 := h.l1
  have el := h.el
  refine ⟨?_, ?_, ?_⟩
  · simp only [machD, okD, okDs]
    exact ⟨by omega, h1, ok_ints fun i hi => by have := h.en i hi; omega, trivial⟩
  · simp only [machD, wt, wts, wts_ints]
    omega
  · simp only [machD, PyData.depth, PyData.depthAll, (ints_lay ends).2]
    omega
theorem int_gd {i : Int} (h : i.natAbs ≤ 2 ^ 90) : Gd (.int i) := ⟨by simp only [okD]; exact h, by simp only [wt]; omega, by simp only [PyData.depth]; omega⟩
theorem bool_gd (b : Bool) : Gd (.bool b) := ⟨by simp only [okD], by simp only [wt]; omega, by simp only [PyData.depth]; omega⟩
end CL
end
section
set_option Elab.async false
set_option linter.all false
set_option maxRecDepth 100000
set_option autoImplicit false
set_option maxHeartbeats 4000000
open PySem PySem.Spec
/-! CW: words of a machine, and where they lead. -/
namespace CL
open DL L2
/-- the letters of a machine -/
def lets (l : Int) : Str := cutS "abc" none (some l)
theorem lets_eq {l : Int} (h0 : 1 ≤ l) (h1 : l ≤ 3) : (lets l).cps.toList = [97, 98, 99].take l.toNat := by
  have : l = 1 ∨ l = 2 ∨ l = 3 := by omega
  rcases this with rfl | rfl | rfl <;> decide +kernel
def WordB (l : Int) (z : Str) : Bool := z.cps.toList.all fun c => decide (c ∈ (lets l).cps.toList)
theorem word_mem {l : Int} (h0 : 1 ≤ l) (h1 : l ≤ 3) {c : Nat} (h : c ∈ (lets l).cps.toList) : 97 ≤ c ∧ (c : Int) < 97 + l ∧ Txt.index0 "abc" ⟨#[c]⟩ = some (c - 97) := by
  rw [lets_eq h0 h1] at h
  have : l = 1 ∨ l = 2 ∨ l = 3 := by omega
  rcases this with rfl | rfl | rfl
  · have h' : c ∈ [97] := h
    simp only [List.mem_cons, List.not_mem_nil, or_false] at h'
    subst h'
    exact ⟨by omega, by omega, by decide +kernel⟩
  · have h' : c ∈ [97, 98] := h
    simp only [List.mem_cons, List.not_mem_nil, or_false] at h'
    rcases h' with rfl | rfl <;> exact ⟨by omega, by omega, by decide +kernel⟩
  · have h' : c ∈ [97, 98, 99] := h
    simp only [List.mem_cons, List.not_mem_nil, or_false] at h'
    rcases h' with rfl | rfl | rfl <;> exact ⟨by omega, by omega, by decide +kernel⟩
/-- one letter on -/
def stp (nss : List (List Int)) (s : Int) (c : Nat) : Int := (nss.getD s.toNat []).getD (c - 97) 0
def lead (nss : List (List Int)) (s : Int) (w : List Nat) : Int := w.foldl (stp nss) s
theorem row_at {l many : Int} {nss : List (List Int)} {ends : List Int} (M : Mok l many nss ends) {s : Int} (h0 : 0 ≤ s) (h1 : s < many) : nss[s.toNat]? = some (nss.getD s.toNat []) ∧ nss.getD s.toNat [] ∈ nss := by
  have hl := M.len
  have : s.toNat < nss.length := by omega
  refine ⟨?_, ?_⟩
  · rw [List.getD_eq_getElem?_getD, List.getElem?_eq_getElem this]; rfl
  · rw [List.getD_eq_getElem?_getD, List.getElem?_eq_getElem this]
    exact List.getElem_mem this
theorem stp_at {l many : Int} {nss : List (List Int)} {ends : List Int} (M : Mok l many nss ends) {s : Int} (h0 : 0 ≤ s) (h1 : s < many) {c : Nat} (hc : c ∈ (lets l).cps.toList) :
    (nss.getD s.toNat [])[c - 97]? = some (stp nss s c) ∧ 0 ≤ stp nss s c ∧ stp nss s c < many := by
  obtain ⟨e1, e2⟩ := row_at M h0 h1
  obtain ⟨r1, r2⟩ := M.row _ e2
  obtain ⟨c1, c2, _⟩ := word_mem M.l0 M.l1 hc
  have hl : c - 97 < (nss.getD s.toNat []).length := by omega
  have e : (nss.getD s.toNat [])[c - 97]? = some (stp nss s c) := by
    unfold stp
    rw [List.getD_eq_getElem?_getD (l := nss.getD s.toNat []), List.getElem?_eq_getElem hl]
    rfl
  exact ⟨e, r2 _ (List.mem_of_getElem? e)⟩
/-- moves[s] as data -/
theorem moves_at {l many : Int} {nss : List (List Int)} {ends : List Int} (M : Mok l many nss ends) {s : Int} (h0 : 0 ≤ s) (h1 : s < many) : idxD (.tuple (nss.map fun ns => .tuple (ns.map .int))) (.int s) = some (.tuple ((nss.getD s.toNat []).map .int)) := by
  obtain ⟨e1, _⟩ := row_at M h0 h1
  show atI _ s = _
  obtain ⟨i, rfl⟩ := Int.eq_ofNat_of_zero_le h0
  have e2 : ((i : Int)).toNat = i := Int.toNat_natCast i
  rw [e2] at e1 ⊢
  exact L2.atI_nat (by rw [List.getElem?_map, e1]; rfl)
theorem letter_at {l many : Int} {nss : List (List Int)} {ends : List Int} (M : Mok l many nss ends) {s : Int} (h0 : 0 ≤ s) (h1 : s < many) {c : Nat} (hc : c ∈ (lets l).cps.toList) :
    idxD (.tuple ((nss.getD s.toNat []).map .int)) (.int ((c - 97 : Nat) : Int)) = some (.int (stp nss s c)) := by
  obtain ⟨e, _⟩ := stp_at M h0 h1 hc
  exact L2.atI_nat (by rw [List.getElem?_map, e]; rfl)
theorem in_ints (s : Int) (ns : List Int) : inD (.int s) (.tuple (ns.map .int)) = some ((ns.map PyData.int).any fun z => PyData.eqv z (.int s)) := by
  have : (ns.map PyData.int).all flatD = true := List.all_eq_true.mpr fun d hd => by
    obtain ⟨z, _, rfl⟩ := List.mem_map.mp hd
    rfl
  show (if flatD (.int s) && (ns.map PyData.int).all flatD then some _ else none) = _
  rw [this]
  rfl
/-- signs that a text may have -/
def Asc (z : Str) : Prop := ∀ c ∈ z.cps.toList, c < 128
theorem lets_asc {l : Int} (h0 : 1 ≤ l) (h1 : l ≤ 3) {c : Nat} (h : c ∈ (lets l).cps.toList) : c < 128 := by
  obtain ⟨a, b, _⟩ := word_mem h0 h1 h
  omega
theorem signs_lay : ∀ {cs : List Nat}, (∀ c ∈ cs, c < 128) → PyData.canLayAll0 (cs.map fun c => PyData.str ⟨#[c]⟩) = true ∧ PyData.depthAll (cs.map fun c => PyData.str ⟨#[c]⟩) = 0
  | [], _ => ⟨rfl, rfl⟩
  | c :: cs, h => by
    obtain ⟨h1, h2⟩ := signs_lay fun x hx => h x (List.mem_cons_of_mem _ hx)
    have hc : PyData.strOk ⟨#[c]⟩ = true := by
      have := h c List.mem_cons_self
      show (#[c].all (· < 0x110000)) = true
      simp
      omega
    simp only [List.map_cons, PyData.canLayAll0, PyData.canLay0, h1, PyData.depthAll, PyData.depth, h2, hc, Bool.and_self, Nat.max_self, and_self]
theorem eq_signs {cs : List Nat} (h : ∀ c ∈ cs, c < 128) : eqD (.list (cs.map fun c => PyData.str ⟨#[c]⟩)) (.list []) = some cs.isEmpty := by
  obtain ⟨h1, h2⟩ := signs_lay h
  have hs : SeqAt.shaped (.list (cs.map fun c => PyData.str ⟨#[c]⟩)) = true ∧ SeqAt.shaped (.list []) = true := by
    refine ⟨?_, by decide⟩
    unfold SeqAt.shaped
    simp only [PyData.canLay0, h1, PyData.depth, h2, Bool.true_and]
    decide
  show (if SeqAt.shaped (.list (cs.map fun c => PyData.str ⟨#[c]⟩)) = true ∧ SeqAt.shaped (.list []) = true then some (PyData.eqv (.list (cs.map fun c => PyData.str ⟨#[c]⟩)) (.list [])) else none) = _
  rw [if_pos hs]
  cases cs <;> rfl
theorem app_toList (a b : Str) : (a ++ b).cps.toList = a.cps.toList ++ b.cps.toList := by
  show (a.cps ++ b.cps).toList = _
  exact Array.toList_append
theorem sjoin_mem : ∀ {ys : List Str} {c : Nat}, c ∈ (Str.join "" ys).cps.toList → ∃ y ∈ ys, c ∈ y.cps.toList
  | [], c, h => by cases h
  | [x], c, h => ⟨x, List.mem_cons_self, h⟩
  | x :: y :: r, c, h => by
    have h' : c ∈ (x ++ ("" : Str) ++ Str.join "" (y :: r)).cps.toList := h
    rw [app_toList, app_toList] at h'
    rcases List.mem_append.mp h' with q | q
    · rcases List.mem_append.mp q with q | q
      · exact ⟨x, List.mem_cons_self, q⟩
      · cases q
    · obtain ⟨z, hz, hc⟩ := sjoin_mem q
      exact ⟨z, List.mem_cons_of_mem _ hz, hc⟩
theorem join_eq (ys : List Str) : Txt.join "" ys = Str.join "" ys := StrLaws.glued_eq_join _ _
end CL
end
section
set_option Elab.async false
set_option linter.all false
set_option maxRecDepth 100000
set_option autoImplicit false
set_option maxHeartbeats 4000000
open PySem PySem.Spec
/-! CX: more of what every law uses. -/
namespace CL
open DL L2
def Rng1 (x : D) (Q : List D → Prop) : Prop := ∃ j : Int, x = .int j ∧ -(2 ^ 62) ≤ j ∧ j < 2 ^ 62 ∧ Q ((List.range j.toNat).map fun (i : Nat) => PyData.int (0 + (i : Int)))
theorem rng1_mk {j : Int} {Q : List D → Prop} (m : Nat) (e : j = (m : Int)) (h : m ≤ 1000000) (q : Q ((List.range m).map fun (i : Nat) => PyData.int (0 + (i : Int)))) : Rng1 (.int j) Q := by
  subst e
  exact ⟨_, rfl, by omega, by omega, by rw [Int.toNat_natCast]; exact q⟩
theorem wits_rng1 {tb : List FnD} {n : Nat} {e : IE} {g : G} {Q : List D → G → Prop} (h : WKp tb n e g fun x g1 => Rng1 x fun ds => Q ds g1) : WIts tb n .rng [e] g Q := by
  rw [wits_rng, wds_cons]
  refine wo_imp h fun r g1 q => wo_imp q fun x g2 ⟨j, e1, h1, h2, q⟩ => ?_
  subst e1
  refine wds_nil.mpr ⟨_, ?_, q⟩
  show (if -(2 ^ 62) ≤ j ∧ j < 2 ^ 62 then _ else _) = _
  exact if_pos ⟨h1, h2⟩
theorem wfor_range {tb : List FnD} {n : Nat} {tg : Tg} {body : List IS} {Q : Fl → G → Prop} (m : Nat) (I : Nat → G → Prop)
    (step : ∀ i g, i < m → I i g → So (asgT tg (.int (i : Int)) g) fun g1 => WB tb n body g1 fun fl g2 => match fl with | .nx => I (i + 1) g2 | .ret r => Q (.ret r) g2) (hq : ∀ g, I m g → Q .nx g) {g : G} (h : I 0 g) :
    WFor tb n tg body ((List.range m).map fun (i : Nat) => PyData.int (0 + (i : Int))) g Q := by
  refine wfor_inv (fun rest g => ∃ i k : Nat, i + k = m ∧ rest = (List.range' i k).map (fun (i : Nat) => PyData.int (0 + (i : Int))) ∧ I i g) ?_ ?_ ⟨0, m, by omega, by rw [List.range_eq_range'], h⟩
  · rintro d ds g ⟨i, k, e1, e2, e3⟩
    cases k with
    | zero => cases e2
    | succ k =>
      rw [List.range'_succ, List.map_cons] at e2
      obtain ⟨rfl, rfl⟩ := List.cons.inj e2
      rw [Int.zero_add]
      obtain ⟨g1, a, b⟩ := step i g (by omega) e3
      refine ⟨g1, a, wo_imp b fun fl g2 z => ?_⟩
      cases fl with
      | nx => exact ⟨i + 1, k, by omega, rfl, z⟩
      | ret r => exact z
  · rintro g ⟨i, k, e1, e2, e3⟩
    cases k with
    | zero =>
      have : i = m := by omega
      exact hq g (this ▸ e3)
    | succ k => cases e2
theorem intsD_map : ∀ ns : List Int, intsD (ns.map .int) = some ns
  | [] => rfl
  | n :: ns => by
    show (intsD (ns.map .int)).map (n :: ·) = _
    rw [intsD_map ns]
    rfl
theorem tupsD_map : ∀ L : List (List Int), tupsD (L.map tupD) = some L
  | [] => rfl
  | ns :: L => by
    show (match intsD (ns.map .int), tupsD (L.map tupD) with
      | some ns, some L => some (ns :: L)
      | _, _ => none) = _
    rw [intsD_map, tupsD_map L]
theorem sort_nil {L : List (List Int)} (h : ∀ x ∈ L, x ≠ []) : ∃ L', sortL ([] :: L) = [] :: L' ∧ L'.Perm L := by
  have p := @sortL_perm ⟨[], fun _ => true, fun _ _ => "", fun _ _ => True⟩ ([] :: L)
  have a := @sortL_asc ⟨[], fun _ => true, fun _ _ => "", fun _ _ => True⟩ ([] :: L)
  cases e : sortL ([] :: L) with
  | nil =>
    rw [e] at p
    exact absurd p.length_eq (by simp)
  | cons x xs =>
    rw [e] at p a
    have hx : x = [] := by
      have hm : ([] : List Int) ∈ x :: xs := p.mem_iff.mpr List.mem_cons_self
      rcases List.mem_cons.mp hm with q | q
      · exact q.symm
      · have := (List.pairwise_cons.mp a).1 _ q
        cases x with
        | nil => rfl
        | cons y ys => exact absurd this (by rw [HT.lexLt_nil_cons]; decide)
    subst hx
    exact ⟨xs, rfl, (List.perm_cons _).mp p⟩
theorem sorted_eq (L : List (List Int)) : bi1D .sorted (.list (([] :: L).map tupD)) = some (.fr ((sortL ([] :: L)).map tupD)) := by
  show (match tupsD (([] :: L).map tupD) with
    | some ([] :: L) => some (R.fr ((sortL ([] :: L)).map tupD))
    | _ => none) = _
  rw [tupsD_map]
/-- the subsets of the first i standings, in the order in which they are made -/
def subs : Nat → List (List Int)
  | 0 => [[]]
  | i + 1 => subs i ++ (subs i).map fun s => s ++ [(i : Int)]
theorem subs_len : ∀ i, (subs i).length = 2 ^ i
  | 0 => rfl
  | i + 1 => by
    rw [subs, List.length_append, List.length_map, subs_len i, Nat.pow_succ]
    omega
theorem subs_ne : ∀ i, subs i ≠ []
  | 0 => by decide
  | i + 1 => by
    rw [subs]
    intro h
    exact subs_ne i (List.append_eq_nil_iff.mp h).1
theorem subs_head : ∀ i, ∃ L, subs i = [] :: L ∧ ∀ x ∈ L, x ≠ [] ∧ (∀ s ∈ x, 0 ≤ s ∧ s < (i : Int)) ∧ x.Pairwise (· < ·) ∧ x.length ≤ i
  | 0 => ⟨[], rfl, fun x h => nomatch h⟩
  | i + 1 => by
    obtain ⟨L, e, h⟩ := subs_head i
    refine ⟨L ++ ([] :: L).map (fun s => s ++ [(i : Int)]), by rw [subs, e]; rfl, fun x hx => ?_⟩
    rcases List.mem_append.mp hx with q | q
    · obtain ⟨h1, h2, h3, h4⟩ := h x q
      exact ⟨h1, fun s hs => by have := h2 s hs; omega, h3, by omega⟩
    · obtain ⟨y, hy, rfl⟩ := List.mem_map.mp q
      have hy' : (∀ s ∈ y, 0 ≤ s ∧ s < (i : Int)) ∧ y.Pairwise (· < ·) ∧ y.length ≤ i := by
        rcases List.mem_cons.mp hy with rfl | hy
        · exact ⟨fun s hs => (nomatch hs), List.Pairwise.nil, Nat.zero_le _⟩
        · exact (h y hy).2
      refine ⟨by simp, fun s hs => ?_, ?_, by rw [List.length_append, List.length_singleton]; omega⟩
      · rcases List.mem_append.mp hs with q | q
        · have := hy'.1 s q
          omega
        · have : s = (i : Int) := List.mem_singleton.mp q
          omega
      · refine List.pairwise_append.mpr ⟨hy'.2.1, List.pairwise_singleton _ _, fun a ha b hb => ?_⟩
        have : b = (i : Int) := List.mem_singleton.mp hb
        have := (hy'.1 a ha).2
        omega
theorem fold_list (c : Array Nat) : ∀ (k : Nat) (a : Array Nat), ((List.replicate k c).foldl (· ++ ·) a).toList = a.toList ++ (List.replicate k c.toList).flatten
  | 0, a => by simp
  | k + 1, a => by
    rw [List.replicate_succ, List.foldl_cons, fold_list c k, Array.toList_append, List.replicate_succ, List.flatten_cons, List.append_assoc]
theorem flat_one (c : Nat) : ∀ k : Nat, (List.replicate k [c]).flatten = List.replicate k c
  | 0 => rfl
  | k + 1 => by rw [List.replicate_succ, List.flatten_cons, flat_one c k]; rfl
theorem repA (k : Nat) : (repS "a" k).cps.toList = List.replicate k 97 := by
  unfold repS
  rw [fold_list]
  have e : ("a" : Str).cps.toList = [97] := by decide +kernel
  rw [e, flat_one]
  rfl
theorem repA_word (k : Nat) : WordB 1 (repS "a" k) = true := by
  unfold WordB
  rw [repA]
  refine List.all_eq_true.mpr fun c hc => ?_
  rw [(List.mem_replicate.mp hc).2]
  decide +kernel
theorem repA_len (k : Nat) : (repS "a" k).length = k := by
  have : (repS "a" k).cps.toList.length = k := by rw [repA, List.length_replicate]
  show (repS "a" k).cps.size = k
  simpa using this
theorem mulA {k : Int} (h0 : 2 ≤ k) (h1 : k ≤ 1000) : binD .Mult (.str "a") (.int k) = some (.d (.str (repS "a" k.toNat))) := by
  show (if 2 ≤ k ∧ k ≤ 1000 ∧ 1 ≤ ("a" : Str).length ∧ ("a" : Str).length ≤ 1000 then some (R.d (.str (repS "a" k.toNat))) else none) = _
  rw [if_pos ⟨h0, h1, by decide, by decide⟩]
theorem list_gd {ns : List Int} (h : ∀ i ∈ ns, i.natAbs ≤ 2 ^ 90) (hl : ns.length ≤ 900) : Gd (.list (ns.map .int)) := by
  refine ⟨?_, ?_, ?_⟩
  · simp only [okD]
    exact ok_ints h
  · simp only [wt, wts_ints]
    omega
  · simp only [PyData.depth, (ints_lay ns).2]
    omega
theorem eq_self (ns : List Int) : eqD (.list (ns.map .int)) (.list (ns.map .int)) = some true := by
  show (if SeqAt.shaped (.list (ns.map .int)) = true ∧ SeqAt.shaped (.list (ns.map .int)) = true then some (PyData.eqv (.list (ns.map .int)) (.list (ns.map .int))) else none) = _
  rw [if_pos ⟨ints_shaped ns, ints_shaped ns⟩, SeqAt.eqv_refl _ (by simp only [PyData.canLay0, (ints_lay ns).1])]
end CL
end
section
set_option Elab.async false
set_option linter.all false
set_option maxRecDepth 100000
set_option autoImplicit false
set_option maxHeartbeats 4000000
namespace K04
open PySem DL
def top (i : Nat) : Stmt := PySem.Challenge.pw_seamlots_k04_parting_words.main.body.getD i (.Pass ⟨0, 0, 0, 0⟩)
/-- is_machine -/
def b0 : List IS := [.iff (.bop false (.notE (.bi1 (.isin "tuple") (.slot 0))) (.cmp .NotEq (.bi1 .len (.slot 0)) (.cst (.int 3)))) [.ret (.cst (.bool false))] [], .unp [1, 2, 3] (.slot 0), .ret (.bop true (.call 2 [(.slot 1)]) (.bop true (.call 6 [(.slot 2), (.slot 1)]) (.call 3 [(.slot 3), (.bi1 .len (.slot 2))])))]
def f0 : FnD := ⟨"is_machine", 1, 4, b0, none⟩
/-- is_integer -/
def b1 : List IS := [.ret (.bop true (.bi1 (.isin "int") (.slot 0)) (.notE (.bi1 (.isin "bool") (.slot 0))))]
def f1 : FnD := ⟨"is_integer", 1, 1, b1, none⟩
/-- is_letters -/
def b2 : List IS := [.ret (.bop true (.call 1 [(.slot 0)]) (.chn .LtE .LtE (.cst (.int 1)) (.slot 0) (.bi1 .len (.cst (.str "abc")))))]
def f2 : FnD := ⟨"is_letters", 1, 1, b2, none⟩
/-- are_ascending -/
def b3 : List IS := [.iff (.notE (.bi1 (.isin "tuple") (.slot 0))) [.ret (.cst (.bool false))] [], .set 2 (.neg (.cst (.int 1))), .for_ (.one 3) .seq [(.slot 0)] [.iff (.bop false (.notE (.call 1 [(.slot 3)])) (.notE (.chn .Lt .Lt (.slot 2) (.slot 3) (.slot 1)))) [.ret (.cst (.bool false))] [], .set 2 (.slot 3)], .ret (.cst (.bool true))]
def f3 : FnD := ⟨"are_ascending", 2, 4, b3, none⟩
/-- check_machine -/
def b4 : List IS := [.iff (.notE (.call 0 [(.slot 0)])) [.nev] []]
def f4 : FnD := ⟨"check_machine", 1, 1, b4, none⟩
/-- check_alike -/
def b5 : List IS := [.iff (.cmp .NotEq (.idx (.slot 0) (.cst (.int 0))) (.idx (.slot 1) (.cst (.int 0)))) [.nev] []]
def f5 : FnD := ⟨"check_alike", 2, 2, b5, none⟩
/-- _are_moves -/
def b6 : List IS := [.iff (.bop false (.notE (.bi1 (.isin "tuple") (.slot 0))) (.notE (.chn .LtE .LtE (.cst (.int 1)) (.bi1 .len (.slot 0)) (.cst (.int 32))))) [.ret (.cst (.bool false))] [], .ret (.bi1 .all (.lc (.call 7 [(.slot 2), (.slot 1), (.bi1 .len (.slot 0))]) (.one 2) .seq [(.slot 0)] none [2]))]
def f6 : FnD := ⟨"_are_moves", 2, 3, b6, none⟩
/-- _is_row -/
def b7 : List IS := [.iff (.bop false (.notE (.bi1 (.isin "tuple") (.slot 0))) (.cmp .NotEq (.bi1 .len (.slot 0)) (.slot 1))) [.ret (.cst (.bool false))] [], .ret (.bi1 .all (.lc (.bop true (.call 1 [(.slot 3)]) (.chn .LtE .Lt (.cst (.int 0)) (.slot 3) (.slot 2))) (.one 3) .seq [(.slot 0)] none [3]))]
def f7 : FnD := ⟨"_is_row", 3, 4, b7, none⟩
/-- least_word -/
def b8 : List IS := [.ret (.call 9 [(.slot 0), (.lst [(.slot 1)]), (.lam 21 [2]), (.slot 3)])]
def f8 : FnD := ⟨"least_word", 4, 4, b8, none⟩
/-- least_word_of_some -/
def b9 : List IS := [.own 4 (.dcomp true (.slot 8) (.cst (.bool true)) 8 (.slot 1)), .own 5 (.lst [(.tup [(.cst (.str "")), (.slot 1)])]), .set 6 (.cst (.int 0)), .whl (.cmp .Lt (.slot 6) (.bi1 .len (.slot 5))) [.unp [9, 10] (.idx (.slot 5) (.slot 6)), .iff (.bi1 .any (.lc (.callS 3 [(.slot 8)]) (.one 8) .seq [(.slot 10)] none [8])) [.ret (.slot 9)] [], .for_ (.one 7) .rng [(.slot 0)] [.own 11 (.lst []), .for_ (.one 8) .seq [(.slot 10)] [.for_ (.one 12) .seq [(.callS 2 [(.slot 8), (.slot 7)])] [.iff (.din true 4 (.slot 12)) [.dput 4 (.slot 12) (.cst (.bool true)), .app 11 (.slot 12)] []]], .iff (.slot 11) [.app 5 (.tup [(.bin .Add (.slot 9) (.idx (.cst (.str "abc")) (.slot 7))), (.slot 11)])] []], .aug 6 (.cst (.int 1))], .ret (.cst .none)]
def f9 : FnD := ⟨"least_word_of_some", 4, 13, b9, none⟩
/-- step_of_pairs -/
def b10 : List IS := [.set 2 (.idx (.slot 0) (.cst (.int 1))), .set 3 (.idx (.slot 1) (.cst (.int 1))), .ret (.lam 22 [2, 3])]
def f10 : FnD := ⟨"step_of_pairs", 2, 4, b10, none⟩
/-- parting_word -/
def b11 : List IS := [.exp (.call 4 [(.slot 0)]), .exp (.call 4 [(.slot 1)]), .exp (.call 5 [(.slot 0), (.slot 1)]), .ret (.call 8 [(.idx (.slot 0) (.cst (.int 0))), (.tup [(.cst (.int 0)), (.cst (.int 0))]), (.call 10 [(.slot 0), (.slot 1)]), (.lam 23 [0, 1])])]
def f11 : FnD := ⟨"parting_word", 2, 2, b11, none⟩
/-- _law_spread -/
def b12 : List IS := [.iff (.cmp .GtE (.slot 0) (.bin .Pow (.cst (.int 10)) (.cst (.int 18)))) [.ret (.slot 0)] [], .set 2 (.lst [(.cst (.int 2147483629)), (.cst (.int 2147483587)), (.cst (.int 2147483579)), (.cst (.int 2147483563)), (.cst (.int 2147483549)), (.cst (.int 2147483543)), (.cst (.int 2147483497))]), .set 2 (.bin .Add (.slot 2) (.lst [(.cst (.int 2147483489)), (.cst (.int 2147483477)), (.cst (.int 2147483423)), (.cst (.int 2147483399)), (.cst (.int 2147483353)), (.cst (.int 2147483323))])), .set 3 (.bin .Add (.bin .Add (.bin .Mult (.bin .Mod (.bi1 .int (.slot 0)) (.cst (.int 1000000007))) (.bin .Add (.bin .Mult (.cst (.int 2)) (.slot 1)) (.cst (.int 69069)))) (.bin .Mult (.slot 1) (.cst (.int 40503)))) (.cst (.int 977))), .set 4 (.bin .Mod (.bi1 .int (.bin .Pow (.slot 3) (.cst (.int 3)))) (.idx (.slot 2) (.bin .Mod (.bi1 .int (.slot 1)) (.cst (.int 13))))), .set 5 (.bin .Add (.bin .Mod (.bi1 .int (.slot 0)) (.cst (.int 65537))) (.cst (.int 5))), .set 6 (.bin .Mod (.bi1 .int (.bin .Pow (.bin .Add (.bin .Mult (.slot 4) (.bin .Add (.slot 1) (.cst (.int 3)))) (.slot 5)) (.cst (.int 5)))) (.idx (.slot 2) (.bin .Mod (.bi1 .int (.bin .Add (.slot 1) (.cst (.int 5)))) (.cst (.int 13))))), .set 7 (.bin .Mod (.bi1 .int (.bin .Pow (.bin .Add (.bin .Add (.slot 6) (.bin .Mod (.bi1 .int (.slot 4)) (.cst (.int 1009)))) (.slot 1)) (.cst (.int 3)))) (.idx (.slot 2) (.bin .Mod (.bi1 .int (.bin .Add (.slot 1) (.cst (.int 7)))) (.cst (.int 13))))), .ret (.bin .Add (.bin .Mult (.bin .Add (.bin .Mult (.slot 4) (.cst (.int 2147483647))) (.slot 6)) (.cst (.int 2147483647))) (.slot 7))]
def f12 : FnD := ⟨"_law_spread", 2, 8, b12, none⟩
/-- _law_open -/
def b13 : List IS := [.own 1 (.bi1 .list (.slc (.slot 0) none (some (.cst (.int 12))))), .for_ (.many [2, 3]) .enu [(.slc (.slot 0) (some (.cst (.int 12))) (some (.cst (.int 63))))] [.sto 1 (.bin .Mod (.bi1 .int (.slot 2)) (.cst (.int 12))) (.bin .Add (.idx (.slot 1) (.bin .Mod (.bi1 .int (.slot 2)) (.cst (.int 12)))) (.slot 3))], .ret (.lst [(.slot 1), (.cst (.int 0)), (.cst (.int 0))])]
def f13 : FnD := ⟨"_law_open", 1, 4, b13, none⟩
/-- _law_take -/
def b14 : List IS := [.iff (.cmp .Lt (.idx (.slot 0) (.cst (.int 2))) (.slot 1)) [.set 3 (.idx (.slot 0) (.cst (.int 1))), .set 4 (.cst (.int 0)), .iff (.cmp .Lt (.slot 3) (.bi1 .len (.idx (.slot 0) (.cst (.int 0))))) [.set 4 (.idx (.idx (.slot 0) (.cst (.int 0))) (.slot 3))] [.iff (.cmp .Gt (.bi1 .len (.idx (.slot 0) (.cst (.int 0)))) (.cst (.int 0))) [.set 4 (.bin .Mod (.bi1 .int (.idx (.idx (.slot 0) (.cst (.int 0))) (.bin .Mod (.bi1 .int (.bin .Add (.bin .Mult (.slot 3) (.cst (.int 5))) (.cst (.int 3)))) (.bi1 .len (.idx (.slot 0) (.cst (.int 0))))))) (.bin .Add (.bin .Pow (.cst (.int 10)) (.cst (.int 17))) (.slot 3)))] []], .sto 0 (.cst (.int 1)) (.bin .Add (.slot 3) (.cst (.int 1))), .sto 0 (.cst (.int 2)) (.call 12 [(.slot 4), (.slot 3)])] [], .set 2 (.bin .Mod (.bi1 .int (.idx (.slot 0) (.cst (.int 2)))) (.slot 1)), .sto 0 (.cst (.int 2)) (.bin .FloorDiv (.idx (.slot 0) (.cst (.int 2))) (.slot 1)), .ret (.slot 2)]
def f14 : FnD := ⟨"_law_take", 2, 5, b14, none⟩
/-- _law_anew -/
def b15 : List IS := [.sto 0 (.cst (.int 2)) (.cst (.int 0)), .ret (.slot 0)]
def f15 : FnD := ⟨"_law_anew", 1, 1, b15, none⟩
/-- _law_one -/
def b16 : List IS := [.ret (.idx (.slot 1) (.call 14 [(.slot 0), (.bi1 .len (.slot 1))]))]
def f16 : FnD := ⟨"_law_one", 2, 2, b16, none⟩
/-- _law_drawn_machine -/
def b17 : List IS := [.par 6 7 false true (.call 16 [(.slot 0), (.lst [(.cst (.int 0)), (.cst (.int 0)), (.cst (.int 1)), (.cst (.int 1)), (.cst (.int 2))])]) (.lst []), .for_ (.one 3) .rng [(.slot 2)] [.own 8 (.lst []), .for_ (.one 9) .rng [(.slot 1)] [.set 10 (.call 14 [(.slot 0), (.slot 2)]), .iff (.cmp .Eq (.slot 6) (.cst (.int 1))) [.set 10 (.bi2 .min (.bin .Sub (.slot 2) (.cst (.int 1))) (.bin .Add (.bin .Add (.slot 3) (.cst (.int 1))) (.call 16 [(.slot 0), (.lst [(.cst (.int 0)), (.cst (.int 0)), (.cst (.int 0)), (.cst (.int 1)), (.slot 2)])])))] [.iff (.cmp .Eq (.slot 6) (.cst (.int 2))) [.set 10 (.call 16 [(.slot 0), (.lst [(.slot 3), (.slot 3), (.bi2 .min (.bin .Sub (.slot 2) (.cst (.int 1))) (.bin .Add (.slot 3) (.cst (.int 1)))), (.slot 10)])])] []], .app 8 (.slot 10)], .app 7 (.bi1 .tuple (.slot 8))], .set 4 (.call 16 [(.slot 0), (.lst [(.cst (.int 2)), (.cst (.int 2)), (.cst (.int 3)), (.cst (.int 4))])]), .set 5 (.lc (.slot 3) (.one 3) .rng [(.slot 2)] (some (.cmp .Eq (.call 14 [(.slot 0), (.slot 4)]) (.cst (.int 0)))) [3]), .iff (.bop true (.cmp .Eq (.slot 5) (.lst [])) (.cmp .Gt (.call 14 [(.slot 0), (.cst (.int 4))]) (.cst (.int 0)))) [.set 5 (.lst [(.call 14 [(.slot 0), (.slot 2)])])] [], .ret (.tup [(.slot 1), (.bi1 .tuple (.slot 7)), (.bi1 .tuple (.slot 5))])]
def f17 : FnD := ⟨"_law_drawn_machine", 3, 11, b17, none⟩
/-- _law_pairs -/
def b18 : List IS := [.par 3 4 true true (.dnew true (some ((.tup [(.cst (.int 0)), (.cst (.int 0))]), (.cst (.str ""))))) (.lst [(.tup [(.cst (.int 0)), (.cst (.int 0))])]), .for_ (.one 2) .rng [(.bin .Mult (.bi1 .len (.idx (.slot 0) (.cst (.int 1)))) (.bi1 .len (.idx (.slot 1) (.cst (.int 1)))))] [.iff (.cmp .Lt (.slot 2) (.bi1 .len (.slot 4))) [.unp [6, 7] (.idx (.slot 4) (.slot 2)), .for_ (.one 5) .rng [(.idx (.slot 0) (.cst (.int 0)))] [.set 8 (.tup [(.idx (.idx (.idx (.slot 0) (.cst (.int 1))) (.slot 6)) (.slot 5)), (.idx (.idx (.idx (.slot 1) (.cst (.int 1))) (.slot 7)) (.slot 5))]), .iff (.din true 3 (.slot 8)) [.dput 3 (.slot 8) (.bin .Add (.dget 3 (.idx (.slot 4) (.slot 2))) (.idx (.cst (.str "abc")) (.slot 5))), .app 4 (.slot 8)] []]] []], .ret (.slot 3)]
def f18 : FnD := ⟨"_law_pairs", 2, 9, b18, none⟩
/-- _law_parting -/
def b19 : List IS := [.own 2 (.call 18 [(.slot 0), (.slot 1)]), .set 3 (.lc (.dget 2 (.slot 4)) (.one 4) .dic [(.slot 2)] (some (.cmp .NotEq (.cmp .In (.idx (.slot 4) (.cst (.int 0))) (.idx (.slot 0) (.cst (.int 2)))) (.cmp .In (.idx (.slot 4) (.cst (.int 1))) (.idx (.slot 1) (.cst (.int 2)))))) [4]), .ret (.ife (.cmp .NotEq (.slot 3) (.lst [])) (.idx (.slot 3) (.cst (.int 0))) (.cst .none))]
def f19 : FnD := ⟨"_law_parting", 2, 5, b19, none⟩
/-- law -/
def b20 : List IS := [.pen 1 (.call 13 [(.slot 0)]), .for_ (.one 2) .rng [(.cst (.int 3))] [.set 4 (.bin .Add (.cst (.int 1)) (.call 14 [(.slot 1), (.cst (.int 3))])), .set 5 (.call 17 [(.call 15 [(.slot 1)]), (.slot 4), (.bin .Add (.cst (.int 1)) (.call 14 [(.slot 1), (.call 16 [(.slot 1), (.lst [(.cst (.int 4)), (.cst (.int 12))])])]))]), .set 6 (.bi1 .len (.idx (.slot 5) (.cst (.int 1)))), .set 7 (.call 14 [(.slot 1), (.slot 6)]), .set 8 (.ife (.cmp .In (.slot 7) (.idx (.slot 5) (.cst (.int 2)))) (.bi1 .tuple (.lc (.slot 17) (.one 17) .seq [(.idx (.slot 5) (.cst (.int 2)))] (some (.cmp .NotEq (.slot 17) (.slot 7))) [17])) (.bi1 .tuple (.bi1 .sorted (.bin .Add (.idx (.slot 5) (.cst (.int 2))) (.tup [(.slot 7)]))))), .set 9 (.lc (.bi1 .tuple (.lc (.ife (.bop true (.cmp .Eq (.slot 18) (.slot 7)) (.cmp .Eq (.call 14 [(.slot 1), (.cst (.int 2))]) (.cst (.int 0)))) (.slot 6) (.slot 18)) (.one 18) .seq [(.slot 13)] none [18])) (.one 13) .seq [(.idx (.slot 5) (.cst (.int 1)))] none [13]), .set 10 (.tup [(.slot 4), (.bin .Add (.bi1 .tuple (.slot 9)) (.slc (.idx (.slot 5) (.cst (.int 1))) (some (.slot 7)) (some (.bin .Add (.slot 7) (.cst (.int 1)))))), (.bin .Add (.idx (.slot 5) (.cst (.int 2))) (.bin .Mult (.tup [(.slot 6)]) (.bi1 .int (.cmp .In (.slot 7) (.idx (.slot 5) (.cst (.int 2)))))))]), .set 11 (.lst [(.slot 5), (.tup [(.slot 4), (.idx (.slot 5) (.cst (.int 1))), (.slot 8)]), (.slot 10), (.call 17 [(.call 15 [(.slot 1)]), (.slot 4), (.bin .Add (.cst (.int 1)) (.call 14 [(.slot 1), (.cst (.int 5))]))])]), .for_ (.one 12) .seq [(.slot 11)] [.par 14 15 false false (.bi1 .repr (.tup [(.slot 5), (.slot 12)])) (.call 19 [(.slot 5), (.slot 12)]), .iff (.cmp .NotEq (.bi1 .repr (.lst [(.call 11 [(.slot 5), (.slot 12)]), (.call 11 [(.slot 12), (.slot 5)])])) (.bi1 .repr (.lst [(.slot 15), (.slot 15)]))) [.ret (.cst (.bool false))] [], .iff (.cmp .NotEq (.bi1 .repr (.tup [(.slot 5), (.slot 12)])) (.slot 14)) [.ret (.cst (.bool false))] []]], .set 3 (.bi1 .tuple (.lc (.tup [(.bin .Mult (.bin .Add (.slot 16) (.cst (.int 1))) (.bi1 .int (.cmp .Lt (.slot 16) (.cst (.int 31)))))]) (.one 16) .rng [(.cst (.int 32))] none [16])), .ret (.cmp .Eq (.call 11 [(.tup [(.cst (.int 1)), (.slot 3), (.tup [(.cst (.int 31))])]), (.tup [(.cst (.int 1)), (.tup [(.tup [(.cst (.int 0))])]), (.tup [])])]) (.bin .Mult (.cst (.str "a")) (.cst (.int 31))))]
def f20 : FnD := ⟨"law", 1, 19, b20, none⟩
/-- least_word: <lambda> -/
def b21 : List IS := [.ret (.lst [(.callS 2 [(.slot 0), (.slot 1)])])]
def f21 : FnD := ⟨"<lambda>", 2, 3, b21, some 1⟩
/-- step_of_pairs: <lambda> -/
def b22 : List IS := [.ret (.tup [(.idx (.idx (.slot 2) (.idx (.slot 0) (.cst (.int 0)))) (.slot 1)), (.idx (.idx (.slot 3) (.idx (.slot 0) (.cst (.int 1)))) (.slot 1))])]
def f22 : FnD := ⟨"<lambda>", 2, 4, b22, some 2⟩
/-- parting_word: <lambda> -/
def b23 : List IS := [.ret (.cmp .NotEq (.cmp .In (.idx (.slot 0) (.cst (.int 0))) (.idx (.slot 1) (.cst (.int 2)))) (.cmp .In (.idx (.slot 0) (.cst (.int 1))) (.idx (.slot 2) (.cst (.int 2)))))]
def f23 : FnD := ⟨"<lambda>", 1, 3, b23, some 2⟩
def fns : List FnD := [f0, f1, f2, f3, f4, f5, f6, f7, f8, f9, f10, f11, f12, f13, f14, f15, f16, f17, f18, f19, f20, f21, f22, f23]
def prog : Pgm := ⟨fns, [("LETTERS", (.str "abc")), ("MOST_STANDINGS", (.int 32))], [["letters", "start", "step", "is_goal"], ["one", "other", "one_moves", "other_moves"], ["one", "other"]], [((45, 48), "least_word.<locals>.<lambda>"), ((68, 11), "step_of_pairs.<locals>.<lambda>"), ((74, 65), "parting_word.<locals>.<lambda>")], [(21, ["state", "number", "step"]), (22, ["pair", "number", "one_moves", "other_moves"]), (23, ["pair", "one", "other"])], []⟩
theorem c0 : defC prog 60 f0 (top 7) ["value", "letters", "moves", "ends"] ["value"] 60 [] = true := by decide +kernel
theorem c1 : defC prog 60 f1 (top 8) ["value"] ["value"] 60 [] = true := by decide +kernel
theorem c2 : defC prog 60 f2 (top 9) ["value"] ["value"] 60 [] = true := by decide +kernel
theorem c3 : defC prog 60 f3 (top 10) ["value", "many", "last", "one"] ["value", "many"] 60 [] = true := by decide +kernel
theorem c4 : defC prog 60 f4 (top 11) ["value"] ["value"] 60 [] = true := by decide +kernel
theorem c5 : defC prog 60 f5 (top 12) ["one", "other"] ["one", "other"] 60 [] = true := by decide +kernel
theorem c6 : defC prog 60 f6 (top 13) ["value", "letters", "row"] ["value", "letters"] 60 [] = true := by decide +kernel
theorem c7 : defC prog 60 f7 (top 14) ["value", "letters", "many", "standing"] ["value", "letters", "many"] 60 [] = true := by decide +kernel
theorem c8 : defC prog 60 f8 (top 16) ["letters", "start", "step", "is_goal"] ["letters", "start", "step", "is_goal"] 60 [] = true := by decide +kernel
theorem c9 : defC prog 60 f9 (top 17) ["letters", "starts", "steps", "is_goal", "seen", "groups", "at", "number", "state", "word", "states", "found", "to"] ["letters", "starts", "steps", "is_goal"] 60 [] = true := by decide +kernel
theorem c10 : defC prog 60 f10 (top 18) ["one", "other", "one_moves", "other_moves"] ["one", "other"] 60 [] = true := by decide +kernel
theorem c11 : defC prog 60 f11 (top 20) ["one", "other"] ["one", "other"] 60 [] = true := by decide +kernel
theorem c12 : defC prog 60 f12 (top 22) ["cell", "at", "primes", "mixed", "one", "rest", "two", "three"] ["cell", "at"] 60 [] = true := by decide +kernel
theorem c13 : defC prog 60 f13 (top 23) ["script", "cells", "k", "cell"] ["script"] 60 [] = true := by decide +kernel
theorem c14 : defC prog 60 f14 (top 24) ["pen", "many", "found", "at", "cell"] ["pen", "many"] 60 [] = true := by decide +kernel
theorem c15 : defC prog 60 f15 (top 25) ["pen"] ["pen"] 60 [] = true := by decide +kernel
theorem c16 : defC prog 60 f16 (top 26) ["pen", "some"] ["pen", "some"] 60 [] = true := by decide +kernel
theorem c17 : defC prog 60 f17 (top 27) ["pen", "letters", "many", "standing", "odds", "ends", "sort", "moves", "row", "number", "to"] ["pen", "letters", "many"] 60 [] = true := by decide +kernel
theorem c18 : defC prog 60 f18 (top 28) ["one", "other", "at", "words", "queue", "number", "first", "second", "pair"] ["one", "other"] 60 [] = true := by decide +kernel
theorem c19 : defC prog 60 f19 (top 29) ["one", "other", "words", "apart", "pair"] ["one", "other"] 60 [] = true := by decide +kernel
theorem c20 : defC prog 60 f20 (top 30) ["script", "pen", "turn", "ring", "letters", "one", "many", "at", "ends", "doubled", "twin", "some", "other", "row", "kept", "due", "number", "own", "to"] ["script"] 60 [] = true := by decide +kernel
end K04
end
section
set_option Elab.async false
set_option linter.all false
set_option maxRecDepth 100000
set_option autoImplicit false
set_option maxHeartbeats 4000000
open PySem PySem.Spec
namespace K04
open DL L2 CL
local macro_rules | `(tactic| decreasing_tactic) => `(tactic| repeat (first | ((with_reducible apply slot_d); · exact rfl) | ((with_reducible apply so_rfl); · exact rfl) | ((with_reducible apply wo_rfl); · exact rfl) | ((with_reducible refine (wb_cons (s := IS.set _ _)).mpr ?_); try dsimp only [setD, setOwn, setDic, List.set_cons_zero, List.set_cons_succ]) | ((with_reducible refine (wb_cons (s := IS.ret _)).mpr ?_); try dsimp only [setD, setOwn, setDic, List.set_cons_zero, List.set_cons_succ]) | ((with_reducible refine (wb_cons (s := IS.sto _ _ _)).mpr ?_); try dsimp only [setD, setOwn, setDic, List.set_cons_zero, List.set_cons_succ]) | ((with_reducible refine (wb_cons (s := IS.app _ _)).mpr ?_); try dsimp only [setD, setOwn, setDic, List.set_cons_zero, List.set_cons_succ]) | ((with_reducible refine (wb_cons (s := IS.own _ _)).mpr ?_); try dsimp only [setD, setOwn, setDic, List.set_cons_zero, List.set_cons_succ]) | ((with_reducible refine (wb_cons (s := IS.exp _)).mpr ?_); try dsimp only [setD, setOwn, setDic, List.set_cons_zero, List.set_cons_succ]) | ((with_reducible refine (wb_cons (s := IS.unp _ _)).mpr ?_); try dsimp only [setD, setOwn, setDic, List.set_cons_zero, List.set_cons_succ]) | ((with_reducible refine (wb_cons (s := IS.par _ _ _ _ _ _)).mpr ?_); try dsimp only [setD, setOwn, setDic, List.set_cons_zero, List.set_cons_succ]) | ((with_reducible refine (wb_cons (s := IS.pen _ _)).mpr ?_); try dsimp only [setD, setOwn, setDic, List.set_cons_zero, List.set_cons_succ]) | ((with_reducible refine (wb_cons (s := IS.iff _ _ _) (ss := [])).mpr ?_); try dsimp only [setD, setOwn, setDic, List.set_cons_zero, List.set_cons_succ]) | with_reducible refine ws_set.mpr ?_ | with_reducible refine ws_ret.mpr ?_ | with_reducible refine ws_iff.mpr ?_ | with_reducible refine ws_own.mpr ?_ | with_reducible refine ws_for.mpr ?_ | with_reducible refine ws_exp.mpr ?_ | with_reducible refine ws_unp.mpr ?_ | with_reducible refine ws_par.mpr ?_ | with_reducible refine ws_pen.mpr ?_ | with_reducible refine wb_nil.mpr ?_ | with_reducible refine we_slot.mpr ?_ | with_reducible refine we_cst.mpr ?_ | with_reducible refine we_bin.mpr ?_ | with_reducible refine we_bi1.mpr ?_ | with_reducible refine we_cmp.mpr ?_ | with_reducible refine we_idx.mpr ?_ | with_reducible refine we_call.mpr ?_ | with_reducible refine we_bop.mpr ?_ | with_reducible refine we_not.mpr ?_ | with_reducible refine we_chn.mpr ?_ | with_reducible refine we_tup.mpr ?_ | with_reducible refine we_lst.mpr ?_ | with_reducible refine we_neg.mpr ?_ | with_reducible refine we_ife.mpr ?_ | with_reducible refine we_bi2.mpr ?_ | with_reducible refine we_rngL.mpr ?_ | with_reducible refine we_slc.mpr ?_ | with_reducible refine we_rev.mpr ?_ | with_reducible refine we_lc.mpr ?_ | with_reducible refine we_idxS.mpr ?_ | with_reducible refine wr_of ?_ | with_reducible refine wkp_of ?_ | with_reducible refine wp_n ?_ | with_reducible refine wp_s ?_ | with_reducible refine wds_cons.mpr ?_ | with_reducible refine wds_nil.mpr ?_ | with_reducible refine was_cons.mpr ?_ | with_reducible refine was_nil.mpr ?_ | with_reducible refine wt_bop.mpr ?_ | with_reducible refine wt_not.mpr ?_ | with_reducible refine wt_cmp.mpr ?_ | with_reducible refine wt_chn.mpr ?_ | with_reducible refine wt_call.mpr ?_ | with_reducible refine wt_bi1.mpr ?_ | with_reducible refine wt_slot.mpr ?_ | with_reducible refine wt_idx.mpr ?_ | with_reducible refine wits_seq.mpr ?_ | with_reducible refine wits_rng.mpr ?_ | with_reducible refine wits_enu.mpr ?_ | with_reducible refine wits_zip.mpr ?_ | with_reducible refine cnd_n ?_ | with_reducible refine cnd_s ?_ | with_reducible refine we_allG ?_ | with_reducible refine wt_allG ?_ | with_reducible refine we_join.mpr ?_ | with_reducible refine we_lam.mpr ?_ | with_reducible refine we_din.mpr ?_ | with_reducible refine wt_din.mpr ?_ | with_reducible refine we_dnew1.mpr ?_ | with_reducible refine we_dcomp.mpr ?_ | with_reducible refine wits_dic.mpr ?_ | with_reducible refine ws_aug.mpr ?_ | with_reducible refine ws_dput.mpr ?_ | with_reducible refine wt_any_callS.mpr ?_ | ((with_reducible apply dic_p); · exact rfl) | ((with_reducible apply int_p); · exact rfl) | ((with_reducible apply callS_of); · exact rfl) | ((with_reducible apply dget_of); · exact rfl) | ((with_reducible apply slot_dic); · exact rfl) | ((with_reducible apply slot_fn); · exact rfl) | ((with_reducible apply slot_ofn); · exact rfl; · exact rfl) | ((with_reducible apply ite_y); · exact rfl) | ((with_reducible apply ite_n); · exact rfl) | with_reducible refine sto_pen ?_ | ((with_reducible apply slot_pen); · exact rfl; · exact rfl) | ((with_reducible apply slot_own); · exact rfl) | ((with_reducible apply slot_scr); · exact rfl) | ((with_reducible apply so_id); refine so_ite ?_ ?_; · (first | decide | omega | exact mul_small (by omega) (by omega) (by omega) (by omega))) | ((fail_if_success (first | with_reducible apply wb_id | with_reducible apply wc_id | with_reducible apply wk_id | with_reducible apply wfor_id | with_reducible apply wlc_id)); refine ⟨_, _, rfl, rfl, ?_⟩) | ((fail_if_success (first | with_reducible apply wb_id | with_reducible apply wc_id | with_reducible apply wk_id | with_reducible apply wfor_id | with_reducible apply wlc_id)); refine ⟨rfl, ?_⟩) | ((fail_if_success (first | with_reducible apply wb_id | with_reducible apply wc_id | with_reducible apply wk_id | with_reducible apply wfor_id | with_reducible apply wlc_id)); refine ⟨_, _, _, rfl, rfl, rfl, rfl, ?_⟩)))
theorem integer_ok {n : Nat} {x : D} {p : Option (List D)} (hx : notDict x) {Q : R → Option (List D) → Prop} (k : Q (.d (.bool (isI x))) p) : WC fns (n + 10) 1 [.d x] p Q := whole_ok (nm := "is_integer") rfl hx k
theorem letters_ok {n : Nat} {x : D} {p : Option (List D)} (hx : notDict x) {Q : R → Option (List D) → Prop} (k : Q (.d (.bool (letB x))) p) : WC fns (n + 20) 2 [.d x] p Q := by
  rw [wc_def (fd := f2) rfl rfl rfl]
  show WB fns (n + 19) b2 { env := [some (.d x)], pen := p } _
  unfold b2
  decreasing_tactic
  refine integer_ok hx ?_
  decreasing_tactic
  cases x with
  | int i =>
    decreasing_tactic
    refine ite_d (fun h => ?_) (fun h => ?_)
    · decreasing_tactic
      have e : letB (.int i) = decide (i ≤ 3) := by simp only [letB, decide_eq_true h, Bool.true_and]
      rw [e] at k
      exact k
    · decreasing_tactic
      have e : letB (.int i) = false := by simp only [letB, decide_eq_false h, Bool.false_and]
      rw [e] at k
      exact k
  | dict _ => exact hx.elim
  | _ =>
    decreasing_tactic
    exact k
theorem standings_ok {n : Nat} {x : D} {many : Int} {p : Option (List D)} (hx : notDict x) (hx2 : ∀ ds, x = .tuple ds → ∀ d ∈ ds, notDict d) {Q : R → Option (List D) → Prop} (k : Q (.d (.bool (stdB x many))) p) : WC fns (n + 30) 3 [.d x, .d (.int many)] p Q := by
  rw [wc_def (fd := f3) rfl rfl rfl]
  show WB fns (n + 29) b3 { env := [some (.d x), some (.d (.int many)), none, none], pen := p } _
  unfold b3
  cases x with
  | dict _ => exact hx.elim
  | tuple ds =>
    refine wb_cons.mpr ?_
    decreasing_tactic
    refine wb_cons.mpr ?_
    decreasing_tactic
    refine wfor_inv (fun rest g => (∀ d ∈ rest, notDict d) ∧ ∃ (last : Int) (o : Option Sv), stdL many (-1) ds = stdL many last rest ∧ g = { env := [some (.d (.tuple ds)), some (.d (.int many)), some (.d (.int last)), o], pen := p }) ?_ ?_ ⟨hx2 ds rfl, _, _, rfl, rfl⟩
    · rintro d rest _ ⟨hd, last, o, e, rfl⟩
      have hd0 := hd d List.mem_cons_self
      have hdr : ∀ x ∈ rest, notDict x := fun x h => hd x (List.mem_cons_of_mem _ h)
      decreasing_tactic
      refine wb_cons.mpr ?_
      decreasing_tactic
      refine integer_ok hd0 ?_
      decreasing_tactic
      cases d with
      | dict _ => exact hd0.elim
      | int i =>
        decreasing_tactic
        refine ite_d (fun h => ?_) (fun h => ?_)
        · decreasing_tactic
          refine ite_nd (fun h2 => ?_) (fun h2 => ?_)
          · decreasing_tactic
            have e2 : stdB (.tuple ds) many = false := by rw [show stdB (.tuple ds) many = _ from e]; simp only [stdL, decide_eq_false h2, Bool.and_false, Bool.false_and]
            rw [e2] at k
            exact k
          · decreasing_tactic
            exact ⟨hdr, i, some (.d (.int i)), by rw [e]; simp only [stdL, decide_eq_true h, decide_eq_true h2, Bool.true_and], rfl⟩
        · decreasing_tactic
          have e2 : stdB (.tuple ds) many = false := by rw [show stdB (.tuple ds) many = _ from e]; simp only [stdL, decide_eq_false h, Bool.false_and]
          rw [e2] at k
          exact k
      | _ =>
        decreasing_tactic
        have e2 : stdB (.tuple ds) many = false := by rw [show stdB (.tuple ds) many = _ from e]; rfl
        rw [e2] at k
        exact k
    · rintro _ ⟨_, last, o, e, rfl⟩
      decreasing_tactic
      have : stdB (.tuple ds) many = true := e
      rw [this] at k
      exact k
  | _ =>
    refine wb_cons.mpr ?_
    decreasing_tactic
    exact k
theorem row_ok {n : Nat} {x : D} {letters many : Int} {p : Option (List D)} (hx : notDict x) (hx2 : ∀ ds, x = .tuple ds → ds.length < 1000 ∧ ∀ d ∈ ds, notDict d) {Q : R → Option (List D) → Prop} (k : Q (.d (.bool (rowB x letters many))) p) : WC fns (n + 40) 7 [.d x, .d (.int letters), .d (.int many)] p Q := by
  rw [wc_def (fd := f7) rfl rfl rfl]
  show WB fns (n + 39) b7 { env := [some (.d x), some (.d (.int letters)), some (.d (.int many)), none], pen := p } _
  unfold b7
  refine wb_cons.mpr ?_
  cases x with
  | dict _ => exact hx.elim
  | tuple ds =>
    decreasing_tactic
    refine ite_nd (fun h => ?_) (fun h => ?_)
    · decreasing_tactic
      have e : rowB (.tuple ds) letters many = false := by simp only [rowB, decide_eq_false h, Bool.false_and]
      rw [e] at k
      exact k
    · decreasing_tactic
      obtain ⟨hlen, hnd⟩ := hx2 ds rfl
      refine wlc_inv (fun rest acc g => (∀ d ∈ rest, notDict d) ∧ (∃ done, ds = done ++ rest ∧ acc = done.map fun d => .bool (entB many d)) ∧ ∃ o : Option Sv, g = { env := [some (.d (.tuple ds)), some (.d (.int letters)), some (.d (.int many)), o], pen := p }) ?_ ?_ ⟨hnd, ⟨[], rfl, rfl⟩, _, rfl⟩
      · rintro d rest acc _ ⟨hd, ⟨done, e1, e2⟩, o, rfl⟩
        have hd0 := hd d List.mem_cons_self
        have hdr : ∀ x ∈ rest, notDict x := fun x h => hd x (List.mem_cons_of_mem _ h)
        have ha : acc.length < szL := by
          have := congrArg List.length e1
          rw [e2, List.length_map]
          rw [List.length_append, List.length_cons] at this
          unfold szL
          omega
        have nxt : ∀ b, b = entB many d → ∃ done', ds = done' ++ rest ∧ acc ++ [PyData.bool b] = done'.map fun d => .bool (entB many d) := fun b hb => ⟨done ++ [d], by rw [e1]; simp, by rw [e2, hb]; simp⟩
        decreasing_tactic
        refine integer_ok hd0 ?_
        decreasing_tactic
        cases d with
        | dict _ => exact hd0.elim
        | int i =>
          decreasing_tactic
          refine ite_d (fun h => ?_) (fun h => ?_)
          · decreasing_tactic
            exact ⟨ha, hdr, nxt _ (by simp only [entB, decide_eq_true h, Bool.true_and]), _, rfl⟩
          · decreasing_tactic
            exact ⟨ha, hdr, nxt _ (by simp only [entB, decide_eq_false h, Bool.false_and]), _, rfl⟩
        | _ =>
          decreasing_tactic
          exact ⟨ha, hdr, nxt _ rfl, _, rfl⟩
      · rintro acc _ ⟨_, ⟨done, e1, e2⟩, o, rfl⟩
        rw [List.append_nil] at e1
        subst e1
        subst e2
        decreasing_tactic
        refine so_rfl (a := .d (.bool ((ds.map (entB many)).all id))) (by show (boolsD _).map _ = _; rw [boolsD_map]; rfl) ?_
        decreasing_tactic
        have e : rowB (.tuple ds) letters many = (ds.map (entB many)).all id := by simp only [rowB, decide_eq_true h, Bool.true_and, rowL_all]
        rw [e] at k
        exact k
  | _ =>
    decreasing_tactic
    exact k
theorem moves_ok {n : Nat} {x : D} {letters : Int} {p : Option (List D)} (hx : nd x) (hw : wid x) {Q : R → Option (List D) → Prop} (k : Q (.d (.bool (movB x letters))) p) : WC fns (n + 60) 6 [.d x, .d (.int letters)] p Q := by
  rw [wc_def (fd := f6) rfl rfl rfl]
  show WB fns (n + 59) b6 { env := [some (.d x), some (.d (.int letters)), none], pen := p } _
  unfold b6
  refine wb_cons.mpr ?_
  have hx0 := nd_not hx
  cases x with
  | dict _ => exact hx0.elim
  | tuple ds =>
    simp only [wid] at hw
    obtain ⟨hlen, hws⟩ := hw
    have hrow := nd_tup hx
    have hwid := wid_all hws
    decreasing_tactic
    refine ite_d (fun h1 => ?_) (fun h1 => ?_)
    · decreasing_tactic
      refine ite_nd (fun h2 => ?_) (fun h2 => ?_)
      · decreasing_tactic
        have e : movB (.tuple ds) letters = false := by
          have : ¬ ds.length ≤ 32 := by omega
          simp only [movB, decide_eq_false this, Bool.and_false, Bool.false_and]
        rw [e] at k
        exact k
      · decreasing_tactic
        refine wlc_inv (fun rest acc g => (∀ d ∈ rest, d ∈ ds) ∧ (∃ done, ds = done ++ rest ∧ acc = done.map fun d => .bool (rowB d letters ds.length)) ∧ ∃ o : Option Sv, g = { env := [some (.d (.tuple ds)), some (.d (.int letters)), o], pen := p }) ?_ ?_ ⟨fun _ h => h, ⟨[], rfl, rfl⟩, _, rfl⟩
        · rintro d rest acc _ ⟨hd, ⟨done, e1, e2⟩, o, rfl⟩
          have hd0 := hd d List.mem_cons_self
          have ha : acc.length < szL := by
            have := congrArg List.length e1
            rw [e2, List.length_map]
            rw [List.length_append, List.length_cons] at this
            unfold szL
            omega
          decreasing_tactic
          refine row_ok (nd_not (hrow d hd0)) (fun es he => ?_) ?_
          · subst he
            have hw2 := hwid _ hd0
            simp only [wid] at hw2
            exact ⟨hw2.1, fun x hx => nd_not (nd_tup (hrow _ hd0) x hx)⟩
          · decreasing_tactic
            exact ⟨ha, fun x h => hd x (List.mem_cons_of_mem _ h), ⟨done ++ [d], by rw [e1]; simp, by rw [e2, e1]; simp⟩, _, rfl⟩
        · rintro acc _ ⟨_, ⟨done, e1, e2⟩, o, rfl⟩
          rw [List.append_nil] at e1
          subst e1
          subst e2
          decreasing_tactic
          refine so_rfl (a := .d (.bool ((ds.map fun d => rowB d letters ds.length).all id))) (by show (boolsD _).map _ = _; rw [boolsD_map]; rfl) ?_
          decreasing_tactic
          have e : movB (.tuple ds) letters = (ds.map fun d => rowB d letters ds.length).all id := by
            have a1 : 1 ≤ ds.length := by omega
            have a2 : ds.length ≤ 32 := by omega
            simp only [movB, decide_eq_true a1, decide_eq_true a2, Bool.true_and, List.all_map]
            rfl
          rw [e] at k
          exact k
    · decreasing_tactic
      have e : movB (.tuple ds) letters = false := by
        have : ¬ 1 ≤ ds.length := by omega
        simp only [movB, decide_eq_false this, Bool.false_and]
      rw [e] at k
      exact k
  | _ =>
    decreasing_tactic
    exact k
theorem machine_ok {n : Nat} {x : D} {p : Option (List D)} (hx : nd x) (hw : wid x) {Q : R → Option (List D) → Prop} (k : Q (.d (.bool (machB x))) p) : WC fns (n + 90) 0 [.d x] p Q := by
  rw [wc_def (fd := f0) rfl rfl rfl]
  show WB fns (n + 89) b0 { env := [some (.d x), none, none, none], pen := p } _
  unfold b0
  refine wb_cons.mpr ?_
  have hx0 := nd_not hx
  cases x with
  | dict _ => exact hx0.elim
  | tuple ds =>
    decreasing_tactic
    refine ite_nd (fun h => ?_) (fun h => ?_)
    · decreasing_tactic
      rw [machB_len (by omega)] at k
      exact k
    · obtain ⟨l, m, e, rfl⟩ := len3 (xs := ds) (by omega)
      have hn := nd_tup hx
      simp only [wid] at hw
      have hws := wid_all hw.2
      have nl := hn l (by simp)
      have nm := hn m (by simp)
      have ne := hn e (by simp)
      decreasing_tactic
      refine letters_ok (nd_not nl) ?_
      decreasing_tactic
      refine ite_b (fun h1 => ?_) (fun h1 => ?_)
      · cases l with
        | int i =>
          decreasing_tactic
          refine moves_ok nm (hws m (by simp)) ?_
          decreasing_tactic
          refine ite_b (fun h2 => ?_) (fun h2 => ?_)
          · cases m with
            | tuple ms =>
              decreasing_tactic
              refine standings_ok (nd_not ne) (fun es he => ?_) ?_
              · subst he
                exact fun x hx => nd_not (nd_tup ne x hx)
              · decreasing_tactic
                have e1 : machB (.tuple [.int i, .tuple ms, e]) = stdB e ms.length := by simp only [machB, movL, endB, h1, h2, Bool.true_and]
                rw [e1] at k
                exact k
            | _ => cases h2
          · decreasing_tactic
            have e1 : machB (.tuple [.int i, m, e]) = false := by simp only [machB, movL, h2, Bool.and_false, Bool.false_and]
            rw [e1, ← h2] at k
            exact k
        | _ => cases h1
      · decreasing_tactic
        have e1 : machB (.tuple [l, m, e]) = false := by simp only [machB, h1, Bool.false_and]
        rw [e1, ← h1] at k
        exact k
  | _ =>
    decreasing_tactic
    exact k
end K04
end
section
set_option Elab.async false
set_option linter.all false
set_option maxRecDepth 100000
set_option autoImplicit false
set_option maxHeartbeats 4000000
open PySem PySem.Spec
namespace K04
open DL L2 CL
local macro_rules | `(tactic| decreasing_tactic) => `(tactic| repeat (first | ((with_reducible apply slot_d); · exact rfl) | ((with_reducible apply so_rfl); · exact rfl) | ((with_reducible apply wo_rfl); · exact rfl) | ((with_reducible refine (wb_cons (s := IS.set _ _)).mpr ?_); try dsimp only [setD, setOwn, setDic, List.set_cons_zero, List.set_cons_succ]) | ((with_reducible refine (wb_cons (s := IS.ret _)).mpr ?_); try dsimp only [setD, setOwn, setDic, List.set_cons_zero, List.set_cons_succ]) | ((with_reducible refine (wb_cons (s := IS.sto _ _ _)).mpr ?_); try dsimp only [setD, setOwn, setDic, List.set_cons_zero, List.set_cons_succ]) | ((with_reducible refine (wb_cons (s := IS.app _ _)).mpr ?_); try dsimp only [setD, setOwn, setDic, List.set_cons_zero, List.set_cons_succ]) | ((with_reducible refine (wb_cons (s := IS.own _ _)).mpr ?_); try dsimp only [setD, setOwn, setDic, List.set_cons_zero, List.set_cons_succ]) | ((with_reducible refine (wb_cons (s := IS.exp _)).mpr ?_); try dsimp only [setD, setOwn, setDic, List.set_cons_zero, List.set_cons_succ]) | ((with_reducible refine (wb_cons (s := IS.unp _ _)).mpr ?_); try dsimp only [setD, setOwn, setDic, List.set_cons_zero, List.set_cons_succ]) | ((with_reducible refine (wb_cons (s := IS.par _ _ _ _ _ _)).mpr ?_); try dsimp only [setD, setOwn, setDic, List.set_cons_zero, List.set_cons_succ]) | ((with_reducible refine (wb_cons (s := IS.pen _ _)).mpr ?_); try dsimp only [setD, setOwn, setDic, List.set_cons_zero, List.set_cons_succ]) | ((with_reducible refine (wb_cons (s := IS.iff _ _ _) (ss := [])).mpr ?_); try dsimp only [setD, setOwn, setDic, List.set_cons_zero, List.set_cons_succ]) | with_reducible refine ws_set.mpr ?_ | with_reducible refine ws_ret.mpr ?_ | with_reducible refine ws_iff.mpr ?_ | with_reducible refine ws_own.mpr ?_ | with_reducible refine ws_for.mpr ?_ | with_reducible refine ws_exp.mpr ?_ | with_reducible refine ws_unp.mpr ?_ | with_reducible refine ws_par.mpr ?_ | with_reducible refine ws_pen.mpr ?_ | with_reducible refine wb_nil.mpr ?_ | with_reducible refine we_slot.mpr ?_ | with_reducible refine we_cst.mpr ?_ | with_reducible refine we_bin.mpr ?_ | with_reducible refine we_bi1.mpr ?_ | with_reducible refine we_cmp.mpr ?_ | with_reducible refine we_idx.mpr ?_ | with_reducible refine we_call.mpr ?_ | with_reducible refine we_bop.mpr ?_ | with_reducible refine we_not.mpr ?_ | with_reducible refine we_chn.mpr ?_ | with_reducible refine we_tup.mpr ?_ | with_reducible refine we_lst.mpr ?_ | with_reducible refine we_neg.mpr ?_ | with_reducible refine we_ife.mpr ?_ | with_reducible refine we_bi2.mpr ?_ | with_reducible refine we_rngL.mpr ?_ | with_reducible refine we_slc.mpr ?_ | with_reducible refine we_rev.mpr ?_ | with_reducible refine we_lc.mpr ?_ | with_reducible refine we_idxS.mpr ?_ | with_reducible refine wr_of ?_ | with_reducible refine wkp_of ?_ | with_reducible refine wp_n ?_ | with_reducible refine wp_s ?_ | with_reducible refine wds_cons.mpr ?_ | with_reducible refine wds_nil.mpr ?_ | with_reducible refine was_cons.mpr ?_ | with_reducible refine was_nil.mpr ?_ | with_reducible refine wt_bop.mpr ?_ | with_reducible refine wt_not.mpr ?_ | with_reducible refine wt_cmp.mpr ?_ | with_reducible refine wt_chn.mpr ?_ | with_reducible refine wt_call.mpr ?_ | with_reducible refine wt_bi1.mpr ?_ | with_reducible refine wt_slot.mpr ?_ | with_reducible refine wt_idx.mpr ?_ | with_reducible refine wits_seq.mpr ?_ | with_reducible refine wits_rng.mpr ?_ | with_reducible refine wits_enu.mpr ?_ | with_reducible refine wits_zip.mpr ?_ | with_reducible refine cnd_n ?_ | with_reducible refine cnd_s ?_ | with_reducible refine we_allG ?_ | with_reducible refine wt_allG ?_ | with_reducible refine we_join.mpr ?_ | with_reducible refine we_lam.mpr ?_ | with_reducible refine we_din.mpr ?_ | with_reducible refine wt_din.mpr ?_ | with_reducible refine we_dnew1.mpr ?_ | with_reducible refine we_dcomp.mpr ?_ | with_reducible refine wits_dic.mpr ?_ | with_reducible refine ws_aug.mpr ?_ | with_reducible refine ws_dput.mpr ?_ | with_reducible refine wt_any_callS.mpr ?_ | ((with_reducible apply dic_p); · exact rfl) | ((with_reducible apply int_p); · exact rfl) | ((with_reducible apply callS_of); · exact rfl) | ((with_reducible apply dget_of); · exact rfl) | ((with_reducible apply slot_dic); · exact rfl) | ((with_reducible apply slot_fn); · exact rfl) | ((with_reducible apply slot_ofn); · exact rfl; · exact rfl) | ((with_reducible apply ite_y); · exact rfl) | ((with_reducible apply ite_n); · exact rfl) | with_reducible refine sto_pen ?_ | ((with_reducible apply slot_pen); · exact rfl; · exact rfl) | ((with_reducible apply slot_own); · exact rfl) | ((with_reducible apply slot_scr); · exact rfl) | ((with_reducible apply so_id); refine so_ite ?_ ?_; · (first | decide | omega | exact mul_small (by omega) (by omega) (by omega) (by omega))) | ((fail_if_success (first | with_reducible apply wb_id | with_reducible apply wc_id | with_reducible apply wk_id | with_reducible apply wfor_id | with_reducible apply wlc_id)); refine ⟨_, _, rfl, rfl, ?_⟩) | ((fail_if_success (first | with_reducible apply wb_id | with_reducible apply wc_id | with_reducible apply wk_id | with_reducible apply wfor_id | with_reducible apply wlc_id)); refine ⟨rfl, ?_⟩) | ((fail_if_success (first | with_reducible apply wb_id | with_reducible apply wc_id | with_reducible apply wk_id | with_reducible apply wfor_id | with_reducible apply wlc_id)); refine ⟨_, _, _, rfl, rfl, rfl, rfl, ?_⟩)))
theorem take8 {n : Nat} {cs : List Int} {at_ cell many : Int} (h0 : 0 ≤ at_) (h1 : at_ ≤ 900000) (h2 : 1 ≤ many) (h3 : many < 2 ^ 60)
    {Q : R → Option (List D) → Prop} (k : ∀ z a c : Int, 0 ≤ z → z < many → at_ ≤ a → a ≤ at_ + 1 → Q (.d (.int z)) (some (Pn cs a c))) : WC fns (n + 50) 14 [.pen, .d (.int many)] (some (Pn cs at_ cell)) Q :=
  take_ok (nm := "_law_take") (nm2 := "_law_spread") (sp := 12) rfl rfl h0 h1 h2 h3 k
theorem one10 {n : Nat} {cs : List Int} {at_ cell : Int} {xs : List D} (h0 : 0 ≤ at_) (h1 : at_ ≤ 900000) (h2 : 1 ≤ xs.length) (h3 : xs.length < 1000000)
    {Q : R → Option (List D) → Prop} (k : ∀ x ∈ xs, ∀ a c : Int, at_ ≤ a → a ≤ at_ + 1 → Q (.d x) (some (Pn cs a c))) : WC fns (n + 60) 16 [.pen, .d (.list xs)] (some (Pn cs at_ cell)) Q :=
  one_ok (nm := "_law_one") (nm2 := "_law_spread") (nm3 := "_law_take") (tk := 14) (sp := 12) rfl rfl rfl h0 h1 h2 h3 k
theorem anew9 {n : Nat} {cs : List Int} {at_ cell : Int} {Q : R → Option (List D) → Prop} (k : Q .pen (some (Pn cs at_ 0))) : WC fns (n + 10) 15 [.pen] (some (Pn cs at_ cell)) Q := anew_ok (nm := "_law_anew") rfl k
theorem open7 {n : Nat} {ns : List Int} {Q : R → Option (List D) → Prop} (k : ∀ cs : List Int, cs.length ≤ 12 → Q (.fr (Pn cs 0 0)) none) : WC fns (n + 60) 13 [.scr ns] none Q := open_ok (nm := "_law_open") rfl k
theorem drawn_ok {n : Nat} {cs : List Int} {at_ cell letters many : Int} (h0 : 0 ≤ at_) (h1 : at_ ≤ 800000) (hl0 : 1 ≤ letters) (hl1 : letters ≤ 3) (hm0 : 1 ≤ many) (hm1 : many ≤ 40) {Q : R → Option (List D) → Prop}
    (k : ∀ (rows : List D) (ends : List Int) (a c : Int), at_ ≤ a → a ≤ at_ + 400 → (rows.length : Int) = many → (∀ r ∈ rows, RowI letters many r) → ends.length ≤ 40 → (∀ i ∈ ends, 0 ≤ i ∧ i < many) → ends.Pairwise (· < ·) → Q (.d (.tuple [.int letters, .tuple rows, .tuple (ends.map .int)])) (some (Pn cs a c))) :
    WC fns (n + 90) 17 [.pen, .d (.int letters), .d (.int many)] (some (Pn cs at_ cell)) Q := by
  rw [wc_def (fd := f17) rfl rfl rfl]
  show WB fns (n + 89) b17 { env := [some .pen, some (.d (.int letters)), some (.d (.int many)), none, none, none, none, none, none, none, none], pen := some (Pn cs at_ cell) } _
  unfold b17
  decreasing_tactic
  refine one10 h0 (by omega) (by simp only [List.length_cons, List.length_nil]; omega) (by simp only [List.length_cons, List.length_nil]; omega) fun x hx a0 c0 la0 ua0 => ?_
  obtain ⟨s, rfl⟩ : ∃ s : Int, x = .int s := by
    simp only [List.mem_cons, List.not_mem_nil, or_false] at hx
    rcases hx with rfl | rfl | rfl | rfl | rfl <;> exact ⟨_, rfl⟩
  decreasing_tactic
  refine wb_cons.mpr ?_
  decreasing_tactic
  obtain ⟨rs, er, lr, br, pr⟩ := rng_ints (m := many) (by omega) (by omega)
  rw [er]
  refine wfor_inv (fun rest g => ∃ (todo : List Int) (rows : List D) (a c : Int) (o3 o8 o9 o10 : Option Sv), rest = todo.map .int ∧ (rows.length : Int) + todo.length = many ∧ (∀ i ∈ todo, 0 ≤ i ∧ i < many) ∧ (∀ r ∈ rows, RowI letters many r) ∧ at_ ≤ a ∧ a ≤ at_ + 1 + 6 * rows.length ∧ g = { env := [some .pen, some (.d (.int letters)), some (.d (.int many)), o3, none, none, some (.d (.int s)), some (.own rows), o8, o9, o10], pen := some (Pn cs a c) }) ?_ ?_ ⟨rs, [], a0, c0, _, _, _, _, rfl, by simpa using lr, br, (fun r hr => nomatch hr), la0, by simpa using ua0, rfl⟩
  · rintro d rest _ ⟨todo, rows, a, c, o3, o8, o9, o10, e1, e2, e3, e4, la, ua, rfl⟩
    cases todo with
    | nil => cases e1
    | cons st todo =>
      rw [List.map_cons] at e1
      cases e1
      rw [List.length_cons] at e2
      have hst := e3 st List.mem_cons_self
      have e3' : ∀ i ∈ todo, 0 ≤ i ∧ i < many := fun i h => e3 i (List.mem_cons_of_mem _ h)
      have hrl : rows.length ≤ 39 := by omega
      decreasing_tactic
      refine wb_cons.mpr ?_
      decreasing_tactic
      obtain ⟨qs, eq, lq, bq, _⟩ := rng_ints (m := letters) (by omega) (by omega)
      rw [eq]
      refine wfor_inv (fun rest g => ∃ (todo2 row : List Int) (a c : Int) (o9 o10 : Option Sv), rest = todo2.map .int ∧ (row.length : Int) + todo2.length = letters ∧ (∀ i ∈ row, 0 ≤ i ∧ i < many) ∧ at_ ≤ a ∧ a ≤ at_ + 1 + 6 * rows.length + 2 * row.length ∧ g = { env := [some .pen, some (.d (.int letters)), some (.d (.int many)), some (.d (.int st)), none, none, some (.d (.int s)), some (.own rows), some (.own (row.map .int)), o9, o10], pen := some (Pn cs a c) }) ?_ ?_ ⟨qs, [], a, c, _, _, rfl, by simpa using lq, (fun r hr => nomatch hr), la, by simpa using ua, rfl⟩
      · rintro d rest2 _ ⟨todo2, row, a, c, o9, o10, e5, e6, e7, la, ua, rfl⟩
        cases todo2 with
        | nil => cases e5
        | cons nu todo2 =>
          rw [List.map_cons] at e5
          cases e5
          rw [List.length_cons] at e6
          have hrw : row.length ≤ 2 := by omega
          decreasing_tactic
          refine take8 (by omega) (by omega) hm0 (by omega) fun z a c hz0 hz1 la2 ua2 => ?_
          decreasing_tactic
          refine wb_cut (fun g1 => ∃ (to a' c' : Int), 0 ≤ to ∧ to < many ∧ a ≤ a' ∧ a' ≤ a + 1 ∧ g1 = { env := [some .pen, some (.d (.int letters)), some (.d (.int many)), some (.d (.int st)), none, none, some (.d (.int s)), some (.own rows), some (.own (row.map .int)), some (.d (.int nu)), some (.d (.int to))], pen := some (Pn cs a' c') }) ?_ ?_
          · decreasing_tactic
            refine ite_d (fun _ => ?_) (fun _ => ?_)
            · decreasing_tactic
              refine one10 (by omega) (by omega) (by simp only [List.length_cons, List.length_nil]; omega) (by simp only [List.length_cons, List.length_nil]; omega) fun x hx a3 c3 la3 ua3 => ?_
              obtain ⟨t, rfl, ht0⟩ : ∃ t : Int, x = .int t ∧ 0 ≤ t := by
                simp only [List.mem_cons, List.not_mem_nil, or_false] at hx
                rcases hx with rfl | rfl | rfl | rfl | rfl <;> exact ⟨_, rfl, by omega⟩
              decreasing_tactic
              refine ⟨_, a3, c3, ?_, ?_, la3, ua3, rfl⟩
              · split <;> omega
              · split <;> omega
            · decreasing_tactic
              refine ite_d (fun _ => ?_) (fun _ => ?_)
              · decreasing_tactic
                refine one10 (by omega) (by omega) (by simp only [List.length_cons, List.length_nil]; omega) (by simp only [List.length_cons, List.length_nil]; omega) fun x hx a3 c3 la3 ua3 => ?_
                obtain ⟨t, rfl, ht0, ht1⟩ : ∃ t : Int, x = .int t ∧ 0 ≤ t ∧ t < many := by
                  simp only [List.mem_cons, List.not_mem_nil, or_false] at hx
                  rcases hx with rfl | rfl | rfl | rfl
                  · exact ⟨_, rfl, by omega, by omega⟩
                  · exact ⟨_, rfl, by omega, by omega⟩
                  · exact ⟨_, rfl, by split <;> omega, by split <;> omega⟩
                  · exact ⟨_, rfl, by omega, by omega⟩
                decreasing_tactic
                exact ⟨t, a3, c3, ht0, ht1, la3, ua3, rfl⟩
              · decreasing_tactic
                exact ⟨z, a, c, hz0, hz1, by omega, by omega, rfl⟩
          · rintro _ ⟨to, a', c', ht0, ht1, la3, ua3, rfl⟩
            refine wb_cons.mpr ?_
            refine app_own trivial ?_
            decreasing_tactic
            refine ⟨_, rfl, by rw [List.length_map]; unfold szL; omega, ?_⟩
            decreasing_tactic
            refine ⟨todo2, row ++ [to], a', c', _, _, rfl, by simp only [List.length_append, List.length_cons, List.length_nil]; omega, ?_, by omega, by simp only [List.length_append, List.length_cons, List.length_nil]; omega, by rw [List.map_append]; rfl⟩
            intro i hi
            rcases List.mem_append.mp hi with h | h
            · exact e7 i h
            · cases List.mem_singleton.mp h
              exact ⟨ht0, ht1⟩
      · rintro _ ⟨todo2, row, a, c, o9, o10, e5, e6, e7, la, ua, rfl⟩
        cases todo2 with
        | cons _ _ => cases e5
        | nil =>
          rw [List.length_nil] at e6
          decreasing_tactic
          refine app_own trivial ?_
          decreasing_tactic
          refine ⟨_, rfl, by unfold szL; omega, ?_⟩
          decreasing_tactic
          refine ⟨todo, rows ++ [.tuple (row.map .int)], a, c, _, _, _, _, rfl, by simp only [List.length_append, List.length_cons, List.length_nil]; omega, e3', ?_, la, by simp only [List.length_append, List.length_cons, List.length_nil]; omega, rfl⟩
          intro r hr
          rcases List.mem_append.mp hr with h | h
          · exact e4 r h
          · cases List.mem_singleton.mp h
            exact ⟨row, rfl, by omega, e7⟩
  · rintro _ ⟨todo, rows, a, c, o3, o8, o9, o10, e1, e2, e3, e4, la, ua, rfl⟩
    cases todo with
    | cons _ _ => cases e1
    | nil =>
      rw [List.length_nil] at e2
      have ua' : a ≤ at_ + 250 := by omega
      clear ua
      decreasing_tactic
      refine one10 (by omega) (by omega) (by simp only [List.length_cons, List.length_nil]; omega) (by simp only [List.length_cons, List.length_nil]; omega) fun x hx a1 c1 la1 ua1 => ?_
      obtain ⟨od, rfl, hod0, hod1⟩ : ∃ t : Int, x = .int t ∧ 1 ≤ t ∧ t < 10 := by
        simp only [List.mem_cons, List.not_mem_nil, or_false] at hx
        rcases hx with rfl | rfl | rfl | rfl <;> exact ⟨_, rfl, by omega, by omega⟩
      decreasing_tactic
      rw [er]
      refine wlc_inv (fun rest acc g => ∃ (todo ends : List Int) (a c : Int) (o3 : Option Sv), rest = todo.map .int ∧ acc = ends.map .int ∧ (ends.length : Int) + todo.length ≤ many ∧ (∀ i ∈ todo, 0 ≤ i ∧ i < many) ∧ (∀ i ∈ ends, 0 ≤ i ∧ i < many) ∧ (ends ++ todo).Pairwise (· < ·) ∧ at_ ≤ a ∧ a + todo.length ≤ at_ + 300 ∧ g = { env := [some .pen, some (.d (.int letters)), some (.d (.int many)), o3, some (.d (.int od)), none, some (.d (.int s)), some (.own rows), o8, o9, o10], pen := some (Pn cs a c) }) ?_ ?_ ⟨rs, [], a1, c1, _, rfl, rfl, by simp only [List.length_nil]; omega, br, (fun r hr => nomatch hr), pr, by omega, by omega, rfl⟩
      · rintro d rest acc _ ⟨todo, ends, a, c, o3, e5, e6, e7, e8, e9, e10, la, ua, rfl⟩
        cases todo with
        | nil => cases e5
        | cons st todo =>
          rw [List.map_cons] at e5
          cases e5
          rw [List.length_cons] at e7 ua
          subst e6
          have hst := e8 st List.mem_cons_self
          have e8' : ∀ i ∈ todo, 0 ≤ i ∧ i < many := fun i h => e8 i (List.mem_cons_of_mem _ h)
          decreasing_tactic
          refine take8 (by omega) (by omega) hod0 (by omega) fun z a2 c2 hz0 hz1 la2 ua2 => ?_
          decreasing_tactic
          refine ite_d (fun _ => ?_) (fun _ => ?_)
          · decreasing_tactic
            refine ⟨by rw [List.length_map]; unfold szL; omega, todo, ends ++ [st], a2, c2, _, rfl, by rw [List.map_append]; rfl, by simp only [List.length_append, List.length_cons, List.length_nil]; omega, e8', ?_, by simpa using e10, by omega, by omega, rfl⟩
            intro i hi
            rcases List.mem_append.mp hi with h | h
            · exact e9 i h
            · cases List.mem_singleton.mp h
              exact hst
          · exact ⟨todo, ends, a2, c2, _, rfl, rfl, by omega, e8', e9, List.Pairwise.sublist (List.Sublist.append_left (List.sublist_cons_self _ _) _) e10, by omega, by omega, rfl⟩
      · rintro acc _ ⟨todo, ends, a, c, o3, e5, e6, e7, e8, e9, e10, la, ua, rfl⟩
        cases todo with
        | cons _ _ => cases e5
        | nil =>
          rw [List.length_nil] at e7 ua
          rw [List.append_nil] at e10
          subst e6
          decreasing_tactic
          refine wb_cut (fun g1 => ∃ (ends : List Int) (a c : Int) (o3 : Option Sv), ends.length ≤ 40 ∧ (∀ i ∈ ends, 0 ≤ i ∧ i < many) ∧ ends.Pairwise (· < ·) ∧ at_ ≤ a ∧ a ≤ at_ + 310 ∧ g1 = { env := [some .pen, some (.d (.int letters)), some (.d (.int many)), o3, some (.d (.int od)), some (.d (.list (ends.map .int))), some (.d (.int s)), some (.own rows), o8, o9, o10], pen := some (Pn cs a c) }) ?_ ?_
          · decreasing_tactic
            refine so_rfl (eq_nil _) ?_
            decreasing_tactic
            refine ite_b (fun he => ?_) (fun he => ?_)
            · decreasing_tactic
              refine take8 (by omega) (by omega) (by omega) (by omega) fun z a2 c2 hz0 hz1 la2 ua2 => ?_
              decreasing_tactic
              refine ite_d (fun _ => ?_) (fun _ => ?_)
              · decreasing_tactic
                refine take8 (by omega) (by omega) hm0 (by omega) fun z a3 c3 hz0 hz1 la3 ua3 => ?_
                decreasing_tactic
                exact ⟨[z], a3, c3, _, by simp, by intro i hi; cases List.mem_singleton.mp hi; exact ⟨hz0, hz1⟩, List.pairwise_singleton _ _, by omega, by omega, rfl⟩
              · decreasing_tactic
                exact ⟨ends, a2, c2, _, by omega, e9, e10, by omega, by omega, rfl⟩
            · rw [he]
              decreasing_tactic
              exact ⟨ends, a, c, _, by omega, e9, e10, by omega, by omega, rfl⟩
          · rintro _ ⟨ends, a, c, o3, he, hb, hp, la, ua, rfl⟩
            decreasing_tactic
            exact k rows ends a c la (by omega) (by omega) e4 he hb hp
end K04
end
section
set_option linter.all false
set_option autoImplicit false
namespace P04
/-! the search as one list that grows -/
section
variable {W S : Type} [DecidableEq S] (step : S → Nat → S) (ap : W → Nat → W)
def ex1 (es : List (W × S)) (w : W) (s : S) (j : Nat) : List (W × S) := if step s j ∈ es.map (·.2) then es else es ++ [(ap w j, step s j)]
def exU (es : List (W × S)) (w : W) (s : S) : Nat → List (W × S)
  | 0 => es
  | j + 1 => ex1 step ap (exU es w s j) w s j
def E (l : Nat) (z : W × S) : Nat → List (W × S)
  | 0 => [z]
  | i + 1 => match (E l z i)[i]? with
    | none => E l z i
    | some e => exU step ap (E l z i) e.1 e.2 l
variable {step ap}
theorem ex1_pre {es : List (W × S)} {w : W} {s : S} {j : Nat} : es <+: ex1 step ap es w s j := by
  unfold ex1; split
  · exact List.prefix_refl _
  · exact List.prefix_append _ _
theorem exU_pre {es : List (W × S)} {w : W} {s : S} : ∀ j : Nat, es <+: exU step ap es w s j
  | 0 => List.prefix_refl _
  | j + 1 => List.IsPrefix.trans (exU_pre j) ex1_pre
theorem E_pre1 {l : Nat} {z : W × S} (i : Nat) : E step ap l z i <+: E step ap l z (i + 1) := by
  show _ <+: (match (E step ap l z i)[i]? with | none => E step ap l z i | some e => exU step ap (E step ap l z i) e.1 e.2 l)
  split
  · exact List.prefix_refl _
  · exact exU_pre l
theorem E_pre {l : Nat} {z : W × S} {i k : Nat} (h : i ≤ k) : E step ap l z i <+: E step ap l z k := by
  induction k with
  | zero => obtain rfl := Nat.le_zero.mp h; exact List.prefix_refl _
  | succ k ih =>
    rcases Nat.lt_or_ge i (k + 1) with h1 | h1
    · exact List.IsPrefix.trans (ih (by omega)) (E_pre1 k)
    · obtain rfl : i = k + 1 := by omega
      exact List.prefix_refl _
theorem ex1_nd {es : List (W × S)} {w : W} {s : S} {j : Nat} (h : (es.map (·.2)).Nodup) : ((ex1 step ap es w s j).map (·.2)).Nodup := by
  unfold ex1; split
  · exact h
  · rename_i hn
    rw [List.map_append, List.nodup_append]
    refine ⟨h, by simp, ?_⟩
    intro a ha b hb e
    simp at hb
    exact hn (by rw [← hb, ← e]; exact ha)
theorem exU_nd {es : List (W × S)} {w : W} {s : S} (h : (es.map (·.2)).Nodup) : ∀ j, ((exU step ap es w s j).map (·.2)).Nodup
  | 0 => h
  | j + 1 => ex1_nd (exU_nd h j)
theorem E_nd {l : Nat} {z : W × S} : ∀ i, ((E step ap l z i).map (·.2)).Nodup
  | 0 => by simp [E]
  | i + 1 => by
    show (List.map (·.2) (match (E step ap l z i)[i]? with | none => E step ap l z i | some e => exU step ap (E step ap l z i) e.1 e.2 l)).Nodup
    split
    · exact E_nd i
    · exact exU_nd (E_nd i) l
/-! what holds of every entry -/
theorem exU_all {P : W × S → Prop} {l : Nat} {es : List (W × S)} {w : W} {s : S} (h : ∀ e ∈ es, P e) (hs : ∀ j, j < l → P (ap w j, step s j)) :
    ∀ j, j ≤ l → ∀ e ∈ exU step ap es w s j, P e
  | 0, _ => h
  | j + 1, hj => by
    intro e he
    unfold exU ex1 at he
    split at he
    · exact exU_all h hs j (by omega) e he
    · rcases List.mem_append.mp he with he | he
      · exact exU_all h hs j (by omega) e he
      · rw [List.mem_singleton.mp he]; exact hs j (by omega)
theorem E_all {P : W × S → Prop} {l : Nat} {z : W × S} (hz : P z) (hs : ∀ w s, P (w, s) → ∀ j, j < l → P (ap w j, step s j)) : ∀ i, ∀ e ∈ E step ap l z i, P e
  | 0 => by intro e he; rw [List.mem_singleton.mp he]; exact hz
  | i + 1 => by
    show ∀ e ∈ (match (E step ap l z i)[i]? with | none => E step ap l z i | some e => exU step ap (E step ap l z i) e.1 e.2 l), P e
    split
    · exact E_all hz hs i
    · rename_i e he
      exact exU_all (E_all hz hs i) (hs e.1 e.2 (E_all hz hs i e (List.mem_of_getElem? he))) l (Nat.le_refl _)
omit [DecidableEq S] in
theorem nd_len [BEq S] [LawfulBEq S] {a b : List S} (h : a.Nodup) (hs : ∀ x ∈ a, x ∈ b) : a.length ≤ b.length := by
  induction a generalizing b with
  | nil => exact Nat.zero_le _
  | cons x a ih =>
    have hx : x ∈ b := hs x (List.mem_cons_self ..)
    obtain ⟨hna, hda⟩ := List.nodup_cons.mp h
    have := ih (b := b.erase x) hda (fun y hy => (List.mem_erase_of_ne (fun e => hna (by rw [← e]; exact hy))).mpr (hs y (List.mem_cons_of_mem _ hy)))
    rw [List.length_erase_of_mem hx] at this
    have := List.length_pos_of_mem hx
    simp only [List.length_cons]; omega
theorem E_len {l : Nat} {z : W × S} {U : List S} (hz : z.2 ∈ U) (hs : ∀ s ∈ U, ∀ j, j < l → step s j ∈ U) (i : Nat) : (E step ap l z i).length ≤ U.length := by
  have := nd_len (E_nd (step := step) (ap := ap) (l := l) (z := z) i) (b := U) (fun x hx => by
    obtain ⟨e, he, rfl⟩ := List.mem_map.mp hx
    exact E_all (P := fun e => e.2 ∈ U) hz (fun w s h j hj => hs s h j hj) i e he)
  simpa using this
theorem E_stop {l : Nat} {z : W × S} {i k : Nat} (h : (E step ap l z i).length ≤ i) (hk : i ≤ k) : E step ap l z k = E step ap l z i := by
  induction k with
  | zero => obtain rfl := Nat.le_zero.mp hk; rfl
  | succ k ih =>
    rcases Nat.lt_or_ge i (k + 1) with h1 | h1
    · have e := ih (by omega)
      have hn : (E step ap l z k)[k]? = none := by rw [e]; exact List.getElem?_eq_none (by omega)
      show (match (E step ap l z k)[k]? with | none => E step ap l z k | some e => exU step ap (E step ap l z k) e.1 e.2 l) = _
      rw [hn]; exact e
    · obtain rfl : i = k + 1 := by omega
      rfl
theorem E_succ {l : Nat} {z : W × S} {i : Nat} {e : W × S} (h : (E step ap l z i)[i]? = some e) : E step ap l z (i + 1) = exU step ap (E step ap l z i) e.1 e.2 l := by
  show (match (E step ap l z i)[i]? with | none => E step ap l z i | some e => exU step ap (E step ap l z i) e.1 e.2 l) = _
  rw [h]
theorem E_none {l : Nat} {z : W × S} {i : Nat} (h : (E step ap l z i)[i]? = none) : E step ap l z (i + 1) = E step ap l z i := by
  show (match (E step ap l z i)[i]? with | none => E step ap l z i | some e => exU step ap (E step ap l z i) e.1 e.2 l) = _
  rw [h]
/-- what the search gives: the first word whose state is a goal -/
def fst (g : S → Bool) (es : List (W × S)) : Option W := ((es.filter (fun e => g e.2)).map (·.1)).head?
theorem fst_hit {g : S → Bool} {l : Nat} {z : W × S} {i N : Nat} {e : W × S} (hb : ∀ k, (E step ap l z k).length ≤ N) (h : (E step ap l z i)[i]? = some e) (hg : g e.2 = true)
    (hn : ∀ k, k < i → ∀ e, (E step ap l z i)[k]? = some e → g e.2 = false) : fst g (E step ap l z N) = some e.1 := by
  have hi : i < (E step ap l z i).length := (List.getElem?_eq_some_iff.mp h).1
  have hiN : i ≤ N := by have := hb i; omega
  obtain ⟨r, hr⟩ := E_pre (step := step) (ap := ap) (l := l) (z := z) hiN
  unfold fst
  rw [← hr]
  have h1 : E step ap l z i = (E step ap l z i).take i ++ e :: (E step ap l z i).drop (i + 1) := by
    obtain ⟨_, h2⟩ := List.getElem?_eq_some_iff.mp h
    rw [← h2, ← List.drop_eq_getElem_cons hi, List.take_append_drop]
  have h3 : ((E step ap l z i).take i).filter (fun e => g e.2) = [] := by
    rw [List.filter_eq_nil_iff]
    intro a ha
    obtain ⟨k, hk, rfl⟩ := List.mem_iff_getElem.mp ha
    have hk2 : k < i := by simp at hk; omega
    rw [List.getElem_take]
    rw [hn k hk2 _ (List.getElem?_eq_getElem (by omega))]; simp
  rw [h1, List.filter_append, List.filter_append, h3]
  simp [hg]
theorem fst_miss {g : S → Bool} {l : Nat} {z : W × S} {i N : Nat} (hi : i ≤ N) (h : (E step ap l z i).length ≤ i) (hn : ∀ k, k < i → ∀ e, (E step ap l z i)[k]? = some e → g e.2 = false) :
    fst g (E step ap l z N) = none := by
  rw [E_stop h hi]
  unfold fst
  have h3 : (E step ap l z i).filter (fun e => g e.2) = [] := by
    rw [List.filter_eq_nil_iff]
    intro a ha
    obtain ⟨k, hk, rfl⟩ := List.mem_iff_getElem.mp ha
    rw [hn k (by omega) _ (List.getElem?_eq_getElem hk)]; simp
  rw [h3]; rfl
end
/-! the two states the other way round -/
section
variable {W : Type} {step step' : Int × Int → Nat → Int × Int} {ap : W → Nat → W}
def sw (e : W × (Int × Int)) : W × (Int × Int) := (e.1, (e.2.2, e.2.1))
theorem sw_mem {s : Int × Int} {es : List (W × (Int × Int))} : (s.2, s.1) ∈ (es.map sw).map (·.2) ↔ s ∈ es.map (·.2) := by
  simp only [List.mem_map, sw]
  constructor
  · rintro ⟨_, ⟨e, he, rfl⟩, h⟩
    refine ⟨e, he, ?_⟩
    have h1 := congrArg Prod.fst h; have h2 := congrArg Prod.snd h
    exact Prod.ext h2 h1
  · rintro ⟨e, he, rfl⟩
    exact ⟨_, ⟨e, he, rfl⟩, rfl⟩
theorem exU_sw (hs : ∀ s j, step' (s.2, s.1) j = ((step s j).2, (step s j).1)) {es : List (W × (Int × Int))} {w : W} {s : Int × Int} : ∀ j, exU step' ap (es.map sw) w (s.2, s.1) j = (exU step ap es w s j).map sw
  | 0 => rfl
  | j + 1 => by
    unfold exU
    rw [exU_sw hs j]
    unfold ex1
    rw [hs]
    by_cases h : step s j ∈ (exU step ap es w s j).map (·.2)
    · rw [if_pos h, if_pos (sw_mem.mpr h)]
    · rw [if_neg h, if_neg (fun c => h (sw_mem.mp c)), List.map_append]; rfl
theorem E_sw (hs : ∀ s j, step' (s.2, s.1) j = ((step s j).2, (step s j).1)) {l : Nat} {w : W} : ∀ i, E step' ap l (w, (0, 0)) i = (E step ap l (w, (0, 0)) i).map sw
  | 0 => rfl
  | i + 1 => by
    have e1 := E_sw hs (l := l) (w := w) i
    have e2 : (E step' ap l (w, (0, 0)) i)[i]? = ((E step ap l (w, (0, 0)) i)[i]?).map sw := by rw [e1, List.getElem?_map]
    cases h : (E step ap l (w, (0, 0)) i)[i]? with
    | none =>
      rw [h] at e2
      rw [E_none e2, E_none h]; exact e1
    | some e =>
      rw [h] at e2
      rw [E_succ (e := sw e) e2, E_succ h, e1]
      exact exU_sw hs l
theorem fst_sw {g g' : Int × Int → Bool} (hg : ∀ s, g' (s.2, s.1) = g s) {es : List (W × (Int × Int))} : fst g' (es.map sw) = fst g es := by
  unfold fst
  rw [List.filter_map, List.map_map]
  congr 1
  have : ((fun e : W × (Int × Int) => g' e.2) ∘ sw) = fun e => g e.2 := by funext e; exact hg e.2
  rw [this]
  rfl
end
end P04
end
section
set_option Elab.async false
set_option linter.all false
set_option maxRecDepth 100000
set_option autoImplicit false
set_option maxHeartbeats 4000000
open PySem PySem.Spec
namespace K04
open DL L2 CL
local macro_rules | `(tactic| decreasing_tactic) => `(tactic| repeat (first | ((with_reducible apply slot_d); · exact rfl) | ((with_reducible apply so_rfl); · exact rfl) | ((with_reducible apply wo_rfl); · exact rfl) | ((with_reducible refine (wb_cons (s := IS.set _ _)).mpr ?_); try dsimp only [setD, setOwn, setDic, List.set_cons_zero, List.set_cons_succ]) | ((with_reducible refine (wb_cons (s := IS.ret _)).mpr ?_); try dsimp only [setD, setOwn, setDic, List.set_cons_zero, List.set_cons_succ]) | ((with_reducible refine (wb_cons (s := IS.sto _ _ _)).mpr ?_); try dsimp only [setD, setOwn, setDic, List.set_cons_zero, List.set_cons_succ]) | ((with_reducible refine (wb_cons (s := IS.app _ _)).mpr ?_); try dsimp only [setD, setOwn, setDic, List.set_cons_zero, List.set_cons_succ]) | ((with_reducible refine (wb_cons (s := IS.own _ _)).mpr ?_); try dsimp only [setD, setOwn, setDic, List.set_cons_zero, List.set_cons_succ]) | ((with_reducible refine (wb_cons (s := IS.exp _)).mpr ?_); try dsimp only [setD, setOwn, setDic, List.set_cons_zero, List.set_cons_succ]) | ((with_reducible refine (wb_cons (s := IS.unp _ _)).mpr ?_); try dsimp only [setD, setOwn, setDic, List.set_cons_zero, List.set_cons_succ]) | ((with_reducible refine (wb_cons (s := IS.par _ _ _ _ _ _)).mpr ?_); try dsimp only [setD, setOwn, setDic, List.set_cons_zero, List.set_cons_succ]) | ((with_reducible refine (wb_cons (s := IS.pen _ _)).mpr ?_); try dsimp only [setD, setOwn, setDic, List.set_cons_zero, List.set_cons_succ]) | ((with_reducible refine (wb_cons (s := IS.iff _ _ _) (ss := [])).mpr ?_); try dsimp only [setD, setOwn, setDic, List.set_cons_zero, List.set_cons_succ]) | with_reducible refine ws_set.mpr ?_ | with_reducible refine ws_ret.mpr ?_ | with_reducible refine ws_iff.mpr ?_ | with_reducible refine ws_own.mpr ?_ | with_reducible refine ws_for.mpr ?_ | with_reducible refine ws_exp.mpr ?_ | with_reducible refine ws_unp.mpr ?_ | with_reducible refine ws_par.mpr ?_ | with_reducible refine ws_pen.mpr ?_ | with_reducible refine wb_nil.mpr ?_ | with_reducible refine we_slot.mpr ?_ | with_reducible refine we_cst.mpr ?_ | with_reducible refine we_bin.mpr ?_ | with_reducible refine we_bi1.mpr ?_ | with_reducible refine we_cmp.mpr ?_ | with_reducible refine we_idx.mpr ?_ | with_reducible refine we_call.mpr ?_ | with_reducible refine we_bop.mpr ?_ | with_reducible refine we_not.mpr ?_ | with_reducible refine we_chn.mpr ?_ | with_reducible refine we_tup.mpr ?_ | with_reducible refine we_lst.mpr ?_ | with_reducible refine we_neg.mpr ?_ | with_reducible refine we_ife.mpr ?_ | with_reducible refine we_bi2.mpr ?_ | with_reducible refine we_rngL.mpr ?_ | with_reducible refine we_slc.mpr ?_ | with_reducible refine we_rev.mpr ?_ | with_reducible refine we_lc.mpr ?_ | with_reducible refine we_idxS.mpr ?_ | with_reducible refine wr_of ?_ | with_reducible refine wkp_of ?_ | with_reducible refine wp_n ?_ | with_reducible refine wp_s ?_ | with_reducible refine wds_cons.mpr ?_ | with_reducible refine wds_nil.mpr ?_ | with_reducible refine was_cons.mpr ?_ | with_reducible refine was_nil.mpr ?_ | with_reducible refine wt_bop.mpr ?_ | with_reducible refine wt_not.mpr ?_ | with_reducible refine wt_cmp.mpr ?_ | with_reducible refine wt_chn.mpr ?_ | with_reducible refine wt_call.mpr ?_ | with_reducible refine wt_bi1.mpr ?_ | with_reducible refine wt_slot.mpr ?_ | with_reducible refine wt_idx.mpr ?_ | with_reducible refine wits_seq.mpr ?_ | with_reducible refine wits_rng.mpr ?_ | with_reducible refine wits_enu.mpr ?_ | with_reducible refine wits_zip.mpr ?_ | with_reducible refine cnd_n ?_ | with_reducible refine cnd_s ?_ | with_reducible refine we_allG ?_ | with_reducible refine wt_allG ?_ | with_reducible refine we_join.mpr ?_ | with_reducible refine we_lam.mpr ?_ | with_reducible refine we_din.mpr ?_ | with_reducible refine wt_din.mpr ?_ | with_reducible refine we_dnew1.mpr ?_ | with_reducible refine we_dcomp.mpr ?_ | with_reducible refine wits_dic.mpr ?_ | with_reducible refine ws_aug.mpr ?_ | with_reducible refine ws_dput.mpr ?_ | with_reducible refine wt_any_callS.mpr ?_ | ((with_reducible apply dic_p); · exact rfl) | ((with_reducible apply int_p); · exact rfl) | ((with_reducible apply callS_of); · exact rfl) | ((with_reducible apply dget_of); · exact rfl) | ((with_reducible apply slot_dic); · exact rfl) | ((with_reducible apply slot_fn); · exact rfl) | ((with_reducible apply slot_ofn); · exact rfl; · exact rfl) | ((with_reducible apply ite_y); · exact rfl) | ((with_reducible apply ite_n); · exact rfl) | with_reducible refine sto_pen ?_ | ((with_reducible apply slot_pen); · exact rfl; · exact rfl) | ((with_reducible apply slot_own); · exact rfl) | ((with_reducible apply slot_scr); · exact rfl) | ((with_reducible apply so_id); refine so_ite ?_ ?_; · (first | decide | omega | exact mul_small (by omega) (by omega) (by omega) (by omega))) | ((fail_if_success (first | with_reducible apply wb_id | with_reducible apply wc_id | with_reducible apply wk_id | with_reducible apply wfor_id | with_reducible apply wlc_id)); refine ⟨_, _, rfl, rfl, ?_⟩) | ((fail_if_success (first | with_reducible apply wb_id | with_reducible apply wc_id | with_reducible apply wk_id | with_reducible apply wfor_id | with_reducible apply wlc_id)); refine ⟨rfl, ?_⟩) | ((fail_if_success (first | with_reducible apply wb_id | with_reducible apply wc_id | with_reducible apply wk_id | with_reducible apply wfor_id | with_reducible apply wlc_id)); refine ⟨_, _, _, rfl, rfl, rfl, rfl, ?_⟩)))
open P04
def rowsD (nss : List (List Int)) : D := .tuple (nss.map fun ns => .tuple (ns.map .int))
def mv (nss : List (List Int)) (s : Int) (j : Nat) : Int := (nss.getD s.toNat []).getD j 0
def st2 (A B : List (List Int)) (s : Int × Int) (j : Nat) : Int × Int := (mv A s.1 j, mv B s.2 j)
def pD (s : Int × Int) : D := .tuple [.int s.1, .int s.2]
theorem mv_at {l many : Int} {nss : List (List Int)} {ends : List Int} (M : Mok l many nss ends) {s : Int} (h0 : 0 ≤ s) (h1 : s < many) :
    idxD (rowsD nss) (.int s) = some (.tuple ((nss.getD s.toNat []).map .int)) := by
  obtain ⟨e, _⟩ := row_at M h0 h1
  obtain ⟨i, rfl⟩ := Int.eq_ofNat_of_zero_le h0
  exact L2.atI_nat (by rw [List.getElem?_map, show nss[i]? = _ from e]; rfl)
theorem mv_rng {l many : Int} {nss : List (List Int)} {ends : List Int} (M : Mok l many nss ends) {s : Int} (h0 : 0 ≤ s) (h1 : s < many) {j : Nat} (hj : (j : Int) < l) :
    idxD (.tuple ((nss.getD s.toNat []).map .int)) (.int (j : Int)) = some (.int (mv nss s j)) ∧ 0 ≤ mv nss s j ∧ mv nss s j < many := by
  obtain ⟨_, e2⟩ := row_at M h0 h1
  obtain ⟨r1, r2⟩ := M.row _ e2
  have hl : j < (nss.getD s.toNat []).length := by omega
  have e : (nss.getD s.toNat [])[j]? = some (mv nss s j) := by
    unfold mv
    rw [List.getD_eq_getElem?_getD (l := nss.getD s.toNat []), List.getElem?_eq_getElem hl]; rfl
  exact ⟨L2.atI_nat (by rw [List.getElem?_map, e]; rfl), r2 _ (List.mem_of_getElem? e)⟩
section
variable {l m1 m2 : Int} {A B : List (List Int)} {ea eb : List Int}
def inR (m1 m2 : Int) (s : Int × Int) : Prop := (0 ≤ s.1 ∧ s.1 < m1) ∧ 0 ≤ s.2 ∧ s.2 < m2
/-- the step of pairs: a closure -/
theorem step_ok (M1 : Mok l m1 A ea) (M2 : Mok l m2 B eb) {n : Nat} {s : Int × Int} (hs : inR m1 m2 s) {j : Nat} (hj : (j : Int) < l) {p : Option (List D)} {Q : R → Option (List D) → Prop} (k : Q (.d (pD (st2 A B s j))) p) :
    WK fns (n + 20) 22 [.d (rowsD A), .d (rowsD B)] [.d (pD s), .d (.int (j : Int))] p Q := by
  rw [wk_def (fd := f22) rfl rfl rfl rfl]
  show WB fns (n + 19) b22 { env := [some (.d (.tuple [.int s.1, .int s.2])), some (.d (.int (j : Int))), some (.d (rowsD A)), some (.d (rowsD B))], pen := p } _
  unfold b22
  decreasing_tactic
  refine so_rfl (mv_at M1 hs.1.1 hs.1.2) ?_
  decreasing_tactic
  refine so_rfl (mv_rng M1 hs.1.1 hs.1.2 hj).1 ?_
  decreasing_tactic
  refine so_rfl (mv_at M2 hs.2.1 hs.2.2) ?_
  decreasing_tactic
  refine so_rfl (mv_rng M2 hs.2.1 hs.2.2 hj).1 ?_
  decreasing_tactic
  exact k
theorem step1_ok (M1 : Mok l m1 A ea) (M2 : Mok l m2 B eb) {n : Nat} {s : Int × Int} (hs : inR m1 m2 s) {j : Nat} (hj : (j : Int) < l) {p : Option (List D)} {Q : R → Option (List D) → Prop} (k : Q (.fr [pD (st2 A B s j)]) p) :
    WK fns (n + 30) 21 [.fn 22 [.d (rowsD A), .d (rowsD B)]] [.d (pD s), .d (.int (j : Int))] p Q := by
  rw [wk_def (fd := f21) rfl rfl rfl rfl]
  show WB fns (n + 29) b21 { env := [some (.d (pD s)), some (.d (.int (j : Int))), some (.fn 22 [.d (rowsD A), .d (rowsD B)])], pen := p } _
  unfold b21
  decreasing_tactic
  refine step_ok M1 M2 hs hj ?_
  decreasing_tactic
  exact k
/-- the goal: a closure -/
def gl (ea eb : List Int) (s : Int × Int) : Bool := (decide (s.1 ∈ ea)) != (decide (s.2 ∈ eb))
theorem in_mem (s : Int) (ns : List Int) : inD (.int s) (.tuple (ns.map .int)) = some (decide (s ∈ ns)) := by
  rw [in_ints]
  congr 1
  rw [Bool.eq_iff_iff, List.any_eq_true, decide_eq_true_iff]
  constructor
  · rintro ⟨z, hz, e⟩
    obtain ⟨i, hi, rfl⟩ := List.mem_map.mp hz
    have : i = s := by
      have e' : decide (i = s) = true := e
      exact of_decide_eq_true e'
    rw [← this]; exact hi
  · intro h
    exact ⟨_, List.mem_map.mpr ⟨s, h, rfl⟩, (decide_eq_true rfl : decide (s = s) = true)⟩
theorem goal_ok {n : Nat} {s : Int × Int} {p : Option (List D)} {Q : R → Option (List D) → Prop} (k : Q (.d (.bool (gl ea eb s))) p) :
    WK fns (n + 20) 23 [.d (machD l A ea), .d (machD l B eb)] [.d (pD s)] p Q := by
  rw [wk_def (fd := f23) rfl rfl rfl rfl]
  show WB fns (n + 19) b23 { env := [some (.d (.tuple [.int s.1, .int s.2])), some (.d (.tuple [.int l, rowsD A, .tuple (ea.map .int)])), some (.d (.tuple [.int l, rowsD B, .tuple (eb.map .int)]))], pen := p } _
  unfold b23
  decreasing_tactic
  refine so_rfl (in_mem _ _) ?_
  decreasing_tactic
  refine so_rfl (in_mem _ _) ?_
  decreasing_tactic
  exact k
end
end K04
end
section
set_option Elab.async false
set_option linter.all false
set_option maxRecDepth 100000
set_option autoImplicit false
set_option maxHeartbeats 4000000
open PySem PySem.Spec
namespace K04
open DL L2 CL
open P04
/-! all pairs -/
def allP (a b : Nat) : List (Int × Int) := (List.range a).flatMap fun (x : Nat) => (List.range b).map fun (y : Nat) => ((x : Int), (y : Int))
theorem allP_len (b : Nat) : ∀ a, (allP a b).length = a * b
  | 0 => by simp [allP]
  | a + 1 => by
    have := allP_len b a
    unfold allP at this ⊢
    rw [List.range_succ, List.flatMap_append, List.length_append, this, Nat.succ_mul]
    simp
theorem allP_mem {a b : Nat} {s : Int × Int} (h : inR a b s) : s ∈ allP a b := by
  obtain ⟨⟨h1, h2⟩, h3, h4⟩ := h
  refine List.mem_flatMap.mpr ⟨s.1.toNat, List.mem_range.mpr (by omega), List.mem_map.mpr ⟨s.2.toNat, List.mem_range.mpr (by omega), ?_⟩⟩
  exact Prod.ext (by simp; omega) (by simp; omega)
theorem allP_rng {a b : Nat} {s : Int × Int} (h : s ∈ allP a b) : inR a b s := by
  obtain ⟨x, hx, h⟩ := List.mem_flatMap.mp h
  obtain ⟨y, hy, rfl⟩ := List.mem_map.mp h
  have := List.mem_range.mp hx; have := List.mem_range.mp hy
  exact ⟨⟨by simp, by simp; omega⟩, by simp, by simp; omega⟩
/-! keys -/
def nk (s : Int × Int) : NestedKey := .tup [.num s.1, .num s.2]
theorem nk_of (s : Int × Int) : nkD (pD s) = some (nk s) := rfl
theorem nk_inj {s t : Int × Int} : nkD (pD s) = some (nk t) ↔ s = t := by
  rw [nk_of]
  constructor
  · intro h
    have h2 := Option.some.inj h
    unfold nk at h2
    injection h2 with h3
    injection h3 with h4 h5
    injection h4 with h4
    injection h5 with h5 _
    injection h5 with h5
    exact Prod.ext h4 h5
  · rintro rfl; rfl
theorem key_of (s : Int × Int) : keyD true (pD s) = some (nk s) := by
  unfold keyD
  rw [if_pos (by rfl), nk_of]
  show (if (nk s).depth ≤ 8 then _ else _) = _
  rw [if_pos (by simp [nk, NestedKey.depth, NestedKey.depthAll])]
section
variable {W : Type} (f : W × (Int × Int) → D)
def dD (es : List (W × (Int × Int))) : List (D × D) := es.map fun e => (pD e.2, f e)
theorem find_none {es : List (W × (Int × Int))} {s : Int × Int} : s ∉ es.map (·.2) → dfind (dD f es) (nk s) = none := by
  induction es with
  | nil => intro _; rfl
  | cons e es ih =>
    intro h
    rw [List.map_cons, List.mem_cons, not_or] at h
    show (if nkD (pD e.2) = some (nk s) then some (f e) else dfind (dD f es) (nk s)) = none
    rw [if_neg (fun c => h.1 (nk_inj.mp c).symm)]
    exact ih h.2
theorem find_some {es : List (W × (Int × Int))} {e : W × (Int × Int)} (hd : (es.map (·.2)).Nodup) : e ∈ es → dfind (dD f es) (nk e.2) = some (f e) := by
  induction es with
  | nil => intro h; cases h
  | cons a es ih =>
    intro h
    rw [List.map_cons, List.nodup_cons] at hd
    show (if nkD (pD a.2) = some (nk e.2) then some (f a) else dfind (dD f es) (nk e.2)) = some (f e)
    rcases List.mem_cons.mp h with rfl | h
    · rw [if_pos (nk_of _)]
    · rw [if_neg (fun c => hd.1 (by rw [nk_inj.mp c]; exact List.mem_map.mpr ⟨e, h, rfl⟩))]
      exact ih hd.2 h
theorem find_is {es : List (W × (Int × Int))} {s : Int × Int} (hd : (es.map (·.2)).Nodup) : (dfind (dD f es) (nk s)).isSome = decide (s ∈ es.map (·.2)) := by
  by_cases h : s ∈ es.map (·.2)
  · obtain ⟨e, he, rfl⟩ := List.mem_map.mp h
    rw [find_some f hd he, decide_eq_true h]; rfl
  · rw [find_none f h, decide_eq_false h]; rfl
theorem store_new {es : List (W × (Int × Int))} {w : W} {s : Int × Int} (h : s ∉ es.map (·.2)) : dstore (dD f es) (pD s) (nk s) (f (w, s)) = dD f (es ++ [(w, s)]) := by
  unfold dstore
  rw [find_none f h]
  simp [dD]
end
/-! words -/
def ltr (j : Nat) : Str := ⟨#[97 + j]⟩
def apS (w : Str) (j : Nat) : Str := w ++ ltr j
theorem apS_len (w : Str) (j : Nat) : (apS w j).length = w.length + 1 := by
  show (w.cps ++ #[97 + j]).size = w.cps.size + 1
  simp
theorem ltr_at {j : Nat} (h : j < 3) : idxD (.str "abc") (.int (j : Int)) = some (.str (ltr j)) := by
  match j, h with
  | 0, _ => rfl
  | 1, _ => rfl
  | 2, _ => rfl
end K04
end
section
set_option Elab.async false
set_option linter.all false
set_option maxRecDepth 100000
set_option autoImplicit false
set_option maxHeartbeats 4000000
open PySem PySem.Spec
namespace K04
open DL L2 CL
open P04
theorem rng_step {L j : Nat} {f : Nat → D} {d : D} {ds : List D} (h : d :: ds = ((List.range L).drop j).map f) : j < L ∧ d = f j ∧ ds = ((List.range L).drop (j + 1)).map f := by
  by_cases c : j < L
  · rw [List.drop_eq_getElem_cons (by simpa using c), List.map_cons, List.getElem_range] at h
    injection h with h1 h2
    exact ⟨c, h1, h2⟩
  · rw [List.drop_of_length_le (by simp; omega)] at h
    cases h
theorem rng_end {L j : Nat} {f : Nat → D} (h : [] = ((List.range L).drop j).map f) : L ≤ j := by
  have := congrArg List.length h
  simp at this
  omega
def grpD (es : List (Str × (Int × Int))) : List D := es.map fun e => .tuple [.str e.1, .list [pD e.2]]
abbrev seenD (es : List (Str × (Int × Int))) : List (D × D) := dD (fun _ => .bool true) es
def resD : Option Str → D
  | none => .none
  | some w => .str w
section
variable {l m1 m2 : Int} {A B : List (List Int)} {ea eb : List Int}
abbrev EE (A B : List (List Int)) (l : Int) (i : Nat) : List (Str × (Int × Int)) := E (st2 A B) apS l.toNat (("" : Str), ((0 : Int), (0 : Int))) i
theorem st2_rng (M1 : Mok l m1 A ea) (M2 : Mok l m2 B eb) {s : Int × Int} (hs : inR m1 m2 s) {j : Nat} (hj : (j : Int) < l) : inR m1 m2 (st2 A B s j) :=
  ⟨(mv_rng M1 hs.1.1 hs.1.2 hj).2, (mv_rng M2 hs.2.1 hs.2.2 hj).2⟩
theorem EE_rng (M1 : Mok l m1 A ea) (M2 : Mok l m2 B eb) (i : Nat) : ∀ e ∈ EE A B l i, inR m1 m2 e.2 := by
  have := M1.m0; have := M2.m0; have := M1.l0
  exact E_all (P := fun e => inR m1 m2 e.2) ⟨⟨by decide, by show (0 : Int) < m1; omega⟩, by decide, by show (0 : Int) < m2; omega⟩ (fun w s h j hj => st2_rng M1 M2 h (by omega)) i
theorem EE_len (M1 : Mok l m1 A ea) (M2 : Mok l m2 B eb) (i : Nat) : (EE A B l i).length ≤ m1.toNat * m2.toNat := by
  have a0 := M1.m0; have b0 := M2.m0; have := M1.l0
  have e1 : ((m1.toNat : Nat) : Int) = m1 := by omega
  have e2 : ((m2.toNat : Nat) : Int) = m2 := by omega
  rw [← allP_len]
  refine E_len (allP_mem ⟨⟨by decide, by show (0 : Int) < _; omega⟩, by decide, by show (0 : Int) < _; omega⟩) (fun s hs j hj => ?_) i
  have := allP_rng hs
  rw [e1, e2] at this
  have := st2_rng M1 M2 this (j := j) (by omega)
  rw [← e1, ← e2] at this
  exact allP_mem this
theorem U_le (M1 : Mok l m1 A ea) (M2 : Mok l m2 B eb) : m1.toNat * m2.toNat ≤ 1024 := by
  have a1 := M1.m1; have b1 := M2.m1
  exact Nat.le_trans (Nat.mul_le_mul (show m1.toNat ≤ 32 by omega) (show m2.toNat ≤ 32 by omega)) (by decide)
theorem EE_word : ∀ (i : Nat), ∀ e ∈ EE A B l i, e.1.length ≤ i
  | 0 => by intro e he; rw [List.mem_singleton.mp he]; exact Nat.le_refl _
  | i + 1 => by
    cases h : (EE A B l i)[i]? with
    | none => intro e he; rw [show EE A B l (i + 1) = _ from E_none h] at he; exact Nat.le_succ_of_le (EE_word i e he)
    | some e0 =>
      intro e he
      rw [show EE A B l (i + 1) = _ from E_succ h] at he
      refine exU_all (P := fun e => e.1.length ≤ i + 1) (fun e he => Nat.le_succ_of_le (EE_word i e he)) (fun j _ => ?_) _ (Nat.le_refl _) e he
      show (apS e0.1 j).length ≤ i + 1
      rw [apS_len]
      exact Nat.succ_le_succ (EE_word i e0 (List.mem_of_getElem? h))
theorem exU_lenU (M1 : Mok l m1 A ea) (M2 : Mok l m2 B eb) {i : Nat} {e : Str × (Int × Int)} (h : (EE A B l i)[i]? = some e) {j : Nat} (hj : j ≤ l.toNat) : (exU (st2 A B) apS (EE A B l i) e.1 e.2 j).length ≤ m1.toNat * m2.toNat := by
  have h1 := EE_len M1 M2 (i + 1)
  rw [show EE A B l (i + 1) = _ from E_succ h] at h1
  refine Nat.le_trans ?_ h1
  have : ∀ k, j ≤ k → (exU (st2 A B) apS (EE A B l i) e.1 e.2 j).length ≤ (exU (st2 A B) apS (EE A B l i) e.1 e.2 k).length := by
    intro k
    induction k with
    | zero => intro h; obtain rfl := Nat.le_zero.mp h; exact Nat.le_refl _
    | succ k ih =>
      intro h
      rcases Nat.lt_or_ge j (k + 1) with h2 | h2
      · exact Nat.le_trans (ih (by omega)) (ex1_pre.length_le)
      · obtain rfl : j = k + 1 := by omega
        exact Nat.le_refl _
  exact this _ hj
end
end K04
end
section
set_option Elab.async false
set_option linter.all false
set_option maxRecDepth 100000
set_option autoImplicit false
set_option maxHeartbeats 4000000
open PySem PySem.Spec
namespace K04
open DL L2 CL
local macro_rules | `(tactic| decreasing_tactic) => `(tactic| repeat (first | ((with_reducible apply slot_d); · exact rfl) | ((with_reducible apply so_rfl); · exact rfl) | ((with_reducible apply wo_rfl); · exact rfl) | ((with_reducible refine (wb_cons (s := IS.set _ _)).mpr ?_); try dsimp only [setD, setOwn, setDic, List.set_cons_zero, List.set_cons_succ]) | ((with_reducible refine (wb_cons (s := IS.ret _)).mpr ?_); try dsimp only [setD, setOwn, setDic, List.set_cons_zero, List.set_cons_succ]) | ((with_reducible refine (wb_cons (s := IS.sto _ _ _)).mpr ?_); try dsimp only [setD, setOwn, setDic, List.set_cons_zero, List.set_cons_succ]) | ((with_reducible refine (wb_cons (s := IS.app _ _)).mpr ?_); try dsimp only [setD, setOwn, setDic, List.set_cons_zero, List.set_cons_succ]) | ((with_reducible refine (wb_cons (s := IS.own _ _)).mpr ?_); try dsimp only [setD, setOwn, setDic, List.set_cons_zero, List.set_cons_succ]) | ((with_reducible refine (wb_cons (s := IS.exp _)).mpr ?_); try dsimp only [setD, setOwn, setDic, List.set_cons_zero, List.set_cons_succ]) | ((with_reducible refine (wb_cons (s := IS.unp _ _)).mpr ?_); try dsimp only [setD, setOwn, setDic, List.set_cons_zero, List.set_cons_succ]) | ((with_reducible refine (wb_cons (s := IS.par _ _ _ _ _ _)).mpr ?_); try dsimp only [setD, setOwn, setDic, List.set_cons_zero, List.set_cons_succ]) | ((with_reducible refine (wb_cons (s := IS.pen _ _)).mpr ?_); try dsimp only [setD, setOwn, setDic, List.set_cons_zero, List.set_cons_succ]) | ((with_reducible refine (wb_cons (s := IS.iff _ _ _) (ss := [])).mpr ?_); try dsimp only [setD, setOwn, setDic, List.set_cons_zero, List.set_cons_succ]) | with_reducible refine ws_set.mpr ?_ | with_reducible refine ws_ret.mpr ?_ | with_reducible refine ws_iff.mpr ?_ | with_reducible refine ws_own.mpr ?_ | with_reducible refine ws_for.mpr ?_ | with_reducible refine ws_exp.mpr ?_ | with_reducible refine ws_unp.mpr ?_ | with_reducible refine ws_par.mpr ?_ | with_reducible refine ws_pen.mpr ?_ | with_reducible refine wb_nil.mpr ?_ | with_reducible refine we_slot.mpr ?_ | with_reducible refine we_cst.mpr ?_ | with_reducible refine we_bin.mpr ?_ | with_reducible refine we_bi1.mpr ?_ | with_reducible refine we_cmp.mpr ?_ | with_reducible refine we_idx.mpr ?_ | with_reducible refine we_call.mpr ?_ | with_reducible refine we_bop.mpr ?_ | with_reducible refine we_not.mpr ?_ | with_reducible refine we_chn.mpr ?_ | with_reducible refine we_tup.mpr ?_ | with_reducible refine we_lst.mpr ?_ | with_reducible refine we_neg.mpr ?_ | with_reducible refine we_ife.mpr ?_ | with_reducible refine we_bi2.mpr ?_ | with_reducible refine we_rngL.mpr ?_ | with_reducible refine we_slc.mpr ?_ | with_reducible refine we_rev.mpr ?_ | with_reducible refine we_lc.mpr ?_ | with_reducible refine we_idxS.mpr ?_ | with_reducible refine wr_of ?_ | with_reducible refine wkp_of ?_ | with_reducible refine wp_n ?_ | with_reducible refine wp_s ?_ | with_reducible refine wds_cons.mpr ?_ | with_reducible refine wds_nil.mpr ?_ | with_reducible refine was_cons.mpr ?_ | with_reducible refine was_nil.mpr ?_ | with_reducible refine wt_bop.mpr ?_ | with_reducible refine wt_not.mpr ?_ | with_reducible refine wt_cmp.mpr ?_ | with_reducible refine wt_chn.mpr ?_ | with_reducible refine wt_call.mpr ?_ | with_reducible refine wt_bi1.mpr ?_ | with_reducible refine wt_slot.mpr ?_ | with_reducible refine wt_idx.mpr ?_ | with_reducible refine wits_seq.mpr ?_ | with_reducible refine wits_rng.mpr ?_ | with_reducible refine wits_enu.mpr ?_ | with_reducible refine wits_zip.mpr ?_ | with_reducible refine cnd_n ?_ | with_reducible refine cnd_s ?_ | with_reducible refine we_allG ?_ | with_reducible refine wt_allG ?_ | with_reducible refine we_join.mpr ?_ | with_reducible refine we_lam.mpr ?_ | with_reducible refine we_din.mpr ?_ | with_reducible refine wt_din.mpr ?_ | with_reducible refine we_dnew1.mpr ?_ | with_reducible refine we_dcomp.mpr ?_ | with_reducible refine wits_dic.mpr ?_ | with_reducible refine ws_aug.mpr ?_ | with_reducible refine ws_dput.mpr ?_ | with_reducible refine wt_any_callS.mpr ?_ | ((with_reducible apply dic_p); · exact rfl) | ((with_reducible apply int_p); · exact rfl) | ((with_reducible apply callS_of); · exact rfl) | ((with_reducible apply dget_of); · exact rfl) | ((with_reducible apply slot_dic); · exact rfl) | ((with_reducible apply slot_fn); · exact rfl) | ((with_reducible apply slot_ofn); · exact rfl; · exact rfl) | ((with_reducible apply ite_y); · exact rfl) | ((with_reducible apply ite_n); · exact rfl) | with_reducible refine sto_pen ?_ | ((with_reducible apply slot_pen); · exact rfl; · exact rfl) | ((with_reducible apply slot_own); · exact rfl) | ((with_reducible apply slot_scr); · exact rfl) | ((with_reducible apply so_id); refine so_ite ?_ ?_; · (first | decide | omega | exact mul_small (by omega) (by omega) (by omega) (by omega))) | ((fail_if_success (first | with_reducible apply wb_id | with_reducible apply wc_id | with_reducible apply wk_id | with_reducible apply wfor_id | with_reducible apply wlc_id)); refine ⟨_, _, rfl, rfl, ?_⟩) | ((fail_if_success (first | with_reducible apply wb_id | with_reducible apply wc_id | with_reducible apply wk_id | with_reducible apply wfor_id | with_reducible apply wlc_id)); refine ⟨rfl, ?_⟩) | ((fail_if_success (first | with_reducible apply wb_id | with_reducible apply wc_id | with_reducible apply wk_id | with_reducible apply wfor_id | with_reducible apply wlc_id)); refine ⟨_, _, _, rfl, rfl, rfl, rfl, ?_⟩)))
open P04
section
variable {l m1 m2 : Int} {A B : List (List Int)} {ea eb : List Int}
abbrev stepF (A B : List (List Int)) : Sv := .fn 21 [.fn 22 [.d (rowsD A), .d (rowsD B)]]
abbrev goalF (l : Int) (A B : List (List Int)) (ea eb : List Int) : Sv := .fn 23 [.d (machD l A ea), .d (machD l B eb)]
/-- one word's letters -/
abbrev bL : List IS := [.own 11 (.lst []), .for_ (.one 8) .seq [(.slot 10)] [.for_ (.one 12) .seq [(.callS 2 [(.slot 8), (.slot 7)])] [.iff (.din true 4 (.slot 12)) [.dput 4 (.slot 12) (.cst (.bool true)), .app 11 (.slot 12)] []]], .iff (.slot 11) [.app 5 (.tup [(.bin .Add (.slot 9) (.idx (.cst (.str "abc")) (.slot 7))), (.slot 11)])] []]
theorem lets_ok (M1 : Mok l m1 A ea) (M2 : Mok l m2 B eb) {i : Nat} {w : Str} {s : Int × Int} (he : (EE A B l i)[i]? = some (w, s)) {n : Nat} {p : Option (List D)} {o0 o1 o3 o6 o7 o8 o11 o12 : Option Sv} {Q : Fl → G → Prop}
    (k : ∀ o7 o8 o11 o12, Q .nx { env := [o0, o1, some (stepF A B), o3, some (.dic true (seenD (EE A B l (i + 1)))), some (.own (grpD (EE A B l (i + 1)))), o6, o7, o8, some (.d (.str w)), some (.d (.list [pD s])), o11, o12], pen := p }) :
    WFor fns (n + 60) (.one 7) bL ((List.range l.toNat).map fun (i : Nat) => PyData.int (0 + (i : Int))) { env := [o0, o1, some (stepF A B), o3, some (.dic true (seenD (EE A B l i))), some (.own (grpD (EE A B l i))), o6, o7, o8, some (.d (.str w)), some (.d (.list [pD s])), o11, o12], pen := p } Q := by
  have hr := EE_rng M1 M2 i (w, s) (List.mem_of_getElem? he)
  have hw := EE_word i (w, s) (List.mem_of_getElem? he)
  have hU := U_le M1 M2
  have hi : i < (EE A B l i).length := (List.getElem?_eq_some_iff.mp he).1
  have hU1 := EE_len M1 M2 (l := l) i
  have l0 := M1.l0
  have l1 := M1.l1
  refine wfor_inv (fun rest g => ∃ (j : Nat) (o7 o8 o11 o12 : Option Sv), j ≤ l.toNat ∧ rest = ((List.range l.toNat).drop j).map (fun (i : Nat) => PyData.int (0 + (i : Int))) ∧
    g = { env := [o0, o1, some (stepF A B), o3, some (.dic true (seenD (exU (st2 A B) apS (EE A B l i) w s j))), some (.own (grpD (exU (st2 A B) apS (EE A B l i) w s j))), o6, o7, o8, some (.d (.str w)), some (.d (.list [pD s])), o11, o12], pen := p }) ?_ ?_ ⟨0, _, _, _, _, Nat.zero_le _, rfl, rfl⟩
  · rintro d ds _ ⟨j, o7, o8, o11, o12, hj, hd, rfl⟩
    obtain ⟨hj, rfl, rfl⟩ := rng_step hd
    have hjl : (j : Int) < l := by omega
    have hnd := exU_nd (step := st2 A B) (ap := apS) (w := w) (s := s) (E_nd (step := st2 A B) (ap := apS) (l := l.toNat) (z := (("" : Str), ((0 : Int), (0 : Int)))) i) j
    have hlen := exU_lenU M1 M2 he (Nat.le_of_lt hj)
    have hnext : exU (st2 A B) apS (EE A B l i) w s (j + 1) = ex1 (st2 A B) apS (exU (st2 A B) apS (EE A B l i) w s j) w s j := rfl
    generalize exU (st2 A B) apS (EE A B l i) w s j = es at *
    refine so_rfl (by show some _ = some _; rw [Int.zero_add]) ?_
    refine wb_cons.mpr ?_
    decreasing_tactic
    refine wb_cut (fun g1 => ∃ (o8 o12 : Option Sv), g1 = { env := [o0, o1, some (stepF A B), o3, some (.dic true (seenD (ex1 (st2 A B) apS es w s j))), some (.own (grpD es)), o6, some (.d (.int (j : Int))), o8, some (.d (.str w)), some (.d (.list [pD s])), some (.own (if st2 A B s j ∈ es.map (·.2) then [] else [pD (st2 A B s j)])), o12], pen := p }) ?_ ?_
    · decreasing_tactic
      refine wfor_cons.mpr ?_
      decreasing_tactic
      refine wb_cons.mpr ?_
      dsimp only [setD, setOwn, setDic, List.set_cons_zero, List.set_cons_succ]
      decreasing_tactic
      refine step1_ok M1 M2 hr hjl ?_
      decreasing_tactic
      refine wfor_cons.mpr ?_
      decreasing_tactic
      have hz : es.length < szL := by unfold szL; omega
      have hf : (dfind (seenD es) (NestedKey.tup [NestedKey.num (st2 A B s j).fst, NestedKey.num (st2 A B s j).snd])).isSome = decide (st2 A B s j ∈ es.map (·.2)) := find_is _ hnd
      rw [hf]
      by_cases hm : st2 A B s j ∈ es.map (·.2)
      · have hx : ex1 (st2 A B) apS es w s j = es := by unfold ex1; rw [if_pos hm]
        rw [decide_eq_true hm, hx, if_pos hm]
        decreasing_tactic
        exact wfor_nil.mpr (wb_nil.mpr (wfor_nil.mpr ⟨_, _, rfl⟩))
      · have hx : ex1 (st2 A B) apS es w s j = es ++ [(apS w j, st2 A B s j)] := by unfold ex1; rw [if_neg hm]
        rw [decide_eq_false hm, hx, if_neg hm]
        decreasing_tactic
        refine wb_cons.mpr ?_
        decreasing_tactic
        refine ⟨dic_p rfl trivial, ?_⟩
        decreasing_tactic
        have hst : dstore (seenD es) (pD (st2 A B s j)) (NestedKey.tup [NestedKey.num (st2 A B s j).fst, NestedKey.num (st2 A B s j).snd]) (.bool true) = seenD (es ++ [(apS w j, st2 A B s j)]) := store_new (fun _ => .bool true) hm
        refine ⟨by rw [show (seenD es).length = es.length from List.length_map ..]; exact hz, ?_⟩
        rw [hst]
        dsimp only [setD, setOwn, setDic, List.set_cons_zero, List.set_cons_succ]
        refine wb_cons.mpr ?_
        refine app_own trivial ?_
        decreasing_tactic
        exact ⟨_, rfl, by decide, wb_nil.mpr (wb_nil.mpr (wfor_nil.mpr (wb_nil.mpr (wfor_nil.mpr ⟨_, _, rfl⟩))))⟩
    · rintro _ ⟨o8, o12, rfl⟩
      have hz : es.length < szL := by unfold szL; omega
      decreasing_tactic
      by_cases hm : st2 A B s j ∈ es.map (·.2)
      · have hx : ex1 (st2 A B) apS es w s j = es := by unfold ex1; rw [if_pos hm]
        rw [if_pos hm]
        rw [hx] at hnext ⊢
        refine ite_f (wb_nil.mpr (wb_nil.mpr ⟨j + 1, some (.d (.int (j : Int))), o8, some (.own []), o12, hj, rfl, ?_⟩))
        rw [hnext]
      · have hx : ex1 (st2 A B) apS es w s j = es ++ [(apS w j, st2 A B s j)] := by unfold ex1; rw [if_neg hm]
        rw [if_neg hm]
        rw [hx] at hnext ⊢
        refine ite_t ?_
        refine wb_cons.mpr ?_
        refine app_own trivial ?_
        decreasing_tactic
        refine so_rfl (ltr_at (by omega)) ?_
        decreasing_tactic
        refine so_ite ?_ ?_
        · show w.length + 1 ≤ szL
          unfold szL
          have hw2 : w.length ≤ i := hw
          omega
        decreasing_tactic
        refine ⟨_, rfl, ?_, wb_nil.mpr (wb_nil.mpr ⟨j + 1, some (.d (.int (j : Int))), o8, some (.d (.list [pD (st2 A B s j)])), o12, hj, rfl, ?_⟩)⟩
        · rw [show (grpD es).length = es.length from List.length_map ..]; exact hz
        · rw [hnext]
          dsimp only [setD, setOwn, setDic, List.set_cons_zero, List.set_cons_succ]
          rw [show grpD (es ++ [(apS w j, st2 A B s j)]) = grpD es ++ [.tuple [.str (w ++ ltr j), .list [pD (st2 A B s j)]]] from List.map_append ..]
  · rintro _ ⟨j, o7, o8, o11, o12, hj, hd, rfl⟩
    have := rng_end hd
    obtain rfl : j = l.toNat := by omega
    have e := E_succ he
    rw [show exU (st2 A B) apS (EE A B l i) w s l.toNat = EE A B l (i + 1) from e.symm]
    exact k _ _ _ _
end
end K04
end
section
set_option Elab.async false
set_option linter.all false
set_option maxRecDepth 100000
set_option autoImplicit false
set_option maxHeartbeats 4000000
open PySem PySem.Spec
namespace K04
open DL L2 CL
local macro_rules | `(tactic| decreasing_tactic) => `(tactic| repeat (first | ((with_reducible apply slot_d); · exact rfl) | ((with_reducible apply so_rfl); · exact rfl) | ((with_reducible apply wo_rfl); · exact rfl) | ((with_reducible refine (wb_cons (s := IS.set _ _)).mpr ?_); try dsimp only [setD, setOwn, setDic, List.set_cons_zero, List.set_cons_succ]) | ((with_reducible refine (wb_cons (s := IS.ret _)).mpr ?_); try dsimp only [setD, setOwn, setDic, List.set_cons_zero, List.set_cons_succ]) | ((with_reducible refine (wb_cons (s := IS.sto _ _ _)).mpr ?_); try dsimp only [setD, setOwn, setDic, List.set_cons_zero, List.set_cons_succ]) | ((with_reducible refine (wb_cons (s := IS.app _ _)).mpr ?_); try dsimp only [setD, setOwn, setDic, List.set_cons_zero, List.set_cons_succ]) | ((with_reducible refine (wb_cons (s := IS.own _ _)).mpr ?_); try dsimp only [setD, setOwn, setDic, List.set_cons_zero, List.set_cons_succ]) | ((with_reducible refine (wb_cons (s := IS.exp _)).mpr ?_); try dsimp only [setD, setOwn, setDic, List.set_cons_zero, List.set_cons_succ]) | ((with_reducible refine (wb_cons (s := IS.unp _ _)).mpr ?_); try dsimp only [setD, setOwn, setDic, List.set_cons_zero, List.set_cons_succ]) | ((with_reducible refine (wb_cons (s := IS.par _ _ _ _ _ _)).mpr ?_); try dsimp only [setD, setOwn, setDic, List.set_cons_zero, List.set_cons_succ]) | ((with_reducible refine (wb_cons (s := IS.pen _ _)).mpr ?_); try dsimp only [setD, setOwn, setDic, List.set_cons_zero, List.set_cons_succ]) | ((with_reducible refine (wb_cons (s := IS.iff _ _ _) (ss := [])).mpr ?_); try dsimp only [setD, setOwn, setDic, List.set_cons_zero, List.set_cons_succ]) | with_reducible refine ws_set.mpr ?_ | with_reducible refine ws_ret.mpr ?_ | with_reducible refine ws_iff.mpr ?_ | with_reducible refine ws_own.mpr ?_ | with_reducible refine ws_for.mpr ?_ | with_reducible refine ws_exp.mpr ?_ | with_reducible refine ws_unp.mpr ?_ | with_reducible refine ws_par.mpr ?_ | with_reducible refine ws_pen.mpr ?_ | with_reducible refine wb_nil.mpr ?_ | with_reducible refine we_slot.mpr ?_ | with_reducible refine we_cst.mpr ?_ | with_reducible refine we_bin.mpr ?_ | with_reducible refine we_bi1.mpr ?_ | with_reducible refine we_cmp.mpr ?_ | with_reducible refine we_idx.mpr ?_ | with_reducible refine we_call.mpr ?_ | with_reducible refine we_bop.mpr ?_ | with_reducible refine we_not.mpr ?_ | with_reducible refine we_chn.mpr ?_ | with_reducible refine we_tup.mpr ?_ | with_reducible refine we_lst.mpr ?_ | with_reducible refine we_neg.mpr ?_ | with_reducible refine we_ife.mpr ?_ | with_reducible refine we_bi2.mpr ?_ | with_reducible refine we_rngL.mpr ?_ | with_reducible refine we_slc.mpr ?_ | with_reducible refine we_rev.mpr ?_ | with_reducible refine we_lc.mpr ?_ | with_reducible refine we_idxS.mpr ?_ | with_reducible refine wr_of ?_ | with_reducible refine wkp_of ?_ | with_reducible refine wp_n ?_ | with_reducible refine wp_s ?_ | with_reducible refine wds_cons.mpr ?_ | with_reducible refine wds_nil.mpr ?_ | with_reducible refine was_cons.mpr ?_ | with_reducible refine was_nil.mpr ?_ | with_reducible refine wt_bop.mpr ?_ | with_reducible refine wt_not.mpr ?_ | with_reducible refine wt_cmp.mpr ?_ | with_reducible refine wt_chn.mpr ?_ | with_reducible refine wt_call.mpr ?_ | with_reducible refine wt_bi1.mpr ?_ | with_reducible refine wt_slot.mpr ?_ | with_reducible refine wt_idx.mpr ?_ | with_reducible refine wits_seq.mpr ?_ | with_reducible refine wits_rng.mpr ?_ | with_reducible refine wits_enu.mpr ?_ | with_reducible refine wits_zip.mpr ?_ | with_reducible refine cnd_n ?_ | with_reducible refine cnd_s ?_ | with_reducible refine we_allG ?_ | with_reducible refine wt_allG ?_ | with_reducible refine we_join.mpr ?_ | with_reducible refine we_lam.mpr ?_ | with_reducible refine we_din.mpr ?_ | with_reducible refine wt_din.mpr ?_ | with_reducible refine we_dnew1.mpr ?_ | with_reducible refine we_dcomp.mpr ?_ | with_reducible refine wits_dic.mpr ?_ | with_reducible refine ws_aug.mpr ?_ | with_reducible refine ws_dput.mpr ?_ | with_reducible refine wt_any_callS.mpr ?_ | ((with_reducible apply dic_p); · exact rfl) | ((with_reducible apply int_p); · exact rfl) | ((with_reducible apply callS_of); · exact rfl) | ((with_reducible apply dget_of); · exact rfl) | ((with_reducible apply slot_dic); · exact rfl) | ((with_reducible apply slot_fn); · exact rfl) | ((with_reducible apply slot_ofn); · exact rfl; · exact rfl) | ((with_reducible apply ite_y); · exact rfl) | ((with_reducible apply ite_n); · exact rfl) | with_reducible refine sto_pen ?_ | ((with_reducible apply slot_pen); · exact rfl; · exact rfl) | ((with_reducible apply slot_own); · exact rfl) | ((with_reducible apply slot_scr); · exact rfl) | ((with_reducible apply so_id); refine so_ite ?_ ?_; · (first | decide | omega | exact mul_small (by omega) (by omega) (by omega) (by omega))) | ((fail_if_success (first | with_reducible apply wb_id | with_reducible apply wc_id | with_reducible apply wk_id | with_reducible apply wfor_id | with_reducible apply wlc_id)); refine ⟨_, _, rfl, rfl, ?_⟩) | ((fail_if_success (first | with_reducible apply wb_id | with_reducible apply wc_id | with_reducible apply wk_id | with_reducible apply wfor_id | with_reducible apply wlc_id)); refine ⟨rfl, ?_⟩) | ((fail_if_success (first | with_reducible apply wb_id | with_reducible apply wc_id | with_reducible apply wk_id | with_reducible apply wfor_id | with_reducible apply wlc_id)); refine ⟨_, _, _, rfl, rfl, rfl, rfl, ?_⟩)))
open P04
section
variable {l m1 m2 : Int} {A B : List (List Int)} {ea eb : List Int}
abbrev UU (m1 m2 : Int) : Nat := m1.toNat * m2.toNat
theorem some_ok (M1 : Mok l m1 A ea) (M2 : Mok l m2 B eb) {n : Nat} {p : Option (List D)} {Q : R → Option (List D) → Prop}
    (k : Q (.d (resD (fst (gl ea eb) (EE A B l (UU m1 m2))))) p) :
    WC fns (n + 90) 9 [.d (.int l), .d (.list [pD (0, 0)]), stepF A B, goalF l A B ea eb] p Q := by
  have hU := U_le M1 M2
  have l0 := M1.l0
  have l1 := M1.l1
  rw [wc_def (fd := f9) rfl rfl rfl]
  show WB fns (n + 89) b9 { env := [some (.d (.int l)), some (.d (.list [pD (0, 0)])), some (stepF A B), some (goalF l A B ea eb), none, none, none, none, none, none, none, none, none], pen := p } _
  unfold b9
  refine wb_cut (fun g1 => g1 = { env := [some (.d (.int l)), some (.d (.list [pD (0, 0)])), some (stepF A B), some (goalF l A B ea eb), some (.dic true (seenD (EE A B l 0))), none, none, none, none, none, none, none, none], pen := p }) ?_ ?_
  · decreasing_tactic
    refine wdc_cons.mpr ?_
    dsimp only [setD, setOwn, setDic, List.set_cons_zero, List.set_cons_succ, wipeE]
    decreasing_tactic
    exact ⟨by decide, wdc_nil.mpr rfl⟩
  · rintro _ rfl
    decreasing_tactic
    refine wb_cons.mpr ?_
    refine ws_whl.mpr ?_
    dsimp only [setD, setOwn, setDic, List.set_cons_zero, List.set_cons_succ]
    refine wwh_inv (fun m g => ∃ (i : Nat) (o7 o8 o9 o10 o11 o12 : Option Sv), m + i = UU m1 m2 ∧ i ≤ (EE A B l i).length ∧ (∀ k, k < i → ∀ e, (EE A B l i)[k]? = some e → gl ea eb e.2 = false) ∧
      g = { env := [some (.d (.int l)), some (.d (.list [pD (0, 0)])), some (stepF A B), some (goalF l A B ea eb), some (.dic true (seenD (EE A B l i))), some (.own (grpD (EE A B l i))), some (.d (.int (i : Int))), o7, o8, o9, o10, o11, o12], pen := p }) ?_ whF (UU m1 m2) _ ?_ ?_
    · rintro m _ ⟨i, o7, o8, o9, o10, o11, o12, hm, hi, hn, rfl⟩
      decreasing_tactic
      show if decide ((i : Int) < ((grpD (EE A B l i)).length : Int)) = true then _ else _
      rw [show (grpD (EE A B l i)).length = (EE A B l i).length from List.length_map ..]
      have hU1 := EE_len M1 M2 (l := l) i
      refine ite_d (fun c => ?_) (fun c => ?_)
      · have c2 : i < (EE A B l i).length := by omega
        obtain ⟨⟨w, s⟩, he⟩ : ∃ e, (EE A B l i)[i]? = some e := ⟨_, List.getElem?_eq_getElem c2⟩
        obtain ⟨m', rfl⟩ : ∃ m', m = m' + 1 := ⟨m - 1, by unfold UU at hm; omega⟩
        refine ⟨m', rfl, ?_⟩
        decreasing_tactic
        refine so_rfl (a := .tuple [.str w, .list [pD s]]) (L2.atI_nat (by unfold grpD; rw [List.getElem?_map, he]; rfl)) ?_
        decreasing_tactic
        dsimp only [setD, setOwn, setDic, List.set_cons_zero, List.set_cons_succ]
        refine wb_cons.mpr ?_
        decreasing_tactic
        refine wlc_cons.mpr ?_
        dsimp only [setD, setOwn, setDic, List.set_cons_zero, List.set_cons_succ, wipeE]
        decreasing_tactic
        dsimp only [setD, setOwn, setDic, List.set_cons_zero, List.set_cons_succ, wipeE]
        refine goal_ok ?_
        decreasing_tactic
        refine ⟨by decide, wlc_nil.mpr ?_⟩
        dsimp only [setD, setOwn, setDic, List.set_cons_zero, List.set_cons_succ, wipeE]
        decreasing_tactic
        cases hg : gl ea eb s with
        | true =>
          rw [if_pos (by rfl)]
          have hf := fst_hit (g := gl ea eb) (fun k => EE_len M1 M2 k) he hg hn
          rw [show fst (gl ea eb) (EE A B l (UU m1 m2)) = some w from hf] at k
          decreasing_tactic
          exact k
        | false =>
          rw [if_neg (by decide)]
          decreasing_tactic
          refine wb_cons.mpr ?_
          refine ws_for.mpr (wits_rng1 ?_)
          decreasing_tactic
          refine rng1_mk l.toNat (by omega) (by omega) ?_
          refine lets_ok M1 M2 he fun o7 o8 o11 o12 => ?_
          refine wb_cons.mpr ?_
          decreasing_tactic
          have h1 := EE_len M1 M2 (l := l) (i + 1)
          have hp := (E_pre1 (step := st2 A B) (ap := apS) (l := l.toNat) (z := (("" : Str), ((0 : Int), (0 : Int)))) i)
          have h2 : (EE A B l i).length ≤ (EE A B l (i + 1)).length := hp.length_le
          refine ⟨m', Nat.le_refl _, i + 1, _, _, _, _, _, _, by omega, by omega, ?_, rfl⟩
          intro k' hk' e' he'
          have h3 : (EE A B l i)[k']? = some e' := by
            rw [List.getElem?_eq_getElem (show k' < (EE A B l i).length by omega), hp.getElem, ← he', List.getElem?_eq_getElem]
          rcases Nat.lt_or_ge k' i with q | q
          · exact hn k' q e' h3
          · obtain rfl : k' = i := by omega
            rw [he] at h3
            rw [← Option.some.inj h3]; exact hg
      · have hf := fst_miss (g := gl ea eb) (N := UU m1 m2) (i := i) (by unfold UU at hm ⊢; omega) (show (EE A B l i).length ≤ i by omega) hn
        rw [show fst (gl ea eb) (EE A B l (UU m1 m2)) = none from hf] at k
        decreasing_tactic
        exact k
    · show UU m1 m2 < 1000000
      unfold UU
      omega
    · exact ⟨0, _, _, _, _, _, _, by omega, Nat.zero_le _, fun k hk => absurd hk (Nat.not_lt_zero _), rfl⟩
end
end K04
end
section
set_option Elab.async false
set_option linter.all false
set_option maxRecDepth 100000
set_option autoImplicit false
set_option maxHeartbeats 4000000
open PySem PySem.Spec
namespace K04
open DL L2 CL
local macro_rules | `(tactic| decreasing_tactic) => `(tactic| repeat (first | ((with_reducible apply slot_d); · exact rfl) | ((with_reducible apply so_rfl); · exact rfl) | ((with_reducible apply wo_rfl); · exact rfl) | ((with_reducible refine (wb_cons (s := IS.set _ _)).mpr ?_); try dsimp only [setD, setOwn, setDic, List.set_cons_zero, List.set_cons_succ]) | ((with_reducible refine (wb_cons (s := IS.ret _)).mpr ?_); try dsimp only [setD, setOwn, setDic, List.set_cons_zero, List.set_cons_succ]) | ((with_reducible refine (wb_cons (s := IS.sto _ _ _)).mpr ?_); try dsimp only [setD, setOwn, setDic, List.set_cons_zero, List.set_cons_succ]) | ((with_reducible refine (wb_cons (s := IS.app _ _)).mpr ?_); try dsimp only [setD, setOwn, setDic, List.set_cons_zero, List.set_cons_succ]) | ((with_reducible refine (wb_cons (s := IS.own _ _)).mpr ?_); try dsimp only [setD, setOwn, setDic, List.set_cons_zero, List.set_cons_succ]) | ((with_reducible refine (wb_cons (s := IS.exp _)).mpr ?_); try dsimp only [setD, setOwn, setDic, List.set_cons_zero, List.set_cons_succ]) | ((with_reducible refine (wb_cons (s := IS.unp _ _)).mpr ?_); try dsimp only [setD, setOwn, setDic, List.set_cons_zero, List.set_cons_succ]) | ((with_reducible refine (wb_cons (s := IS.par _ _ _ _ _ _)).mpr ?_); try dsimp only [setD, setOwn, setDic, List.set_cons_zero, List.set_cons_succ]) | ((with_reducible refine (wb_cons (s := IS.pen _ _)).mpr ?_); try dsimp only [setD, setOwn, setDic, List.set_cons_zero, List.set_cons_succ]) | ((with_reducible refine (wb_cons (s := IS.iff _ _ _) (ss := [])).mpr ?_); try dsimp only [setD, setOwn, setDic, List.set_cons_zero, List.set_cons_succ]) | with_reducible refine ws_set.mpr ?_ | with_reducible refine ws_ret.mpr ?_ | with_reducible refine ws_iff.mpr ?_ | with_reducible refine ws_own.mpr ?_ | with_reducible refine ws_for.mpr ?_ | with_reducible refine ws_exp.mpr ?_ | with_reducible refine ws_unp.mpr ?_ | with_reducible refine ws_par.mpr ?_ | with_reducible refine ws_pen.mpr ?_ | with_reducible refine wb_nil.mpr ?_ | with_reducible refine we_slot.mpr ?_ | with_reducible refine we_cst.mpr ?_ | with_reducible refine we_bin.mpr ?_ | with_reducible refine we_bi1.mpr ?_ | with_reducible refine we_cmp.mpr ?_ | with_reducible refine we_idx.mpr ?_ | with_reducible refine we_call.mpr ?_ | with_reducible refine we_bop.mpr ?_ | with_reducible refine we_not.mpr ?_ | with_reducible refine we_chn.mpr ?_ | with_reducible refine we_tup.mpr ?_ | with_reducible refine we_lst.mpr ?_ | with_reducible refine we_neg.mpr ?_ | with_reducible refine we_ife.mpr ?_ | with_reducible refine we_bi2.mpr ?_ | with_reducible refine we_rngL.mpr ?_ | with_reducible refine we_slc.mpr ?_ | with_reducible refine we_rev.mpr ?_ | with_reducible refine we_lc.mpr ?_ | with_reducible refine we_idxS.mpr ?_ | with_reducible refine wr_of ?_ | with_reducible refine wkp_of ?_ | with_reducible refine wp_n ?_ | with_reducible refine wp_s ?_ | with_reducible refine wds_cons.mpr ?_ | with_reducible refine wds_nil.mpr ?_ | with_reducible refine was_cons.mpr ?_ | with_reducible refine was_nil.mpr ?_ | with_reducible refine wt_bop.mpr ?_ | with_reducible refine wt_not.mpr ?_ | with_reducible refine wt_cmp.mpr ?_ | with_reducible refine wt_chn.mpr ?_ | with_reducible refine wt_call.mpr ?_ | with_reducible refine wt_bi1.mpr ?_ | with_reducible refine wt_slot.mpr ?_ | with_reducible refine wt_idx.mpr ?_ | with_reducible refine wits_seq.mpr ?_ | with_reducible refine wits_rng.mpr ?_ | with_reducible refine wits_enu.mpr ?_ | with_reducible refine wits_zip.mpr ?_ | with_reducible refine cnd_n ?_ | with_reducible refine cnd_s ?_ | with_reducible refine we_allG ?_ | with_reducible refine wt_allG ?_ | with_reducible refine we_join.mpr ?_ | with_reducible refine we_lam.mpr ?_ | with_reducible refine we_din.mpr ?_ | with_reducible refine wt_din.mpr ?_ | with_reducible refine we_dnew1.mpr ?_ | with_reducible refine we_dcomp.mpr ?_ | with_reducible refine wits_dic.mpr ?_ | with_reducible refine ws_aug.mpr ?_ | with_reducible refine ws_dput.mpr ?_ | with_reducible refine wt_any_callS.mpr ?_ | ((with_reducible apply dic_p); · exact rfl) | ((with_reducible apply int_p); · exact rfl) | ((with_reducible apply callS_of); · exact rfl) | ((with_reducible apply dget_of); · exact rfl) | ((with_reducible apply slot_dic); · exact rfl) | ((with_reducible apply slot_fn); · exact rfl) | ((with_reducible apply slot_ofn); · exact rfl; · exact rfl) | ((with_reducible apply ite_y); · exact rfl) | ((with_reducible apply ite_n); · exact rfl) | with_reducible refine sto_pen ?_ | ((with_reducible apply slot_pen); · exact rfl; · exact rfl) | ((with_reducible apply slot_own); · exact rfl) | ((with_reducible apply slot_scr); · exact rfl) | ((with_reducible apply so_id); refine so_ite ?_ ?_; · (first | decide | omega | exact mul_small (by omega) (by omega) (by omega) (by omega))) | ((fail_if_success (first | with_reducible apply wb_id | with_reducible apply wc_id | with_reducible apply wk_id | with_reducible apply wfor_id | with_reducible apply wlc_id)); refine ⟨_, _, rfl, rfl, ?_⟩) | ((fail_if_success (first | with_reducible apply wb_id | with_reducible apply wc_id | with_reducible apply wk_id | with_reducible apply wfor_id | with_reducible apply wlc_id)); refine ⟨rfl, ?_⟩) | ((fail_if_success (first | with_reducible apply wb_id | with_reducible apply wc_id | with_reducible apply wk_id | with_reducible apply wfor_id | with_reducible apply wlc_id)); refine ⟨_, _, _, rfl, rfl, rfl, rfl, ?_⟩)))
open P04
section
variable {l m1 m2 : Int} {A B : List (List Int)} {ea eb : List Int}
theorem least_ok (M1 : Mok l m1 A ea) (M2 : Mok l m2 B eb) {n : Nat} {p : Option (List D)} {Q : R → Option (List D) → Prop}
    (k : Q (.d (resD (fst (gl ea eb) (EE A B l (UU m1 m2))))) p) :
    WC fns (n + 100) 8 [.d (.int l), .d (pD (0, 0)), .fn 22 [.d (rowsD A), .d (rowsD B)], goalF l A B ea eb] p Q := by
  rw [wc_def (fd := f8) rfl rfl rfl]
  show WB fns (n + 99) b8 { env := [some (.d (.int l)), some (.d (pD (0, 0))), some (.fn 22 [.d (rowsD A), .d (rowsD B)]), some (goalF l A B ea eb)], pen := p } _
  unfold b8
  decreasing_tactic
  refine some_ok M1 M2 ?_
  decreasing_tactic
  exact k
theorem steps_ok {n : Nat} {p : Option (List D)} {Q : R → Option (List D) → Prop} (k : Q (.fn 22 [.d (rowsD A), .d (rowsD B)]) p) :
    WC fns (n + 20) 10 [.d (machD l A ea), .d (machD l B eb)] p Q := by
  rw [wc_def (fd := f10) rfl rfl rfl]
  show WB fns (n + 19) b10 { env := [some (.d (.tuple [.int l, rowsD A, .tuple (ea.map .int)])), some (.d (.tuple [.int l, rowsD B, .tuple (eb.map .int)])), none, none], pen := p } _
  unfold b10
  decreasing_tactic
  exact k
theorem alike_ok {n : Nat} {p : Option (List D)} {Q : R → Option (List D) → Prop} (k : Q (.d .none) p) :
    WC fns (n + 20) 5 [.d (machD l A ea), .d (machD l B eb)] p Q := by
  rw [wc_def (fd := f5) rfl rfl rfl]
  show WB fns (n + 19) b5 { env := [some (.d (.tuple [.int l, rowsD A, .tuple (ea.map .int)])), some (.d (.tuple [.int l, rowsD B, .tuple (eb.map .int)]))], pen := p } _
  unfold b5
  decreasing_tactic
  show if (!decide (l = l)) = true then _ else _
  rw [decide_eq_true (rfl : l = l)]
  refine ite_f ?_
  decreasing_tactic
  exact k
theorem check_ok (M : Mok l m1 A ea) {n : Nat} {p : Option (List D)} {Q : R → Option (List D) → Prop} (k : Q (.d .none) p) :
    WC fns (n + 110) 4 [.d (machD l A ea)] p Q := by
  rw [wc_def (fd := f4) rfl rfl rfl]
  show WB fns (n + 109) b4 { env := [some (.d (machD l A ea))], pen := p } _
  unfold b4
  decreasing_tactic
  refine machine_ok M.gd.nd M.gd.wid ?_
  rw [M.mach]
  decreasing_tactic
  exact k
theorem parting_ok (M1 : Mok l m1 A ea) (M2 : Mok l m2 B eb) {n : Nat} {p : Option (List D)} {Q : R → Option (List D) → Prop}
    (k : Q (.d (resD (fst (gl ea eb) (EE A B l (UU m1 m2))))) p) :
    WC fns (n + 120) 11 [.d (machD l A ea), .d (machD l B eb)] p Q := by
  rw [wc_def (fd := f11) rfl rfl rfl]
  show WB fns (n + 119) b11 { env := [some (.d (machD l A ea)), some (.d (machD l B eb))], pen := p } _
  unfold b11
  decreasing_tactic
  refine check_ok M1 ?_
  decreasing_tactic
  refine check_ok M2 ?_
  decreasing_tactic
  refine alike_ok ?_
  decreasing_tactic
  refine steps_ok ?_
  decreasing_tactic
  refine least_ok M1 M2 ?_
  decreasing_tactic
  exact k
end
end K04
end
section
set_option Elab.async false
set_option linter.all false
set_option maxRecDepth 100000
set_option autoImplicit false
set_option maxHeartbeats 4000000
open PySem PySem.Spec
namespace K04
open DL L2 CL
local macro_rules | `(tactic| decreasing_tactic) => `(tactic| repeat (first | ((with_reducible apply slot_d); · exact rfl) | ((with_reducible apply so_rfl); · exact rfl) | ((with_reducible apply wo_rfl); · exact rfl) | ((with_reducible refine (wb_cons (s := IS.set _ _)).mpr ?_); try dsimp only [setD, setOwn, setDic, List.set_cons_zero, List.set_cons_succ]) | ((with_reducible refine (wb_cons (s := IS.ret _)).mpr ?_); try dsimp only [setD, setOwn, setDic, List.set_cons_zero, List.set_cons_succ]) | ((with_reducible refine (wb_cons (s := IS.sto _ _ _)).mpr ?_); try dsimp only [setD, setOwn, setDic, List.set_cons_zero, List.set_cons_succ]) | ((with_reducible refine (wb_cons (s := IS.app _ _)).mpr ?_); try dsimp only [setD, setOwn, setDic, List.set_cons_zero, List.set_cons_succ]) | ((with_reducible refine (wb_cons (s := IS.own _ _)).mpr ?_); try dsimp only [setD, setOwn, setDic, List.set_cons_zero, List.set_cons_succ]) | ((with_reducible refine (wb_cons (s := IS.exp _)).mpr ?_); try dsimp only [setD, setOwn, setDic, List.set_cons_zero, List.set_cons_succ]) | ((with_reducible refine (wb_cons (s := IS.unp _ _)).mpr ?_); try dsimp only [setD, setOwn, setDic, List.set_cons_zero, List.set_cons_succ]) | ((with_reducible refine (wb_cons (s := IS.par _ _ _ _ _ _)).mpr ?_); try dsimp only [setD, setOwn, setDic, List.set_cons_zero, List.set_cons_succ]) | ((with_reducible refine (wb_cons (s := IS.pen _ _)).mpr ?_); try dsimp only [setD, setOwn, setDic, List.set_cons_zero, List.set_cons_succ]) | ((with_reducible refine (wb_cons (s := IS.iff _ _ _) (ss := [])).mpr ?_); try dsimp only [setD, setOwn, setDic, List.set_cons_zero, List.set_cons_succ]) | with_reducible refine ws_set.mpr ?_ | with_reducible refine ws_ret.mpr ?_ | with_reducible refine ws_iff.mpr ?_ | with_reducible refine ws_own.mpr ?_ | with_reducible refine ws_for.mpr ?_ | with_reducible refine ws_exp.mpr ?_ | with_reducible refine ws_unp.mpr ?_ | with_reducible refine ws_par.mpr ?_ | with_reducible refine ws_pen.mpr ?_ | with_reducible refine wb_nil.mpr ?_ | with_reducible refine we_slot.mpr ?_ | with_reducible refine we_cst.mpr ?_ | with_reducible refine we_bin.mpr ?_ | with_reducible refine we_bi1.mpr ?_ | with_reducible refine we_cmp.mpr ?_ | with_reducible refine we_idx.mpr ?_ | with_reducible refine we_call.mpr ?_ | with_reducible refine we_bop.mpr ?_ | with_reducible refine we_not.mpr ?_ | with_reducible refine we_chn.mpr ?_ | with_reducible refine we_tup.mpr ?_ | with_reducible refine we_lst.mpr ?_ | with_reducible refine we_neg.mpr ?_ | with_reducible refine we_ife.mpr ?_ | with_reducible refine we_bi2.mpr ?_ | with_reducible refine we_rngL.mpr ?_ | with_reducible refine we_slc.mpr ?_ | with_reducible refine we_rev.mpr ?_ | with_reducible refine we_lc.mpr ?_ | with_reducible refine we_idxS.mpr ?_ | with_reducible refine wr_of ?_ | with_reducible refine wkp_of ?_ | with_reducible refine wp_n ?_ | with_reducible refine wp_s ?_ | with_reducible refine wds_cons.mpr ?_ | with_reducible refine wds_nil.mpr ?_ | with_reducible refine was_cons.mpr ?_ | with_reducible refine was_nil.mpr ?_ | with_reducible refine wt_bop.mpr ?_ | with_reducible refine wt_not.mpr ?_ | with_reducible refine wt_cmp.mpr ?_ | with_reducible refine wt_chn.mpr ?_ | with_reducible refine wt_call.mpr ?_ | with_reducible refine wt_bi1.mpr ?_ | with_reducible refine wt_slot.mpr ?_ | with_reducible refine wt_idx.mpr ?_ | with_reducible refine wits_seq.mpr ?_ | with_reducible refine wits_rng.mpr ?_ | with_reducible refine wits_enu.mpr ?_ | with_reducible refine wits_zip.mpr ?_ | with_reducible refine cnd_n ?_ | with_reducible refine cnd_s ?_ | with_reducible refine we_allG ?_ | with_reducible refine wt_allG ?_ | with_reducible refine we_join.mpr ?_ | with_reducible refine we_lam.mpr ?_ | with_reducible refine we_din.mpr ?_ | with_reducible refine wt_din.mpr ?_ | with_reducible refine we_dnew1.mpr ?_ | with_reducible refine we_dcomp.mpr ?_ | with_reducible refine wits_dic.mpr ?_ | with_reducible refine ws_aug.mpr ?_ | with_reducible refine ws_dput.mpr ?_ | with_reducible refine wt_any_callS.mpr ?_ | ((with_reducible apply dic_p); · exact rfl) | ((with_reducible apply int_p); · exact rfl) | ((with_reducible apply callS_of); · exact rfl) | ((with_reducible apply dget_of); · exact rfl) | ((with_reducible apply slot_dic); · exact rfl) | ((with_reducible apply slot_fn); · exact rfl) | ((with_reducible apply slot_ofn); · exact rfl; · exact rfl) | ((with_reducible apply ite_y); · exact rfl) | ((with_reducible apply ite_n); · exact rfl) | with_reducible refine sto_pen ?_ | ((with_reducible apply slot_pen); · exact rfl; · exact rfl) | ((with_reducible apply slot_own); · exact rfl) | ((with_reducible apply slot_scr); · exact rfl) | ((with_reducible apply so_id); refine so_ite ?_ ?_; · (first | decide | omega | exact mul_small (by omega) (by omega) (by omega) (by omega))) | ((fail_if_success (first | with_reducible apply wb_id | with_reducible apply wc_id | with_reducible apply wk_id | with_reducible apply wfor_id | with_reducible apply wlc_id)); refine ⟨_, _, rfl, rfl, ?_⟩) | ((fail_if_success (first | with_reducible apply wb_id | with_reducible apply wc_id | with_reducible apply wk_id | with_reducible apply wfor_id | with_reducible apply wlc_id)); refine ⟨rfl, ?_⟩) | ((fail_if_success (first | with_reducible apply wb_id | with_reducible apply wc_id | with_reducible apply wk_id | with_reducible apply wfor_id | with_reducible apply wlc_id)); refine ⟨_, _, _, rfl, rfl, rfl, rfl, ?_⟩)))
open P04
section
variable {l m1 m2 : Int} {A B : List (List Int)} {ea eb : List Int}
abbrev wordsD (es : List (Str × (Int × Int))) : List (D × D) := dD (fun e => .str e.1) es
def queD (es : List (Str × (Int × Int))) : List D := es.map fun e => pD e.2
abbrev bP : List IS := [.set 8 (.tup [(.idx (.idx (.idx (.slot 0) (.cst (.int 1))) (.slot 6)) (.slot 5)), (.idx (.idx (.idx (.slot 1) (.cst (.int 1))) (.slot 7)) (.slot 5))]), .iff (.din true 3 (.slot 8)) [.dput 3 (.slot 8) (.bin .Add (.dget 3 (.idx (.slot 4) (.slot 2))) (.idx (.cst (.str "abc")) (.slot 5))), .app 4 (.slot 8)] []]
theorem exU_get {es : List (Str × (Int × Int))} {w : Str} {s : Int × Int} {i : Nat} {e : Str × (Int × Int)} (h : es[i]? = some e) (j : Nat) : (exU (st2 A B) apS es w s j)[i]? = some e := by
  have hp := exU_pre (step := st2 A B) (ap := apS) (es := es) (w := w) (s := s) j
  obtain ⟨hi, h1⟩ := List.getElem?_eq_some_iff.mp h
  rw [List.getElem?_eq_getElem (Nat.lt_of_lt_of_le hi hp.length_le), ← hp.getElem hi, h1]
theorem pairs_in (M1 : Mok l m1 A ea) (M2 : Mok l m2 B eb) {i : Nat} {w : Str} {s : Int × Int} (he : (EE A B l i)[i]? = some (w, s)) {n : Nat} {p : Option (List D)} {o5 o8 : Option Sv} {Q : Fl → G → Prop}
    (k : ∀ o5 o8, Q .nx { env := [some (.d (machD l A ea)), some (.d (machD l B eb)), some (.d (.int (i : Int))), some (.dic true (wordsD (EE A B l (i + 1)))), some (.own (queD (EE A B l (i + 1)))), o5, some (.d (.int s.1)), some (.d (.int s.2)), o8], pen := p }) :
    WFor fns (n + 60) (.one 5) bP ((List.range l.toNat).map fun (i : Nat) => PyData.int (0 + (i : Int))) { env := [some (.d (machD l A ea)), some (.d (machD l B eb)), some (.d (.int (i : Int))), some (.dic true (wordsD (EE A B l i))), some (.own (queD (EE A B l i))), o5, some (.d (.int s.1)), some (.d (.int s.2)), o8], pen := p } Q := by
  have hr : inR m1 m2 s := EE_rng M1 M2 i (w, s) (List.mem_of_getElem? he)
  have hw : w.length ≤ i := EE_word i (w, s) (List.mem_of_getElem? he)
  have hU := U_le M1 M2
  have hi : i < (EE A B l i).length := (List.getElem?_eq_some_iff.mp he).1
  have hU1 := EE_len M1 M2 (l := l) i
  have l0 := M1.l0
  have l1 := M1.l1
  refine wfor_inv (fun rest g => ∃ (j : Nat) (o5 o8 : Option Sv), j ≤ l.toNat ∧ rest = ((List.range l.toNat).drop j).map (fun (i : Nat) => PyData.int (0 + (i : Int))) ∧
    g = { env := [some (.d (.tuple [.int l, rowsD A, .tuple (ea.map .int)])), some (.d (.tuple [.int l, rowsD B, .tuple (eb.map .int)])), some (.d (.int (i : Int))), some (.dic true (wordsD (exU (st2 A B) apS (EE A B l i) w s j))), some (.own (queD (exU (st2 A B) apS (EE A B l i) w s j))), o5, some (.d (.int s.1)), some (.d (.int s.2)), o8], pen := p }) ?_ ?_ ⟨0, _, _, Nat.zero_le _, rfl, rfl⟩
  · rintro d ds _ ⟨j, o5, o8, hj, hd, rfl⟩
    obtain ⟨hj, rfl, rfl⟩ := rng_step hd
    have hjl : (j : Int) < l := by omega
    have hnd := exU_nd (step := st2 A B) (ap := apS) (w := w) (s := s) (E_nd (step := st2 A B) (ap := apS) (l := l.toNat) (z := (("" : Str), ((0 : Int), (0 : Int)))) i) j
    have hlen := exU_lenU M1 M2 he (Nat.le_of_lt hj)
    have hget := exU_get (A := A) (B := B) (w := w) (s := s) he j
    have hnext : exU (st2 A B) apS (EE A B l i) w s (j + 1) = ex1 (st2 A B) apS (exU (st2 A B) apS (EE A B l i) w s j) w s j := rfl
    generalize exU (st2 A B) apS (EE A B l i) w s j = es at *
    refine so_rfl (by show some _ = some _; rw [Int.zero_add]) ?_
    dsimp only [setD, setOwn, setDic, List.set_cons_zero, List.set_cons_succ]
    decreasing_tactic
    refine so_rfl (mv_at M1 hr.1.1 hr.1.2) ?_
    decreasing_tactic
    refine so_rfl (mv_rng M1 hr.1.1 hr.1.2 hjl).1 ?_
    decreasing_tactic
    refine so_rfl (mv_at M2 hr.2.1 hr.2.2) ?_
    decreasing_tactic
    refine so_rfl (mv_rng M2 hr.2.1 hr.2.2 hjl).1 ?_
    decreasing_tactic
    have hz : es.length < szL := by unfold szL; omega
    have hf : (dfind (wordsD es) (NestedKey.tup [NestedKey.num (mv A s.1 j), NestedKey.num (mv B s.2 j)])).isSome = decide (st2 A B s j ∈ es.map (·.2)) := find_is (fun e => .str e.1) (s := st2 A B s j) hnd
    rw [hf]
    by_cases hm : st2 A B s j ∈ es.map (·.2)
    · have hx : ex1 (st2 A B) apS es w s j = es := by unfold ex1; rw [if_pos hm]
      rw [decide_eq_true hm]
      rw [hx] at hnext
      decreasing_tactic
      refine ⟨j + 1, some (.d (.int (j : Int))), some (.d (pD (st2 A B s j))), hj, rfl, ?_⟩
      rw [hnext]
      rfl
    · have hx : ex1 (st2 A B) apS es w s j = es ++ [(apS w j, st2 A B s j)] := by unfold ex1; rw [if_neg hm]
      rw [decide_eq_false hm]
      rw [hx] at hnext
      decreasing_tactic
      refine wb_cons.mpr ?_
      decreasing_tactic
      refine so_rfl (a := pD s) (L2.atI_nat (by unfold queD; rw [List.getElem?_map, hget]; rfl)) ?_
      decreasing_tactic
      have hg2 : dfind (wordsD es) (NestedKey.tup [NestedKey.num s.1, NestedKey.num s.2]) = some (.str w) := find_some (fun e => .str e.1) hnd (List.mem_of_getElem? hget)
      refine so_rfl hg2 ?_
      decreasing_tactic
      refine so_rfl (ltr_at (by omega)) ?_
      decreasing_tactic
      refine so_ite ?_ ?_
      · show w.length + 1 ≤ szL
        unfold szL
        omega
      decreasing_tactic
      refine ⟨dic_p rfl trivial, ?_⟩
      decreasing_tactic
      have hst : dstore (wordsD es) (.tuple [.int (mv A s.1 j), .int (mv B s.2 j)]) (NestedKey.tup [NestedKey.num (mv A s.1 j), NestedKey.num (mv B s.2 j)]) (.str (w ++ ltr j)) = wordsD (es ++ [(apS w j, st2 A B s j)]) := store_new (fun e => .str e.1) (w := apS w j) (s := st2 A B s j) hm
      refine ⟨by rw [show (wordsD es).length = es.length from List.length_map ..]; exact hz, ?_⟩
      rw [hst]
      dsimp only [setD, setOwn, setDic, List.set_cons_zero, List.set_cons_succ]
      refine wb_cons.mpr ?_
      refine app_own trivial ?_
      decreasing_tactic
      refine ⟨_, rfl, by rw [show (queD es).length = es.length from List.length_map ..]; exact hz, wb_nil.mpr (wb_nil.mpr ⟨j + 1, some (.d (.int (j : Int))), some (.d (pD (st2 A B s j))), hj, rfl, ?_⟩)⟩
      rw [hnext]
      dsimp only [setD, setOwn, setDic, List.set_cons_zero, List.set_cons_succ]
      rw [show queD (es ++ [(apS w j, st2 A B s j)]) = queD es ++ [pD (st2 A B s j)] from List.map_append ..]
      rfl
  · rintro _ ⟨j, o5, o8, hj, hd, rfl⟩
    have := rng_end hd
    obtain rfl : j = l.toNat := by omega
    have e := E_succ he
    rw [show exU (st2 A B) apS (EE A B l i) w s l.toNat = EE A B l (i + 1) from e.symm]
    exact k _ _
end
end K04
end
section
set_option Elab.async false
set_option linter.all false
set_option maxRecDepth 100000
set_option autoImplicit false
set_option maxHeartbeats 4000000
open PySem PySem.Spec
namespace K04
open DL L2 CL
local macro_rules | `(tactic| decreasing_tactic) => `(tactic| repeat (first | ((with_reducible apply slot_d); · exact rfl) | ((with_reducible apply so_rfl); · exact rfl) | ((with_reducible apply wo_rfl); · exact rfl) | ((with_reducible refine (wb_cons (s := IS.set _ _)).mpr ?_); try dsimp only [setD, setOwn, setDic, List.set_cons_zero, List.set_cons_succ]) | ((with_reducible refine (wb_cons (s := IS.ret _)).mpr ?_); try dsimp only [setD, setOwn, setDic, List.set_cons_zero, List.set_cons_succ]) | ((with_reducible refine (wb_cons (s := IS.sto _ _ _)).mpr ?_); try dsimp only [setD, setOwn, setDic, List.set_cons_zero, List.set_cons_succ]) | ((with_reducible refine (wb_cons (s := IS.app _ _)).mpr ?_); try dsimp only [setD, setOwn, setDic, List.set_cons_zero, List.set_cons_succ]) | ((with_reducible refine (wb_cons (s := IS.own _ _)).mpr ?_); try dsimp only [setD, setOwn, setDic, List.set_cons_zero, List.set_cons_succ]) | ((with_reducible refine (wb_cons (s := IS.exp _)).mpr ?_); try dsimp only [setD, setOwn, setDic, List.set_cons_zero, List.set_cons_succ]) | ((with_reducible refine (wb_cons (s := IS.unp _ _)).mpr ?_); try dsimp only [setD, setOwn, setDic, List.set_cons_zero, List.set_cons_succ]) | ((with_reducible refine (wb_cons (s := IS.par _ _ _ _ _ _)).mpr ?_); try dsimp only [setD, setOwn, setDic, List.set_cons_zero, List.set_cons_succ]) | ((with_reducible refine (wb_cons (s := IS.pen _ _)).mpr ?_); try dsimp only [setD, setOwn, setDic, List.set_cons_zero, List.set_cons_succ]) | ((with_reducible refine (wb_cons (s := IS.iff _ _ _) (ss := [])).mpr ?_); try dsimp only [setD, setOwn, setDic, List.set_cons_zero, List.set_cons_succ]) | with_reducible refine ws_set.mpr ?_ | with_reducible refine ws_ret.mpr ?_ | with_reducible refine ws_iff.mpr ?_ | with_reducible refine ws_own.mpr ?_ | with_reducible refine ws_for.mpr ?_ | with_reducible refine ws_exp.mpr ?_ | with_reducible refine ws_unp.mpr ?_ | with_reducible refine ws_par.mpr ?_ | with_reducible refine ws_pen.mpr ?_ | with_reducible refine wb_nil.mpr ?_ | with_reducible refine we_slot.mpr ?_ | with_reducible refine we_cst.mpr ?_ | with_reducible refine we_bin.mpr ?_ | with_reducible refine we_bi1.mpr ?_ | with_reducible refine we_cmp.mpr ?_ | with_reducible refine we_idx.mpr ?_ | with_reducible refine we_call.mpr ?_ | with_reducible refine we_bop.mpr ?_ | with_reducible refine we_not.mpr ?_ | with_reducible refine we_chn.mpr ?_ | with_reducible refine we_tup.mpr ?_ | with_reducible refine we_lst.mpr ?_ | with_reducible refine we_neg.mpr ?_ | with_reducible refine we_ife.mpr ?_ | with_reducible refine we_bi2.mpr ?_ | with_reducible refine we_rngL.mpr ?_ | with_reducible refine we_slc.mpr ?_ | with_reducible refine we_rev.mpr ?_ | with_reducible refine we_lc.mpr ?_ | with_reducible refine we_idxS.mpr ?_ | with_reducible refine wr_of ?_ | with_reducible refine wkp_of ?_ | with_reducible refine wp_n ?_ | with_reducible refine wp_s ?_ | with_reducible refine wds_cons.mpr ?_ | with_reducible refine wds_nil.mpr ?_ | with_reducible refine was_cons.mpr ?_ | with_reducible refine was_nil.mpr ?_ | with_reducible refine wt_bop.mpr ?_ | with_reducible refine wt_not.mpr ?_ | with_reducible refine wt_cmp.mpr ?_ | with_reducible refine wt_chn.mpr ?_ | with_reducible refine wt_call.mpr ?_ | with_reducible refine wt_bi1.mpr ?_ | with_reducible refine wt_slot.mpr ?_ | with_reducible refine wt_idx.mpr ?_ | with_reducible refine wits_seq.mpr ?_ | with_reducible refine wits_rng.mpr ?_ | with_reducible refine wits_enu.mpr ?_ | with_reducible refine wits_zip.mpr ?_ | with_reducible refine cnd_n ?_ | with_reducible refine cnd_s ?_ | with_reducible refine we_allG ?_ | with_reducible refine wt_allG ?_ | with_reducible refine we_join.mpr ?_ | with_reducible refine we_lam.mpr ?_ | with_reducible refine we_din.mpr ?_ | with_reducible refine wt_din.mpr ?_ | with_reducible refine we_dnew1.mpr ?_ | with_reducible refine we_dcomp.mpr ?_ | with_reducible refine wits_dic.mpr ?_ | with_reducible refine ws_aug.mpr ?_ | with_reducible refine ws_dput.mpr ?_ | with_reducible refine wt_any_callS.mpr ?_ | ((with_reducible apply dic_p); · exact rfl) | ((with_reducible apply int_p); · exact rfl) | ((with_reducible apply callS_of); · exact rfl) | ((with_reducible apply dget_of); · exact rfl) | ((with_reducible apply slot_dic); · exact rfl) | ((with_reducible apply slot_fn); · exact rfl) | ((with_reducible apply slot_ofn); · exact rfl; · exact rfl) | ((with_reducible apply ite_y); · exact rfl) | ((with_reducible apply ite_n); · exact rfl) | with_reducible refine sto_pen ?_ | ((with_reducible apply slot_pen); · exact rfl; · exact rfl) | ((with_reducible apply slot_own); · exact rfl) | ((with_reducible apply slot_scr); · exact rfl) | ((with_reducible apply so_id); refine so_ite ?_ ?_; · (first | decide | omega | exact mul_small (by omega) (by omega) (by omega) (by omega))) | ((fail_if_success (first | with_reducible apply wb_id | with_reducible apply wc_id | with_reducible apply wk_id | with_reducible apply wfor_id | with_reducible apply wlc_id)); refine ⟨_, _, rfl, rfl, ?_⟩) | ((fail_if_success (first | with_reducible apply wb_id | with_reducible apply wc_id | with_reducible apply wk_id | with_reducible apply wfor_id | with_reducible apply wlc_id)); refine ⟨rfl, ?_⟩) | ((fail_if_success (first | with_reducible apply wb_id | with_reducible apply wc_id | with_reducible apply wk_id | with_reducible apply wfor_id | with_reducible apply wlc_id)); refine ⟨_, _, _, rfl, rfl, rfl, rfl, ?_⟩)))
open P04
section
variable {l m1 m2 : Int} {A B : List (List Int)} {ea eb : List Int}
theorem pairs_ok (M1 : Mok l m1 A ea) (M2 : Mok l m2 B eb) {n : Nat} {p : Option (List D)} {Q : R → Option (List D) → Prop} (k : Q (.fd true (wordsD (EE A B l (UU m1 m2)))) p) :
    WC fns (n + 100) 18 [.d (machD l A ea), .d (machD l B eb)] p Q := by
  have hU := U_le M1 M2
  have l0 := M1.l0
  have l1 := M1.l1
  have e1 : (A.length : Int) = m1 := M1.len
  have e2 : (B.length : Int) = m2 := M2.len
  have hm : m1 * m2 = ((UU m1 m2 : Nat) : Int) := by
    unfold UU
    rw [Int.natCast_mul, show ((m1.toNat : Nat) : Int) = m1 by omega, show ((m2.toNat : Nat) : Int) = m2 by omega]
  rw [wc_def (fd := f18) rfl rfl rfl]
  show WB fns (n + 99) b18 { env := [some (.d (.tuple [.int l, .tuple (A.map fun ns => .tuple (ns.map .int)), .tuple (ea.map .int)])), some (.d (.tuple [.int l, .tuple (B.map fun ns => .tuple (ns.map .int)), .tuple (eb.map .int)])), none, none, none, none, none, none, none], pen := p } _
  unfold b18
  decreasing_tactic
  refine wb_cons.mpr ?_
  refine ws_for.mpr (wits_rng1 ?_)
  decreasing_tactic
  refine so_ite (by rw [List.length_map, List.length_map, e1, e2]; have := M1.m0; have := M2.m0; have := M1.m1; have := M2.m1; exact mul_small (by omega) (by omega) (by omega) (by omega)) ?_
  decreasing_tactic
  refine rng1_mk (UU m1 m2) (by rw [List.length_map, List.length_map, e1, e2]; exact hm) (by unfold UU; omega) ?_
  dsimp only [setD, setOwn, setDic, List.set_cons_zero, List.set_cons_succ]
  refine wfor_inv (fun rest g => ∃ (i : Nat) (o2 o5 o6 o7 o8 : Option Sv), i ≤ UU m1 m2 ∧ rest = ((List.range (UU m1 m2)).drop i).map (fun (i : Nat) => PyData.int (0 + (i : Int))) ∧
    g = { env := [some (.d (machD l A ea)), some (.d (machD l B eb)), o2, some (.dic true (wordsD (EE A B l i))), some (.own (queD (EE A B l i))), o5, o6, o7, o8], pen := p }) ?_ ?_ ⟨0, _, _, _, _, _, Nat.zero_le _, rfl, rfl⟩
  · rintro d ds _ ⟨i, o2, o5, o6, o7, o8, hi, hd, rfl⟩
    obtain ⟨hi, rfl, rfl⟩ := rng_step hd
    refine so_rfl (by show some _ = some _; rw [Int.zero_add]) ?_
    dsimp only [setD, setOwn, setDic, List.set_cons_zero, List.set_cons_succ]
    decreasing_tactic
    show if decide ((i : Int) < ((queD (EE A B l i)).length : Int)) = true then _ else _
    rw [show (queD (EE A B l i)).length = (EE A B l i).length from List.length_map ..]
    refine ite_d (fun c => ?_) (fun c => ?_)
    · have c2 : i < (EE A B l i).length := by omega
      obtain ⟨⟨w, s⟩, he⟩ : ∃ e, (EE A B l i)[i]? = some e := ⟨_, List.getElem?_eq_getElem c2⟩
      decreasing_tactic
      refine so_rfl (a := .tuple [.int s.1, .int s.2]) (L2.atI_nat (by unfold queD; rw [List.getElem?_map, he]; rfl)) ?_
      decreasing_tactic
      dsimp only [setD, setOwn, setDic, List.set_cons_zero, List.set_cons_succ]
      refine wb_cons.mpr ?_
      refine ws_for.mpr (wits_rng1 ?_)
      decreasing_tactic
      refine rng1_mk l.toNat (by omega) (by omega) ?_
      refine pairs_in M1 M2 he fun o5 o8 => ?_
      decreasing_tactic
      exact ⟨i + 1, _, _, _, _, _, hi, rfl, rfl⟩
    · decreasing_tactic
      have hn : (EE A B l i)[i]? = none := List.getElem?_eq_none (by omega)
      refine ⟨i + 1, some (.d (.int (i : Int))), o5, o6, o7, o8, hi, rfl, ?_⟩
      rw [show EE A B l (i + 1) = EE A B l i from E_none hn]
  · rintro _ ⟨i, o2, o5, o6, o7, o8, hi, hd, rfl⟩
    have := rng_end hd
    obtain rfl : i = UU m1 m2 := by omega
    decreasing_tactic
    exact k
end
end K04
end
section
set_option Elab.async false
set_option linter.all false
set_option maxRecDepth 100000
set_option autoImplicit false
set_option maxHeartbeats 4000000
open PySem PySem.Spec
namespace K04
open DL L2 CL
local macro_rules | `(tactic| decreasing_tactic) => `(tactic| repeat (first | ((with_reducible apply slot_d); · exact rfl) | ((with_reducible apply so_rfl); · exact rfl) | ((with_reducible apply wo_rfl); · exact rfl) | ((with_reducible refine (wb_cons (s := IS.set _ _)).mpr ?_); try dsimp only [setD, setOwn, setDic, List.set_cons_zero, List.set_cons_succ]) | ((with_reducible refine (wb_cons (s := IS.ret _)).mpr ?_); try dsimp only [setD, setOwn, setDic, List.set_cons_zero, List.set_cons_succ]) | ((with_reducible refine (wb_cons (s := IS.sto _ _ _)).mpr ?_); try dsimp only [setD, setOwn, setDic, List.set_cons_zero, List.set_cons_succ]) | ((with_reducible refine (wb_cons (s := IS.app _ _)).mpr ?_); try dsimp only [setD, setOwn, setDic, List.set_cons_zero, List.set_cons_succ]) | ((with_reducible refine (wb_cons (s := IS.own _ _)).mpr ?_); try dsimp only [setD, setOwn, setDic, List.set_cons_zero, List.set_cons_succ]) | ((with_reducible refine (wb_cons (s := IS.exp _)).mpr ?_); try dsimp only [setD, setOwn, setDic, List.set_cons_zero, List.set_cons_succ]) | ((with_reducible refine (wb_cons (s := IS.unp _ _)).mpr ?_); try dsimp only [setD, setOwn, setDic, List.set_cons_zero, List.set_cons_succ]) | ((with_reducible refine (wb_cons (s := IS.par _ _ _ _ _ _)).mpr ?_); try dsimp only [setD, setOwn, setDic, List.set_cons_zero, List.set_cons_succ]) | ((with_reducible refine (wb_cons (s := IS.pen _ _)).mpr ?_); try dsimp only [setD, setOwn, setDic, List.set_cons_zero, List.set_cons_succ]) | ((with_reducible refine (wb_cons (s := IS.iff _ _ _) (ss := [])).mpr ?_); try dsimp only [setD, setOwn, setDic, List.set_cons_zero, List.set_cons_succ]) | with_reducible refine ws_set.mpr ?_ | with_reducible refine ws_ret.mpr ?_ | with_reducible refine ws_iff.mpr ?_ | with_reducible refine ws_own.mpr ?_ | with_reducible refine ws_for.mpr ?_ | with_reducible refine ws_exp.mpr ?_ | with_reducible refine ws_unp.mpr ?_ | with_reducible refine ws_par.mpr ?_ | with_reducible refine ws_pen.mpr ?_ | with_reducible refine wb_nil.mpr ?_ | with_reducible refine we_slot.mpr ?_ | with_reducible refine we_cst.mpr ?_ | with_reducible refine we_bin.mpr ?_ | with_reducible refine we_bi1.mpr ?_ | with_reducible refine we_cmp.mpr ?_ | with_reducible refine we_idx.mpr ?_ | with_reducible refine we_call.mpr ?_ | with_reducible refine we_bop.mpr ?_ | with_reducible refine we_not.mpr ?_ | with_reducible refine we_chn.mpr ?_ | with_reducible refine we_tup.mpr ?_ | with_reducible refine we_lst.mpr ?_ | with_reducible refine we_neg.mpr ?_ | with_reducible refine we_ife.mpr ?_ | with_reducible refine we_bi2.mpr ?_ | with_reducible refine we_rngL.mpr ?_ | with_reducible refine we_slc.mpr ?_ | with_reducible refine we_rev.mpr ?_ | with_reducible refine we_lc.mpr ?_ | with_reducible refine we_idxS.mpr ?_ | with_reducible refine wr_of ?_ | with_reducible refine wkp_of ?_ | with_reducible refine wp_n ?_ | with_reducible refine wp_s ?_ | with_reducible refine wds_cons.mpr ?_ | with_reducible refine wds_nil.mpr ?_ | with_reducible refine was_cons.mpr ?_ | with_reducible refine was_nil.mpr ?_ | with_reducible refine wt_bop.mpr ?_ | with_reducible refine wt_not.mpr ?_ | with_reducible refine wt_cmp.mpr ?_ | with_reducible refine wt_chn.mpr ?_ | with_reducible refine wt_call.mpr ?_ | with_reducible refine wt_bi1.mpr ?_ | with_reducible refine wt_slot.mpr ?_ | with_reducible refine wt_idx.mpr ?_ | with_reducible refine wits_seq.mpr ?_ | with_reducible refine wits_rng.mpr ?_ | with_reducible refine wits_enu.mpr ?_ | with_reducible refine wits_zip.mpr ?_ | with_reducible refine cnd_n ?_ | with_reducible refine cnd_s ?_ | with_reducible refine we_allG ?_ | with_reducible refine wt_allG ?_ | with_reducible refine we_join.mpr ?_ | with_reducible refine we_lam.mpr ?_ | with_reducible refine we_din.mpr ?_ | with_reducible refine wt_din.mpr ?_ | with_reducible refine we_dnew1.mpr ?_ | with_reducible refine we_dcomp.mpr ?_ | with_reducible refine wits_dic.mpr ?_ | with_reducible refine ws_aug.mpr ?_ | with_reducible refine ws_dput.mpr ?_ | with_reducible refine wt_any_callS.mpr ?_ | ((with_reducible apply dic_p); · exact rfl) | ((with_reducible apply int_p); · exact rfl) | ((with_reducible apply callS_of); · exact rfl) | ((with_reducible apply dget_of); · exact rfl) | ((with_reducible apply slot_dic); · exact rfl) | ((with_reducible apply slot_fn); · exact rfl) | ((with_reducible apply slot_ofn); · exact rfl; · exact rfl) | ((with_reducible apply ite_y); · exact rfl) | ((with_reducible apply ite_n); · exact rfl) | with_reducible refine sto_pen ?_ | ((with_reducible apply slot_pen); · exact rfl; · exact rfl) | ((with_reducible apply slot_own); · exact rfl) | ((with_reducible apply slot_scr); · exact rfl) | ((with_reducible apply so_id); refine so_ite ?_ ?_; · (first | decide | omega | exact mul_small (by omega) (by omega) (by omega) (by omega))) | ((fail_if_success (first | with_reducible apply wb_id | with_reducible apply wc_id | with_reducible apply wk_id | with_reducible apply wfor_id | with_reducible apply wlc_id)); refine ⟨_, _, rfl, rfl, ?_⟩) | ((fail_if_success (first | with_reducible apply wb_id | with_reducible apply wc_id | with_reducible apply wk_id | with_reducible apply wfor_id | with_reducible apply wlc_id)); refine ⟨rfl, ?_⟩) | ((fail_if_success (first | with_reducible apply wb_id | with_reducible apply wc_id | with_reducible apply wk_id | with_reducible apply wfor_id | with_reducible apply wlc_id)); refine ⟨_, _, _, rfl, rfl, rfl, rfl, ?_⟩)))
open P04
section
variable {l m1 m2 : Int} {A B : List (List Int)} {ea eb : List Int}
def hits (g : Int × Int → Bool) (es : List (Str × (Int × Int))) : List D := (es.filter (fun e => g e.2)).map fun e => .str e.1
theorem hits_eq {g : Int × Int → Bool} {es : List (Str × (Int × Int))} (h : ∀ e ∈ es, e.1.length ≤ 1100 ∧ ∀ c ∈ e.1.cps.toList, c < 128) : eqD (.list (hits g es)) (.list []) = some (hits g es).isEmpty := by
  have hl : ∀ ws : List Str, (∀ w ∈ ws, ∀ c ∈ w.cps.toList, c < 128) → PyData.canLayAll0 (ws.map PyData.str) = true ∧ PyData.depthAll (ws.map PyData.str) = 0 := by
    intro ws
    induction ws with
    | nil => intro _; exact ⟨rfl, rfl⟩
    | cons w ws ih =>
      intro h
      obtain ⟨h1, h2⟩ := ih fun x hx => h x (List.mem_cons_of_mem _ hx)
      have hc : PyData.strOk w = true := by
        show (w.cps.all (· < 0x110000)) = true
        rw [Array.all_eq_true_iff_forall_mem]
        intro c hc
        have := h w List.mem_cons_self c (by simpa using hc)
        simp; omega
      simp only [List.map_cons, PyData.canLayAll0, PyData.canLay0, h1, PyData.depthAll, PyData.depth, h2, hc, Bool.and_self, Nat.max_self, and_self]
  have he : hits g es = ((es.filter (fun e => g e.2)).map (·.1)).map PyData.str := by unfold hits; rw [List.map_map]; rfl
  obtain ⟨h1, h2⟩ := hl ((es.filter (fun e => g e.2)).map (·.1)) (fun w hw c hc => by
    obtain ⟨e, he, rfl⟩ := List.mem_map.mp hw
    exact (h e (List.mem_filter.mp he).1).2 c hc)
  rw [he]
  generalize (es.filter (fun e => g e.2)).map (·.1) = ws at *
  have hs : SeqAt.shaped (.list (ws.map PyData.str)) = true ∧ SeqAt.shaped (.list []) = true := by
    refine ⟨?_, by decide⟩
    unfold SeqAt.shaped
    simp only [PyData.canLay0, h1, PyData.depth, h2, Bool.true_and]
    decide
  show (if SeqAt.shaped (.list (ws.map PyData.str)) = true ∧ SeqAt.shaped (.list []) = true then some (PyData.eqv (.list (ws.map PyData.str)) (.list [])) else none) = _
  rw [if_pos hs]
  cases ws <;> rfl
theorem EE_asc (M1 : Mok l m1 A ea) (i : Nat) : ∀ e ∈ EE A B l i, ∀ c ∈ e.1.cps.toList, c < 128 := by
  have l0 := M1.l0
  have l1 := M1.l1
  refine E_all (P := fun (e : Str × (Int × Int)) => ∀ c ∈ e.1.cps.toList, c < 128) (fun c (hc : c ∈ ([] : List Nat)) => by cases hc) (fun w s h j hj c hc => ?_) i
  have hc : c ∈ (w ++ ltr j).cps.toList := hc
  rw [app_toList] at hc
  rcases List.mem_append.mp hc with hc | hc
  · exact h c hc
  · rw [List.mem_singleton.mp (show c ∈ [97 + j] from hc)]; omega
theorem lparting_ok (M1 : Mok l m1 A ea) (M2 : Mok l m2 B eb) {n : Nat} {p : Option (List D)} {Q : R → Option (List D) → Prop}
    (k : Q (.d (resD (fst (gl ea eb) (EE A B l (UU m1 m2))))) p) :
    WC fns (n + 120) 19 [.d (machD l A ea), .d (machD l B eb)] p Q := by
  rw [wc_def (fd := f19) rfl rfl rfl]
  show WB fns (n + 119) b19 { env := [some (.d (.tuple [.int l, rowsD A, .tuple (ea.map .int)])), some (.d (.tuple [.int l, rowsD B, .tuple (eb.map .int)])), none, none, none], pen := p } _
  unfold b19
  have hnd := E_nd (step := st2 A B) (ap := apS) (l := l.toNat) (z := (("" : Str), ((0 : Int), (0 : Int)))) (UU m1 m2)
  have hl := EE_len M1 M2 (l := l) (UU m1 m2)
  have hU := U_le M1 M2
  have hes : ∀ e ∈ EE A B l (UU m1 m2), e.1.length ≤ 1100 ∧ ∀ c ∈ e.1.cps.toList, c < 128 := fun e he => ⟨by
    have := EE_word (UU m1 m2) e he
    unfold UU at this
    omega, EE_asc M1 _ e he⟩
  decreasing_tactic
  refine pairs_ok M1 M2 ?_
  decreasing_tactic
  change (EE A B l (UU m1 m2)).length ≤ UU m1 m2 at hl
  change ((EE A B l (UU m1 m2)).map (·.2)).Nodup at hnd
  generalize EE A B l (UU m1 m2) = es at *
  refine wlc_inv (fun rest acc g => ∃ (a b : List (Str × (Int × Int))) (o4 : Option Sv), es = a ++ b ∧ rest = queD b ∧ acc = hits (gl ea eb) a ∧
    g = { env := [some (.d (.tuple [.int l, rowsD A, .tuple (ea.map .int)])), some (.d (.tuple [.int l, rowsD B, .tuple (eb.map .int)])), some (.dic true (wordsD es)), none, o4], pen := p }) ?_ ?_ ⟨[], es, _, rfl, by simp [queD, ddKeys, wordsD, dD], rfl, rfl⟩
  · rintro d ds acc _ ⟨a, b, o4, e1, e2, rfl, rfl⟩
    match b, e2 with
    | e :: b, e2 =>
      have e2 : d :: ds = pD e.2 :: queD b := e2
      obtain ⟨rfl, rfl⟩ : d = pD e.2 ∧ ds = queD b := ⟨(List.cons.inj e2).1, (List.cons.inj e2).2⟩
      dsimp only [setD, setOwn, setDic, List.set_cons_zero, List.set_cons_succ, wipeE]
      decreasing_tactic
      refine so_rfl (in_mem _ _) ?_
      decreasing_tactic
      refine so_rfl (in_mem _ _) ?_
      decreasing_tactic
      show if gl ea eb e.2 = true then _ else _
      have hmem : e ∈ es := by rw [e1]; simp
      have hh : hits (gl ea eb) (a ++ [e]) = hits (gl ea eb) a ++ (if gl ea eb e.2 = true then [.str e.1] else []) := by
        unfold hits
        rw [List.filter_append, List.map_append]
        congr 1
        by_cases hg : gl ea eb e.2 = true
        · rw [if_pos hg, List.filter_cons, if_pos hg]; rfl
        · rw [if_neg hg, List.filter_cons, if_neg hg]; rfl
      have e3 : es = (a ++ [e]) ++ b := by rw [e1]; simp
      cases hg : gl ea eb e.2 with
      | true =>
        rw [hg, if_pos rfl] at hh
        refine ite_t ?_
        decreasing_tactic
        have hg2 : dfind (wordsD es) (NestedKey.tup [NestedKey.num e.2.1, NestedKey.num e.2.2]) = some (.str e.1) := find_some (fun e => .str e.1) hnd hmem
        refine so_rfl hg2 ?_
        decreasing_tactic
        refine ⟨?_, a ++ [e], b, _, e3, rfl, hh.symm, rfl⟩
        have h1 : (hits (gl ea eb) a).length ≤ a.length := by unfold hits; rw [List.length_map]; exact List.length_filter_le _ _
        have h2 : es.length = a.length + (b.length + 1) := by rw [e1, List.length_append, List.length_cons]
        unfold szL
        unfold UU at hl
        omega
      | false =>
        rw [hg, if_neg (by decide), List.append_nil] at hh
        refine ite_f ?_
        exact ⟨a ++ [e], b, _, e3, rfl, hh.symm, rfl⟩
  · rintro acc _ ⟨a, b, o4, e1, e2, rfl, rfl⟩
    obtain rfl : b = [] := by cases b with | nil => rfl | cons _ _ => cases e2
    rw [List.append_nil] at e1
    subst e1
    dsimp only [setD, setOwn, setDic, List.set_cons_zero, List.set_cons_succ, wipeE]
    decreasing_tactic
    refine so_rfl (a := !(hits (gl ea eb) es).isEmpty) (by show Option.map _ (eqD _ _) = _; rw [hits_eq hes]; rfl) ?_
    show if (!(hits (gl ea eb) es).isEmpty) = true then _ else _
    have hf : fst (gl ea eb) es = ((es.filter (fun e => gl ea eb e.2)).map (·.1)).head? := rfl
    rw [hf] at k
    have he : hits (gl ea eb) es = ((es.filter (fun e => gl ea eb e.2)).map (·.1)).map PyData.str := by unfold hits; rw [List.map_map]; rfl
    rw [he]
    generalize (es.filter (fun e => gl ea eb e.2)).map (·.1) = ws at *
    cases ws with
    | nil =>
      refine ite_f ?_
      decreasing_tactic
      exact k
    | cons w ws =>
      refine ite_t ?_
      decreasing_tactic
      refine so_rfl (a := .str w) (L2.atI_nat (xs := List.map PyData.str (w :: ws)) (j := 0) (by rfl)) ?_
      decreasing_tactic
      exact k
end
end K04
end
section
set_option Elab.async false
set_option linter.all false
set_option maxRecDepth 100000
set_option autoImplicit false
set_option maxHeartbeats 4000000
open PySem PySem.Spec
namespace K04
open DL L2 CL
open P04
section
variable {l m1 m2 : Int} {A B : List (List Int)} {ea eb : List Int}
/-- the word that parts two machines -/
abbrev wordP (l m1 m2 : Int) (A B : List (List Int)) (ea eb : List Int) : Option Str := fst (gl ea eb) (EE A B l (UU m1 m2))
theorem swap_eq : wordP l m2 m1 B A eb ea = wordP l m1 m2 A B ea eb := by
  unfold wordP
  rw [show UU m2 m1 = UU m1 m2 from Nat.mul_comm _ _]
  rw [show EE B A l (UU m1 m2) = (EE A B l (UU m1 m2)).map sw from E_sw (step := st2 A B) (step' := st2 B A) (fun s j => rfl) (UU m1 m2)]
  refine fst_sw fun s => ?_
  show ((decide (s.2 ∈ eb)) != (decide (s.1 ∈ ea))) = ((decide (s.1 ∈ ea)) != (decide (s.2 ∈ eb)))
  cases decide (s.2 ∈ eb) <;> cases decide (s.1 ∈ ea) <;> rfl
theorem word_len (M1 : Mok l m1 A ea) (M2 : Mok l m2 B eb) {w : Str} (h : wordP l m1 m2 A B ea eb = some w) : w.length ≤ 1024 ∧ ∀ c ∈ w.cps.toList, c < 128 := by
  have hm : w ∈ ((EE A B l (UU m1 m2)).filter (fun e => gl ea eb e.2)).map (·.1) := List.mem_of_mem_head? h
  obtain ⟨e, he, rfl⟩ := List.mem_map.mp hm
  have he := (List.mem_filter.mp he).1
  have := EE_word (UU m1 m2) e he
  have := U_le M1 M2
  exact ⟨by unfold UU at *; omega, EE_asc M1 _ e he⟩
theorem repr_pair (M1 : Mok l m1 A ea) (M2 : Mok l m2 B eb) : ∃ kp, bi1D .repr (.tuple [machD l A ea, machD l B eb]) = some (.d (.str kp)) := by
  have g1 := M1.gd
  have g2 := M2.gd
  have ok : okD (2 ^ 90) (.tuple [machD l A ea, machD l B eb]) := by
    rw [okD, okDs, okDs, okDs]
    exact ⟨g1.ok, g2.ok, trivial⟩
  have hw : wt (.tuple [machD l A ea, machD l B eb]) ≤ 2001 := by
    rw [wt, wts, wts, wts]
    have := g1.w; have := g2.w
    omega
  have d1 : (machD l A ea).depth ≤ 40 := by
    obtain ⟨h1, h2, h3⟩ := rows_gd M1.l1 M1.m1 M1.row
    simp only [machD, PyData.depth, PyData.depthAll, (ints_lay ea).2]
    omega
  have d2 : (machD l B eb).depth ≤ 40 := by
    obtain ⟨h1, h2, h3⟩ := rows_gd M2.l1 M2.m1 M2.row
    simp only [machD, PyData.depth, PyData.depthAll, (ints_lay eb).2]
    omega
  have h4 := text_of (Nat.le_refl _) ok
  generalize hd : PyData.tuple [machD l A ea, machD l B eb] = d at *
  refine ⟨d.shown, ?_⟩
  show (if d.showable = true ∧ d.hasDict = false ∧ d.depth ≤ 60 ∧ d.shown.length ≤ szL then some (R.d (.str d.shown)) else none) = _
  rw [if_pos ⟨show_of (Nat.le_refl _) ok, nd_of ok, by rw [← hd, PyData.depth, PyData.depthAll, PyData.depthAll, PyData.depthAll]; omega, by unfold szL; omega⟩]
theorem repr_word {r : Option Str} (h : ∀ w, r = some w → w.length ≤ 1024 ∧ ∀ c ∈ w.cps.toList, c < 128) : ∃ kp, bi1D .repr (.list [resD r, resD r]) = some (.d (.str kp)) := by
  cases r with
  | none => exact ⟨_, rfl⟩
  | some w =>
    obtain ⟨h1, h2⟩ := h w rfl
    have h3 := PySem.StrLaws.reprText_len w fun c hc => by have := h2 c hc; omega
    have h5 : (PyData.shown (.list [PyData.str w, PyData.str w])).length ≤ szL := by
      rw [show (PyData.shown (.list [PyData.str w, PyData.str w])) = listText [reprText w, reprText w] from rfl]
      have h6 := list_text [reprText w, reprText w]
      rw [piled_cons, piled_cons, show piled [] = 0 from rfl] at h6
      unfold szL
      omega
    refine ⟨PyData.shown (.list [PyData.str w, PyData.str w]), ?_⟩
    show (if (PyData.list [PyData.str w, PyData.str w]).showable = true ∧ (PyData.list [PyData.str w, PyData.str w]).hasDict = false ∧ (PyData.list [PyData.str w, PyData.str w]).depth ≤ 60 ∧ (PyData.shown (.list [PyData.str w, PyData.str w])).length ≤ szL then some (R.d (.str (PyData.shown (.list [PyData.str w, PyData.str w])))) else none) = _
    rw [if_pos ⟨rfl, rfl, by simp only [PyData.depth, PyData.depthAll]; omega, h5⟩]
end
end K04
end
section
set_option Elab.async false
set_option linter.all false
set_option maxRecDepth 100000
set_option autoImplicit false
set_option maxHeartbeats 4000000
open PySem PySem.Spec
namespace K04
open DL L2 CL
local macro_rules | `(tactic| decreasing_tactic) => `(tactic| repeat (first | ((with_reducible apply slot_d); · exact rfl) | ((with_reducible apply so_rfl); · exact rfl) | ((with_reducible apply wo_rfl); · exact rfl) | ((with_reducible refine (wb_cons (s := IS.set _ _)).mpr ?_); try dsimp only [setD, setOwn, setDic, List.set_cons_zero, List.set_cons_succ]) | ((with_reducible refine (wb_cons (s := IS.ret _)).mpr ?_); try dsimp only [setD, setOwn, setDic, List.set_cons_zero, List.set_cons_succ]) | ((with_reducible refine (wb_cons (s := IS.sto _ _ _)).mpr ?_); try dsimp only [setD, setOwn, setDic, List.set_cons_zero, List.set_cons_succ]) | ((with_reducible refine (wb_cons (s := IS.app _ _)).mpr ?_); try dsimp only [setD, setOwn, setDic, List.set_cons_zero, List.set_cons_succ]) | ((with_reducible refine (wb_cons (s := IS.own _ _)).mpr ?_); try dsimp only [setD, setOwn, setDic, List.set_cons_zero, List.set_cons_succ]) | ((with_reducible refine (wb_cons (s := IS.exp _)).mpr ?_); try dsimp only [setD, setOwn, setDic, List.set_cons_zero, List.set_cons_succ]) | ((with_reducible refine (wb_cons (s := IS.unp _ _)).mpr ?_); try dsimp only [setD, setOwn, setDic, List.set_cons_zero, List.set_cons_succ]) | ((with_reducible refine (wb_cons (s := IS.par _ _ _ _ _ _)).mpr ?_); try dsimp only [setD, setOwn, setDic, List.set_cons_zero, List.set_cons_succ]) | ((with_reducible refine (wb_cons (s := IS.pen _ _)).mpr ?_); try dsimp only [setD, setOwn, setDic, List.set_cons_zero, List.set_cons_succ]) | ((with_reducible refine (wb_cons (s := IS.iff _ _ _) (ss := [])).mpr ?_); try dsimp only [setD, setOwn, setDic, List.set_cons_zero, List.set_cons_succ]) | with_reducible refine ws_set.mpr ?_ | with_reducible refine ws_ret.mpr ?_ | with_reducible refine ws_iff.mpr ?_ | with_reducible refine ws_own.mpr ?_ | with_reducible refine ws_for.mpr ?_ | with_reducible refine ws_exp.mpr ?_ | with_reducible refine ws_unp.mpr ?_ | with_reducible refine ws_par.mpr ?_ | with_reducible refine ws_pen.mpr ?_ | with_reducible refine wb_nil.mpr ?_ | with_reducible refine we_slot.mpr ?_ | with_reducible refine we_cst.mpr ?_ | with_reducible refine we_bin.mpr ?_ | with_reducible refine we_bi1.mpr ?_ | with_reducible refine we_cmp.mpr ?_ | with_reducible refine we_idx.mpr ?_ | with_reducible refine we_call.mpr ?_ | with_reducible refine we_bop.mpr ?_ | with_reducible refine we_not.mpr ?_ | with_reducible refine we_chn.mpr ?_ | with_reducible refine we_tup.mpr ?_ | with_reducible refine we_lst.mpr ?_ | with_reducible refine we_neg.mpr ?_ | with_reducible refine we_ife.mpr ?_ | with_reducible refine we_bi2.mpr ?_ | with_reducible refine we_rngL.mpr ?_ | with_reducible refine we_slc.mpr ?_ | with_reducible refine we_rev.mpr ?_ | with_reducible refine we_lc.mpr ?_ | with_reducible refine we_idxS.mpr ?_ | with_reducible refine wr_of ?_ | with_reducible refine wkp_of ?_ | with_reducible refine wp_n ?_ | with_reducible refine wp_s ?_ | with_reducible refine wds_cons.mpr ?_ | with_reducible refine wds_nil.mpr ?_ | with_reducible refine was_cons.mpr ?_ | with_reducible refine was_nil.mpr ?_ | with_reducible refine wt_bop.mpr ?_ | with_reducible refine wt_not.mpr ?_ | with_reducible refine wt_cmp.mpr ?_ | with_reducible refine wt_chn.mpr ?_ | with_reducible refine wt_call.mpr ?_ | with_reducible refine wt_bi1.mpr ?_ | with_reducible refine wt_slot.mpr ?_ | with_reducible refine wt_idx.mpr ?_ | with_reducible refine wits_seq.mpr ?_ | with_reducible refine wits_rng.mpr ?_ | with_reducible refine wits_enu.mpr ?_ | with_reducible refine wits_zip.mpr ?_ | with_reducible refine cnd_n ?_ | with_reducible refine cnd_s ?_ | with_reducible refine we_allG ?_ | with_reducible refine wt_allG ?_ | with_reducible refine we_join.mpr ?_ | with_reducible refine we_lam.mpr ?_ | with_reducible refine we_din.mpr ?_ | with_reducible refine wt_din.mpr ?_ | with_reducible refine we_dnew1.mpr ?_ | with_reducible refine we_dcomp.mpr ?_ | with_reducible refine wits_dic.mpr ?_ | with_reducible refine ws_aug.mpr ?_ | with_reducible refine ws_dput.mpr ?_ | with_reducible refine wt_any_callS.mpr ?_ | ((with_reducible apply dic_p); · exact rfl) | ((with_reducible apply int_p); · exact rfl) | ((with_reducible apply callS_of); · exact rfl) | ((with_reducible apply dget_of); · exact rfl) | ((with_reducible apply slot_dic); · exact rfl) | ((with_reducible apply slot_fn); · exact rfl) | ((with_reducible apply slot_ofn); · exact rfl; · exact rfl) | ((with_reducible apply ite_y); · exact rfl) | ((with_reducible apply ite_n); · exact rfl) | with_reducible refine sto_pen ?_ | ((with_reducible apply slot_pen); · exact rfl; · exact rfl) | ((with_reducible apply slot_own); · exact rfl) | ((with_reducible apply slot_scr); · exact rfl) | ((with_reducible apply so_id); refine so_ite ?_ ?_; · (first | decide | omega | exact mul_small (by omega) (by omega) (by omega) (by omega))) | ((fail_if_success (first | with_reducible apply wb_id | with_reducible apply wc_id | with_reducible apply wk_id | with_reducible apply wfor_id | with_reducible apply wlc_id)); refine ⟨_, _, rfl, rfl, ?_⟩) | ((fail_if_success (first | with_reducible apply wb_id | with_reducible apply wc_id | with_reducible apply wk_id | with_reducible apply wfor_id | with_reducible apply wlc_id)); refine ⟨rfl, ?_⟩) | ((fail_if_success (first | with_reducible apply wb_id | with_reducible apply wc_id | with_reducible apply wk_id | with_reducible apply wfor_id | with_reducible apply wlc_id)); refine ⟨_, _, _, rfl, rfl, rfl, rfl, ?_⟩)))
open P04
section
variable {l m1 : Int} {A : List (List Int)} {ea : List Int}
abbrev bO : List IS := [.par 14 15 false false (.bi1 .repr (.tup [(.slot 5), (.slot 12)])) (.call 19 [(.slot 5), (.slot 12)]), .iff (.cmp .NotEq (.bi1 .repr (.lst [(.call 11 [(.slot 5), (.slot 12)]), (.call 11 [(.slot 12), (.slot 5)])])) (.bi1 .repr (.lst [(.slot 15), (.slot 15)]))) [.ret (.cst (.bool false))] [], .iff (.cmp .NotEq (.bi1 .repr (.tup [(.slot 5), (.slot 12)])) (.slot 14)) [.ret (.cst (.bool false))] []]
/-- a machine with l letters -/
def IsM (l : Int) (d : D) : Prop := ∃ (m : Int) (B : List (List Int)) (eb : List Int), d = machD l B eb ∧ Mok l m B eb
theorem others_ok (M1 : Mok l m1 A ea) {n : Nat} {xs : List D} (hx : ∀ d ∈ xs, IsM l d) {p : Option (List D)} {o0 o1 o2 o3 o4 o6 o7 o8 o9 o10 o11 o12 o13 o14 o15 o16 o17 o18 : Option Sv} {Q : Fl → G → Prop}
    (k : ∀ o12 o14 o15, Q .nx { env := [o0, o1, o2, o3, o4, some (.d (machD l A ea)), o6, o7, o8, o9, o10, o11, o12, o13, o14, o15, o16, o17, o18], pen := p }) :
    WFor fns (n + 140) (.one 12) bO xs { env := [o0, o1, o2, o3, o4, some (.d (machD l A ea)), o6, o7, o8, o9, o10, o11, o12, o13, o14, o15, o16, o17, o18], pen := p } Q := by
  refine wfor_inv (fun rest g => (∀ d ∈ rest, IsM l d) ∧ ∃ o12 o14 o15, g = { env := [o0, o1, o2, o3, o4, some (.d (machD l A ea)), o6, o7, o8, o9, o10, o11, o12, o13, o14, o15, o16, o17, o18], pen := p }) ?_ ?_ ⟨hx, _, _, _, rfl⟩
  · rintro d rest _ ⟨hd, o12, o14, o15, rfl⟩
    obtain ⟨m2, B, eb, rfl, M2⟩ := hd d List.mem_cons_self
    have hr : ∀ d ∈ rest, IsM l d := fun y hy => hd y (List.mem_cons_of_mem _ hy)
    obtain ⟨kp, hkp⟩ := repr_pair M1 M2
    obtain ⟨kr, hkr⟩ := repr_word (r := wordP l m1 m2 A B ea eb) fun w h => word_len M1 M2 h
    have hsw := swap_eq (l := l) (m1 := m1) (m2 := m2) (A := A) (B := B) (ea := ea) (eb := eb)
    refine so_rfl rfl ?_
    dsimp only [setD, setOwn, setDic, List.set_cons_zero, List.set_cons_succ]
    refine wb_cut (fun g1 => g1 = { env := [o0, o1, o2, o3, o4, some (.d (machD l A ea)), o6, o7, o8, o9, o10, o11, some (.d (machD l B eb)), o13, some (.d (.str kp)), some (.d (resD (wordP l m1 m2 A B ea eb))), o16, o17, o18], pen := p }) ?_ ?_
    · decreasing_tactic
      refine so_rfl hkp ?_
      decreasing_tactic
      refine lparting_ok M1 M2 ?_
      decreasing_tactic
      rfl
    rintro _ rfl
    refine wb_cons.mpr ?_
    decreasing_tactic
    refine parting_ok M1 M2 ?_
    decreasing_tactic
    refine parting_ok M2 M1 ?_
    decreasing_tactic
    rw [show fst (gl eb ea) (EE B A l (UU m2 m1)) = wordP l m1 m2 A B ea eb from hsw, show fst (gl ea eb) (EE A B l (UU m1 m2)) = wordP l m1 m2 A B ea eb from rfl]
    generalize wordP l m1 m2 A B ea eb = r at *
    refine so_rfl hkr ?_
    decreasing_tactic
    refine so_rfl hkr ?_
    decreasing_tactic
    refine ite_nd (fun h => absurd rfl h) (fun _ => ?_)
    decreasing_tactic
    refine so_rfl hkp ?_
    decreasing_tactic
    refine ite_nd (fun h => absurd rfl h) (fun _ => ?_)
    decreasing_tactic
    exact ⟨hr, _, _, _, rfl⟩
  · rintro _ ⟨_, o12, o14, o15, rfl⟩
    exact k _ _ _
end
end K04
end
section
set_option Elab.async false
set_option linter.all false
set_option maxRecDepth 100000
set_option autoImplicit false
set_option maxHeartbeats 4000000
open PySem PySem.Spec
namespace K04
open DL L2 CL
local macro_rules | `(tactic| decreasing_tactic) => `(tactic| repeat (first | ((with_reducible apply slot_d); · exact rfl) | ((with_reducible apply so_rfl); · exact rfl) | ((with_reducible apply wo_rfl); · exact rfl) | ((with_reducible refine (wb_cons (s := IS.set _ _)).mpr ?_); try dsimp only [setD, setOwn, setDic, List.set_cons_zero, List.set_cons_succ]) | ((with_reducible refine (wb_cons (s := IS.ret _)).mpr ?_); try dsimp only [setD, setOwn, setDic, List.set_cons_zero, List.set_cons_succ]) | ((with_reducible refine (wb_cons (s := IS.sto _ _ _)).mpr ?_); try dsimp only [setD, setOwn, setDic, List.set_cons_zero, List.set_cons_succ]) | ((with_reducible refine (wb_cons (s := IS.app _ _)).mpr ?_); try dsimp only [setD, setOwn, setDic, List.set_cons_zero, List.set_cons_succ]) | ((with_reducible refine (wb_cons (s := IS.own _ _)).mpr ?_); try dsimp only [setD, setOwn, setDic, List.set_cons_zero, List.set_cons_succ]) | ((with_reducible refine (wb_cons (s := IS.exp _)).mpr ?_); try dsimp only [setD, setOwn, setDic, List.set_cons_zero, List.set_cons_succ]) | ((with_reducible refine (wb_cons (s := IS.unp _ _)).mpr ?_); try dsimp only [setD, setOwn, setDic, List.set_cons_zero, List.set_cons_succ]) | ((with_reducible refine (wb_cons (s := IS.par _ _ _ _ _ _)).mpr ?_); try dsimp only [setD, setOwn, setDic, List.set_cons_zero, List.set_cons_succ]) | ((with_reducible refine (wb_cons (s := IS.pen _ _)).mpr ?_); try dsimp only [setD, setOwn, setDic, List.set_cons_zero, List.set_cons_succ]) | ((with_reducible refine (wb_cons (s := IS.iff _ _ _) (ss := [])).mpr ?_); try dsimp only [setD, setOwn, setDic, List.set_cons_zero, List.set_cons_succ]) | with_reducible refine ws_set.mpr ?_ | with_reducible refine ws_ret.mpr ?_ | with_reducible refine ws_iff.mpr ?_ | with_reducible refine ws_own.mpr ?_ | with_reducible refine ws_for.mpr ?_ | with_reducible refine ws_exp.mpr ?_ | with_reducible refine ws_unp.mpr ?_ | with_reducible refine ws_par.mpr ?_ | with_reducible refine ws_pen.mpr ?_ | with_reducible refine wb_nil.mpr ?_ | with_reducible refine we_slot.mpr ?_ | with_reducible refine we_cst.mpr ?_ | with_reducible refine we_bin.mpr ?_ | with_reducible refine we_bi1.mpr ?_ | with_reducible refine we_cmp.mpr ?_ | with_reducible refine we_idx.mpr ?_ | with_reducible refine we_call.mpr ?_ | with_reducible refine we_bop.mpr ?_ | with_reducible refine we_not.mpr ?_ | with_reducible refine we_chn.mpr ?_ | with_reducible refine we_tup.mpr ?_ | with_reducible refine we_lst.mpr ?_ | with_reducible refine we_neg.mpr ?_ | with_reducible refine we_ife.mpr ?_ | with_reducible refine we_bi2.mpr ?_ | with_reducible refine we_rngL.mpr ?_ | with_reducible refine we_slc.mpr ?_ | with_reducible refine we_rev.mpr ?_ | with_reducible refine we_lc.mpr ?_ | with_reducible refine we_idxS.mpr ?_ | with_reducible refine wr_of ?_ | with_reducible refine wkp_of ?_ | with_reducible refine wp_n ?_ | with_reducible refine wp_s ?_ | with_reducible refine wds_cons.mpr ?_ | with_reducible refine wds_nil.mpr ?_ | with_reducible refine was_cons.mpr ?_ | with_reducible refine was_nil.mpr ?_ | with_reducible refine wt_bop.mpr ?_ | with_reducible refine wt_not.mpr ?_ | with_reducible refine wt_cmp.mpr ?_ | with_reducible refine wt_chn.mpr ?_ | with_reducible refine wt_call.mpr ?_ | with_reducible refine wt_bi1.mpr ?_ | with_reducible refine wt_slot.mpr ?_ | with_reducible refine wt_idx.mpr ?_ | with_reducible refine wits_seq.mpr ?_ | with_reducible refine wits_rng.mpr ?_ | with_reducible refine wits_enu.mpr ?_ | with_reducible refine wits_zip.mpr ?_ | with_reducible refine cnd_n ?_ | with_reducible refine cnd_s ?_ | with_reducible refine we_allG ?_ | with_reducible refine wt_allG ?_ | with_reducible refine we_join.mpr ?_ | with_reducible refine we_lam.mpr ?_ | with_reducible refine we_din.mpr ?_ | with_reducible refine wt_din.mpr ?_ | with_reducible refine we_dnew1.mpr ?_ | with_reducible refine we_dcomp.mpr ?_ | with_reducible refine wits_dic.mpr ?_ | with_reducible refine ws_aug.mpr ?_ | with_reducible refine ws_dput.mpr ?_ | with_reducible refine wt_any_callS.mpr ?_ | ((with_reducible apply dic_p); · exact rfl) | ((with_reducible apply int_p); · exact rfl) | ((with_reducible apply callS_of); · exact rfl) | ((with_reducible apply dget_of); · exact rfl) | ((with_reducible apply slot_dic); · exact rfl) | ((with_reducible apply slot_fn); · exact rfl) | ((with_reducible apply slot_ofn); · exact rfl; · exact rfl) | ((with_reducible apply ite_y); · exact rfl) | ((with_reducible apply ite_n); · exact rfl) | with_reducible refine sto_pen ?_ | ((with_reducible apply slot_pen); · exact rfl; · exact rfl) | ((with_reducible apply slot_own); · exact rfl) | ((with_reducible apply slot_scr); · exact rfl) | ((with_reducible apply so_id); refine so_ite ?_ ?_; · (first | decide | omega | exact mul_small (by omega) (by omega) (by omega) (by omega))) | ((fail_if_success (first | with_reducible apply wb_id | with_reducible apply wc_id | with_reducible apply wk_id | with_reducible apply wfor_id | with_reducible apply wlc_id)); refine ⟨_, _, rfl, rfl, ?_⟩) | ((fail_if_success (first | with_reducible apply wb_id | with_reducible apply wc_id | with_reducible apply wk_id | with_reducible apply wfor_id | with_reducible apply wlc_id)); refine ⟨rfl, ?_⟩) | ((fail_if_success (first | with_reducible apply wb_id | with_reducible apply wc_id | with_reducible apply wk_id | with_reducible apply wfor_id | with_reducible apply wlc_id)); refine ⟨_, _, _, rfl, rfl, rfl, rfl, ?_⟩)))
open P04
theorem drawm_ok {n : Nat} {cs : List Int} {at_ cell l many : Int} (h0 : 0 ≤ at_) (h1 : at_ ≤ 800000) (hl0 : 1 ≤ l) (hl1 : l ≤ 3) (hm0 : 1 ≤ many) (hm1 : many ≤ 32) {Q : R → Option (List D) → Prop}
    (k : ∀ (nss : List (List Int)) (ends : List Int) (a c : Int), at_ ≤ a → a ≤ at_ + 400 → Mok l many nss ends → Q (.d (machD l nss ends)) (some (Pn cs a c))) :
    WC fns (n + 90) 17 [.pen, .d (.int l), .d (.int many)] (some (Pn cs at_ cell)) Q := by
  refine drawn_ok h0 h1 hl0 hl1 hm0 (by omega) fun rows ends a c la ua hr hrow hel hen hasc => ?_
  obtain ⟨nss, rfl, hn⟩ := rows_nss hrow
  refine k nss ends a c la ua ⟨hl0, hl1, hm0, hm1, by rw [List.length_map] at hr; exact hr, hn, hen, hasc, hel⟩
abbrev t4 : IS := .set 4 (.bin .Add (.cst (.int 1)) (.call 14 [(.slot 1), (.cst (.int 3))]))
abbrev t5 : IS := .set 5 (.call 17 [(.call 15 [(.slot 1)]), (.slot 4), (.bin .Add (.cst (.int 1)) (.call 14 [(.slot 1), (.call 16 [(.slot 1), (.lst [(.cst (.int 4)), (.cst (.int 12))])])]))])
abbrev t6 : IS := .set 6 (.bi1 .len (.idx (.slot 5) (.cst (.int 1))))
abbrev t7 : IS := .set 7 (.call 14 [(.slot 1), (.slot 6)])
/-- the first machine of a turn and one of its standings -/
theorem first_ok {n : Nat} {cs : List Int} {at_ cell : Int} (h0 : 0 ≤ at_) (h1 : at_ ≤ 600000) {rest : List IS} {o0 o2 o3 o4 o5 o6 o7 o8 o9 o10 o11 o12 o13 o14 o15 o16 o17 o18 : Option Sv} {Q : Fl → G → Prop}
    (k : ∀ (l many s : Int) (A : List (List Int)) (ea : List Int) (a c : Int), Mok l many A ea → many ≤ 12 → 0 ≤ s → s < many → at_ ≤ a → a ≤ at_ + 500 →
      WB fns (n + 194) rest { env := [o0, some .pen, o2, o3, some (.d (.int l)), some (.d (machD l A ea)), some (.d (.int many)), some (.d (.int s)), o8, o9, o10, o11, o12, o13, o14, o15, o16, o17, o18], pen := some (Pn cs a c) } Q) :
    WB fns (n + 198) (t4 :: t5 :: t6 :: t7 :: rest) { env := [o0, some .pen, o2, o3, o4, o5, o6, o7, o8, o9, o10, o11, o12, o13, o14, o15, o16, o17, o18], pen := some (Pn cs at_ cell) } Q := by
  refine (wb_cons (s := IS.set _ _)).mpr ?_
  decreasing_tactic
  refine take8 h0 (by omega) (by decide) (by decide) fun z a c hz hz2 la ua => ?_
  decreasing_tactic
  refine anew9 ?_
  decreasing_tactic
  refine one10 (by omega) (by omega) (by decide) (by decide) fun x hx a2 c2 la2 ua2 => ?_
  obtain ⟨q, rfl, q0, q1⟩ : ∃ q : Int, x = .int q ∧ 4 ≤ q ∧ q ≤ 12 := by
    simp only [List.mem_cons, List.not_mem_nil, or_false] at hx
    rcases hx with rfl | rfl
    · exact ⟨4, rfl, by decide, by decide⟩
    · exact ⟨12, rfl, by decide, by decide⟩
  decreasing_tactic
  refine take8 (by omega) (by omega) (by omega) (by omega) fun y a3 c3 hy hy2 la3 ua3 => ?_
  decreasing_tactic
  refine drawm_ok (by omega) (by omega) (by omega) (by omega) (by omega) (by omega) fun A ea a4 c4 la4 ua4 M => ?_
  decreasing_tactic
  have hl : (A.length : Int) = 1 + y := M.len
  rw [show (A.map fun ns => PyData.tuple (ns.map PyData.int)).length = A.length from List.length_map .., hl]
  refine take8 (by omega) (by omega) (by omega) (by omega) fun s a5 c5 hs hs2 la5 ua5 => ?_
  decreasing_tactic
  dsimp only [setD, setOwn, setDic, List.set_cons_zero, List.set_cons_succ]
  exact k (1 + z) (1 + y) s A ea a5 c5 M (by omega) hs hs2 (by omega) (by omega)
abbrev t8 : IS := .set 8 (.ife (.cmp .In (.slot 7) (.idx (.slot 5) (.cst (.int 2)))) (.bi1 .tuple (.lc (.slot 17) (.one 17) .seq [(.idx (.slot 5) (.cst (.int 2)))] (some (.cmp .NotEq (.slot 17) (.slot 7))) [17])) (.bi1 .tuple (.bi1 .sorted (.bin .Add (.idx (.slot 5) (.cst (.int 2))) (.tup [(.slot 7)])))))
/-- the ends with one of them taken away or put to them -/
def tog (s : Int) (ea : List Int) : List Int := if s ∈ ea then ea.filter (fun e => decide (e ≠ s)) else sortI (ea ++ [s])
theorem tog_mok {l many s : Int} {A : List (List Int)} {ea : List Int} (M : Mok l many A ea) (hel : ea.length < 40) (h0 : 0 ≤ s) (h1 : s < many) : Mok l many A (tog s ea) := by
  have hm := M.m1
  unfold tog
  by_cases h : s ∈ ea
  · rw [if_pos h]
    exact { M with
      en := fun i hi => M.en i (List.mem_filter.mp hi).1
      asc := List.Pairwise.filter _ M.asc
      el := Nat.le_trans (List.length_filter_le _ _) M.el }
  · rw [if_neg h]
    have hp := sortI_perm (ea ++ [s])
    have ha := sortI_asc (ea ++ [s])
    have hnd : (sortI (ea ++ [s])).Nodup := by
      rw [hp.nodup_iff, List.nodup_append]
      refine ⟨M.asc.imp (fun {a b} h => by omega), by simp, fun a h1 b h2 e => h ?_⟩
      rw [← List.mem_singleton.mp h2, ← e]; exact h1
    exact { M with
      en := fun i hi => by
        rcases List.mem_append.mp (hp.mem_iff.mp hi) with q | q
        · exact M.en i q
        · rw [List.mem_singleton.mp q]; exact ⟨h0, h1⟩
      asc := (ha.and hnd).imp (fun {a b} h => by have := h.1; have := h.2; omega)
      el := by rw [hp.length_eq, List.length_append, List.length_singleton]; omega }
theorem asc_len {many : Int} : ∀ {es : List Int} {lo : Int}, es.Pairwise (· < ·) → (∀ i ∈ es, lo ≤ i ∧ i < many) → (es.length : Int) ≤ max 0 (many - lo)
  | [], _, _, _ => by simp; omega
  | e :: es, lo, hp, h => by
    obtain ⟨h1, h2⟩ := List.pairwise_cons.mp hp
    have he := h e List.mem_cons_self
    have := asc_len (lo := e + 1) h2 (fun i hi => ⟨by have := h1 i hi; omega, (h i (List.mem_cons_of_mem _ hi)).2⟩)
    rw [List.length_cons]
    omega
end K04
end
section
set_option Elab.async false
set_option linter.all false
set_option maxRecDepth 100000
set_option autoImplicit false
set_option maxHeartbeats 4000000
open PySem PySem.Spec
namespace K04
open DL L2 CL
local macro_rules | `(tactic| decreasing_tactic) => `(tactic| repeat (first | ((with_reducible apply slot_d); · exact rfl) | ((with_reducible apply so_rfl); · exact rfl) | ((with_reducible apply wo_rfl); · exact rfl) | ((with_reducible refine (wb_cons (s := IS.set _ _)).mpr ?_); try dsimp only [setD, setOwn, setDic, List.set_cons_zero, List.set_cons_succ]) | ((with_reducible refine (wb_cons (s := IS.ret _)).mpr ?_); try dsimp only [setD, setOwn, setDic, List.set_cons_zero, List.set_cons_succ]) | ((with_reducible refine (wb_cons (s := IS.sto _ _ _)).mpr ?_); try dsimp only [setD, setOwn, setDic, List.set_cons_zero, List.set_cons_succ]) | ((with_reducible refine (wb_cons (s := IS.app _ _)).mpr ?_); try dsimp only [setD, setOwn, setDic, List.set_cons_zero, List.set_cons_succ]) | ((with_reducible refine (wb_cons (s := IS.own _ _)).mpr ?_); try dsimp only [setD, setOwn, setDic, List.set_cons_zero, List.set_cons_succ]) | ((with_reducible refine (wb_cons (s := IS.exp _)).mpr ?_); try dsimp only [setD, setOwn, setDic, List.set_cons_zero, List.set_cons_succ]) | ((with_reducible refine (wb_cons (s := IS.unp _ _)).mpr ?_); try dsimp only [setD, setOwn, setDic, List.set_cons_zero, List.set_cons_succ]) | ((with_reducible refine (wb_cons (s := IS.par _ _ _ _ _ _)).mpr ?_); try dsimp only [setD, setOwn, setDic, List.set_cons_zero, List.set_cons_succ]) | ((with_reducible refine (wb_cons (s := IS.pen _ _)).mpr ?_); try dsimp only [setD, setOwn, setDic, List.set_cons_zero, List.set_cons_succ]) | ((with_reducible refine (wb_cons (s := IS.iff _ _ _) (ss := [])).mpr ?_); try dsimp only [setD, setOwn, setDic, List.set_cons_zero, List.set_cons_succ]) | with_reducible refine ws_set.mpr ?_ | with_reducible refine ws_ret.mpr ?_ | with_reducible refine ws_iff.mpr ?_ | with_reducible refine ws_own.mpr ?_ | with_reducible refine ws_for.mpr ?_ | with_reducible refine ws_exp.mpr ?_ | with_reducible refine ws_unp.mpr ?_ | with_reducible refine ws_par.mpr ?_ | with_reducible refine ws_pen.mpr ?_ | with_reducible refine wb_nil.mpr ?_ | with_reducible refine we_slot.mpr ?_ | with_reducible refine we_cst.mpr ?_ | with_reducible refine we_bin.mpr ?_ | with_reducible refine we_bi1.mpr ?_ | with_reducible refine we_cmp.mpr ?_ | with_reducible refine we_idx.mpr ?_ | with_reducible refine we_call.mpr ?_ | with_reducible refine we_bop.mpr ?_ | with_reducible refine we_not.mpr ?_ | with_reducible refine we_chn.mpr ?_ | with_reducible refine we_tup.mpr ?_ | with_reducible refine we_lst.mpr ?_ | with_reducible refine we_neg.mpr ?_ | with_reducible refine we_ife.mpr ?_ | with_reducible refine we_bi2.mpr ?_ | with_reducible refine we_rngL.mpr ?_ | with_reducible refine we_slc.mpr ?_ | with_reducible refine we_rev.mpr ?_ | with_reducible refine we_lc.mpr ?_ | with_reducible refine we_idxS.mpr ?_ | with_reducible refine wr_of ?_ | with_reducible refine wkp_of ?_ | with_reducible refine wp_n ?_ | with_reducible refine wp_s ?_ | with_reducible refine wds_cons.mpr ?_ | with_reducible refine wds_nil.mpr ?_ | with_reducible refine was_cons.mpr ?_ | with_reducible refine was_nil.mpr ?_ | with_reducible refine wt_bop.mpr ?_ | with_reducible refine wt_not.mpr ?_ | with_reducible refine wt_cmp.mpr ?_ | with_reducible refine wt_chn.mpr ?_ | with_reducible refine wt_call.mpr ?_ | with_reducible refine wt_bi1.mpr ?_ | with_reducible refine wt_slot.mpr ?_ | with_reducible refine wt_idx.mpr ?_ | with_reducible refine wits_seq.mpr ?_ | with_reducible refine wits_rng.mpr ?_ | with_reducible refine wits_enu.mpr ?_ | with_reducible refine wits_zip.mpr ?_ | with_reducible refine cnd_n ?_ | with_reducible refine cnd_s ?_ | with_reducible refine we_allG ?_ | with_reducible refine wt_allG ?_ | with_reducible refine we_join.mpr ?_ | with_reducible refine we_lam.mpr ?_ | with_reducible refine we_din.mpr ?_ | with_reducible refine wt_din.mpr ?_ | with_reducible refine we_dnew1.mpr ?_ | with_reducible refine we_dcomp.mpr ?_ | with_reducible refine wits_dic.mpr ?_ | with_reducible refine ws_aug.mpr ?_ | with_reducible refine ws_dput.mpr ?_ | with_reducible refine wt_any_callS.mpr ?_ | ((with_reducible apply dic_p); · exact rfl) | ((with_reducible apply int_p); · exact rfl) | ((with_reducible apply callS_of); · exact rfl) | ((with_reducible apply dget_of); · exact rfl) | ((with_reducible apply slot_dic); · exact rfl) | ((with_reducible apply slot_fn); · exact rfl) | ((with_reducible apply slot_ofn); · exact rfl; · exact rfl) | ((with_reducible apply ite_y); · exact rfl) | ((with_reducible apply ite_n); · exact rfl) | with_reducible refine sto_pen ?_ | ((with_reducible apply slot_pen); · exact rfl; · exact rfl) | ((with_reducible apply slot_own); · exact rfl) | ((with_reducible apply slot_scr); · exact rfl) | ((with_reducible apply so_id); refine so_ite ?_ ?_; · (first | decide | omega | exact mul_small (by omega) (by omega) (by omega) (by omega))) | ((fail_if_success (first | with_reducible apply wb_id | with_reducible apply wc_id | with_reducible apply wk_id | with_reducible apply wfor_id | with_reducible apply wlc_id)); refine ⟨_, _, rfl, rfl, ?_⟩) | ((fail_if_success (first | with_reducible apply wb_id | with_reducible apply wc_id | with_reducible apply wk_id | with_reducible apply wfor_id | with_reducible apply wlc_id)); refine ⟨rfl, ?_⟩) | ((fail_if_success (first | with_reducible apply wb_id | with_reducible apply wc_id | with_reducible apply wk_id | with_reducible apply wfor_id | with_reducible apply wlc_id)); refine ⟨_, _, _, rfl, rfl, rfl, rfl, ?_⟩)))
open P04
theorem ints_D (ns : List Int) : intsD (ns.map PyData.int) = some ns := intsD_map ns
theorem tog_ok {l many s : Int} {A : List (List Int)} {ea : List Int} (M : Mok l many A ea) {n : Nat} {rest : List IS} {p : Option (List D)} {o0 o1 o2 o3 o4 o6 o8 o9 o10 o11 o12 o13 o14 o15 o16 o17 o18 : Option Sv} {Q : Fl → G → Prop}
    (k : ∀ o17, WB fns (n + 50) rest { env := [o0, o1, o2, o3, o4, some (.d (machD l A ea)), o6, some (.d (.int s)), some (.d (.tuple ((tog s ea).map .int))), o9, o10, o11, o12, o13, o14, o15, o16, o17, o18], pen := p } Q) :
    WB fns (n + 51) (t8 :: rest) { env := [o0, o1, o2, o3, o4, some (.d (machD l A ea)), o6, some (.d (.int s)), o8, o9, o10, o11, o12, o13, o14, o15, o16, o17, o18], pen := p } Q := by
  have el := M.el
  refine (wb_cons (s := IS.set _ _)).mpr ?_
  decreasing_tactic
  refine so_rfl (in_mem s ea) ?_
  decreasing_tactic
  show if decide (s ∈ ea) = true then _ else _
  refine ite_d (fun h => ?_) (fun h => ?_)
  · decreasing_tactic
    refine wlc_inv (fun rest acc g => ∃ (a b : List Int) (o17 : Option Sv), ea = a ++ b ∧ rest = b.map .int ∧ acc = (a.filter (fun e => decide (e ≠ s))).map .int ∧
      g = { env := [o0, o1, o2, o3, o4, some (.d (machD l A ea)), o6, some (.d (.int s)), o8, o9, o10, o11, o12, o13, o14, o15, o16, o17, o18], pen := p }) ?_ ?_ ⟨[], ea, _, rfl, rfl, rfl, rfl⟩
    · rintro d ds acc _ ⟨a, b, o17, e1, e2, rfl, rfl⟩
      match b, e2 with
      | e :: b, e2 =>
        obtain ⟨rfl, rfl⟩ : d = .int e ∧ ds = b.map .int := ⟨(List.cons.inj e2).1, (List.cons.inj e2).2⟩
        dsimp only [setD, setOwn, setDic, List.set_cons_zero, List.set_cons_succ, wipeE]
        decreasing_tactic
        have e3 : ea = (a ++ [e]) ++ b := by rw [e1]; simp
        have hlen : a.length < szL := by rw [e1, List.length_append] at el; unfold szL; omega
        show if (!decide (e = s)) = true then _ else _
        refine ite_nd (fun c => ?_) (fun c => ?_)
        · decreasing_tactic
          refine ⟨?_, a ++ [e], b, _, e3, rfl, ?_, rfl⟩
          · rw [List.length_map]; exact Nat.lt_of_le_of_lt (List.length_filter_le _ _) hlen
          · rw [List.filter_append, List.map_append, List.filter_cons, if_pos (decide_eq_true c)]; rfl
        · refine ⟨a ++ [e], b, _, e3, rfl, ?_, rfl⟩
          rw [List.filter_append, List.map_append, List.filter_cons, if_neg (by simp [c])]
          simp
    · rintro acc _ ⟨a, b, o17, e1, e2, rfl, rfl⟩
      obtain rfl : b = [] := by cases b with | nil => rfl | cons _ _ => cases e2
      rw [List.append_nil] at e1
      subst e1
      dsimp only [setD, setOwn, setDic, List.set_cons_zero, List.set_cons_succ, wipeE]
      decreasing_tactic
      dsimp only [setD, setOwn, setDic, List.set_cons_zero, List.set_cons_succ]
      have q := k none
      unfold tog at q
      rw [if_pos h] at q
      exact q
  · decreasing_tactic
    refine so_ite (by rw [List.length_map]; show ea.length + 1 ≤ szL; unfold szL; omega) ?_
    decreasing_tactic
    refine so_rfl (a := .fr ((sortI (ea ++ [s])).map .int)) ?_ ?_
    · have e : ea.map PyData.int ++ [.int s] = (ea ++ [s]).map .int := by rw [List.map_append]; rfl
      show (match intsD (ea.map PyData.int ++ [.int s]) with | some ns => some (R.fr ((sortI ns).map PyData.int)) | none => none) = _
      rw [e, ints_D]
    decreasing_tactic
    dsimp only [setD, setOwn, setDic, List.set_cons_zero, List.set_cons_succ]
    have q := k o17
    unfold tog at q
    rw [if_neg h] at q
    exact q
end K04
end
section
set_option Elab.async false
set_option linter.all false
set_option maxRecDepth 100000
set_option autoImplicit false
set_option maxHeartbeats 4000000
open PySem PySem.Spec
namespace K04
open DL L2 CL
local macro_rules | `(tactic| decreasing_tactic) => `(tactic| repeat (first | ((with_reducible apply slot_d); · exact rfl) | ((with_reducible apply so_rfl); · exact rfl) | ((with_reducible apply wo_rfl); · exact rfl) | ((with_reducible refine (wb_cons (s := IS.set _ _)).mpr ?_); try dsimp only [setD, setOwn, setDic, List.set_cons_zero, List.set_cons_succ]) | ((with_reducible refine (wb_cons (s := IS.ret _)).mpr ?_); try dsimp only [setD, setOwn, setDic, List.set_cons_zero, List.set_cons_succ]) | ((with_reducible refine (wb_cons (s := IS.sto _ _ _)).mpr ?_); try dsimp only [setD, setOwn, setDic, List.set_cons_zero, List.set_cons_succ]) | ((with_reducible refine (wb_cons (s := IS.app _ _)).mpr ?_); try dsimp only [setD, setOwn, setDic, List.set_cons_zero, List.set_cons_succ]) | ((with_reducible refine (wb_cons (s := IS.own _ _)).mpr ?_); try dsimp only [setD, setOwn, setDic, List.set_cons_zero, List.set_cons_succ]) | ((with_reducible refine (wb_cons (s := IS.exp _)).mpr ?_); try dsimp only [setD, setOwn, setDic, List.set_cons_zero, List.set_cons_succ]) | ((with_reducible refine (wb_cons (s := IS.unp _ _)).mpr ?_); try dsimp only [setD, setOwn, setDic, List.set_cons_zero, List.set_cons_succ]) | ((with_reducible refine (wb_cons (s := IS.par _ _ _ _ _ _)).mpr ?_); try dsimp only [setD, setOwn, setDic, List.set_cons_zero, List.set_cons_succ]) | ((with_reducible refine (wb_cons (s := IS.pen _ _)).mpr ?_); try dsimp only [setD, setOwn, setDic, List.set_cons_zero, List.set_cons_succ]) | ((with_reducible refine (wb_cons (s := IS.iff _ _ _) (ss := [])).mpr ?_); try dsimp only [setD, setOwn, setDic, List.set_cons_zero, List.set_cons_succ]) | with_reducible refine ws_set.mpr ?_ | with_reducible refine ws_ret.mpr ?_ | with_reducible refine ws_iff.mpr ?_ | with_reducible refine ws_own.mpr ?_ | with_reducible refine ws_for.mpr ?_ | with_reducible refine ws_exp.mpr ?_ | with_reducible refine ws_unp.mpr ?_ | with_reducible refine ws_par.mpr ?_ | with_reducible refine ws_pen.mpr ?_ | with_reducible refine wb_nil.mpr ?_ | with_reducible refine we_slot.mpr ?_ | with_reducible refine we_cst.mpr ?_ | with_reducible refine we_bin.mpr ?_ | with_reducible refine we_bi1.mpr ?_ | with_reducible refine we_cmp.mpr ?_ | with_reducible refine we_idx.mpr ?_ | with_reducible refine we_call.mpr ?_ | with_reducible refine we_bop.mpr ?_ | with_reducible refine we_not.mpr ?_ | with_reducible refine we_chn.mpr ?_ | with_reducible refine we_tup.mpr ?_ | with_reducible refine we_lst.mpr ?_ | with_reducible refine we_neg.mpr ?_ | with_reducible refine we_ife.mpr ?_ | with_reducible refine we_bi2.mpr ?_ | with_reducible refine we_rngL.mpr ?_ | with_reducible refine we_slc.mpr ?_ | with_reducible refine we_rev.mpr ?_ | with_reducible refine we_lc.mpr ?_ | with_reducible refine we_idxS.mpr ?_ | with_reducible refine wr_of ?_ | with_reducible refine wkp_of ?_ | with_reducible refine wp_n ?_ | with_reducible refine wp_s ?_ | with_reducible refine wds_cons.mpr ?_ | with_reducible refine wds_nil.mpr ?_ | with_reducible refine was_cons.mpr ?_ | with_reducible refine was_nil.mpr ?_ | with_reducible refine wt_bop.mpr ?_ | with_reducible refine wt_not.mpr ?_ | with_reducible refine wt_cmp.mpr ?_ | with_reducible refine wt_chn.mpr ?_ | with_reducible refine wt_call.mpr ?_ | with_reducible refine wt_bi1.mpr ?_ | with_reducible refine wt_slot.mpr ?_ | with_reducible refine wt_idx.mpr ?_ | with_reducible refine wits_seq.mpr ?_ | with_reducible refine wits_rng.mpr ?_ | with_reducible refine wits_enu.mpr ?_ | with_reducible refine wits_zip.mpr ?_ | with_reducible refine cnd_n ?_ | with_reducible refine cnd_s ?_ | with_reducible refine we_allG ?_ | with_reducible refine wt_allG ?_ | with_reducible refine we_join.mpr ?_ | with_reducible refine we_lam.mpr ?_ | with_reducible refine we_din.mpr ?_ | with_reducible refine wt_din.mpr ?_ | with_reducible refine we_dnew1.mpr ?_ | with_reducible refine we_dcomp.mpr ?_ | with_reducible refine wits_dic.mpr ?_ | with_reducible refine ws_aug.mpr ?_ | with_reducible refine ws_dput.mpr ?_ | with_reducible refine wt_any_callS.mpr ?_ | ((with_reducible apply dic_p); · exact rfl) | ((with_reducible apply int_p); · exact rfl) | ((with_reducible apply callS_of); · exact rfl) | ((with_reducible apply dget_of); · exact rfl) | ((with_reducible apply slot_dic); · exact rfl) | ((with_reducible apply slot_fn); · exact rfl) | ((with_reducible apply slot_ofn); · exact rfl; · exact rfl) | ((with_reducible apply ite_y); · exact rfl) | ((with_reducible apply ite_n); · exact rfl) | with_reducible refine sto_pen ?_ | ((with_reducible apply slot_pen); · exact rfl; · exact rfl) | ((with_reducible apply slot_own); · exact rfl) | ((with_reducible apply slot_scr); · exact rfl) | ((with_reducible apply so_id); refine so_ite ?_ ?_; · (first | decide | omega | exact mul_small (by omega) (by omega) (by omega) (by omega))) | ((fail_if_success (first | with_reducible apply wb_id | with_reducible apply wc_id | with_reducible apply wk_id | with_reducible apply wfor_id | with_reducible apply wlc_id)); refine ⟨_, _, rfl, rfl, ?_⟩) | ((fail_if_success (first | with_reducible apply wb_id | with_reducible apply wc_id | with_reducible apply wk_id | with_reducible apply wfor_id | with_reducible apply wlc_id)); refine ⟨rfl, ?_⟩) | ((fail_if_success (first | with_reducible apply wb_id | with_reducible apply wc_id | with_reducible apply wk_id | with_reducible apply wfor_id | with_reducible apply wlc_id)); refine ⟨_, _, _, rfl, rfl, rfl, rfl, ?_⟩)))
open P04
abbrev t9 : IS := .set 9 (.lc (.bi1 .tuple (.lc (.ife (.bop true (.cmp .Eq (.slot 18) (.slot 7)) (.cmp .Eq (.call 14 [(.slot 1), (.cst (.int 2))]) (.cst (.int 0)))) (.slot 6) (.slot 18)) (.one 18) .seq [(.slot 13)] none [18])) (.one 13) .seq [(.idx (.slot 5) (.cst (.int 1)))] none [13])
/-- a row of the twin: entries below one more -/
def RowT (l many : Int) (ns : List Int) : Prop := (ns.length : Int) = l ∧ ∀ i ∈ ns, 0 ≤ i ∧ i < many
theorem twin_ok {l many s : Int} {A : List (List Int)} {ea : List Int} (M : Mok l many A ea) (h12 : many ≤ 12) {n : Nat} {cs : List Int} {at_ cell : Int} (h0 : 0 ≤ at_) (h1 : at_ ≤ 700000) {rest : List IS} {o0 o2 o3 o4 o8 o9 o10 o11 o12 o13 o14 o15 o16 o17 o18 : Option Sv} {Q : Fl → G → Prop}
    (k : ∀ (T : List (List Int)) (a c : Int) (o13 o18 : Option Sv), (T.length : Int) = many → (∀ ns ∈ T, RowT l (many + 1) ns) → at_ ≤ a → a ≤ at_ + 40 →
      WB fns (n + 90) rest { env := [o0, some .pen, o2, o3, o4, some (.d (machD l A ea)), some (.d (.int many)), some (.d (.int s)), o8, some (.d (.list (T.map fun ns => .tuple (ns.map .int)))), o10, o11, o12, o13, o14, o15, o16, o17, o18], pen := some (Pn cs a c) } Q) :
    WB fns (n + 91) (t9 :: rest) { env := [o0, some .pen, o2, o3, o4, some (.d (machD l A ea)), some (.d (.int many)), some (.d (.int s)), o8, o9, o10, o11, o12, o13, o14, o15, o16, o17, o18], pen := some (Pn cs at_ cell) } Q := by
  have l0 := M.l0
  have l1 := M.l1
  have m0 := M.m0
  have hA := M.len
  refine (wb_cons (s := IS.set _ _)).mpr ?_
  decreasing_tactic
  refine wlc_inv (fun rest acc g => ∃ (todo T : List (List Int)) (a c : Int) (o13 o18 : Option Sv), rest = todo.map (fun ns => .tuple (ns.map .int)) ∧ acc = T.map (fun ns => .tuple (ns.map .int)) ∧ (∀ ns ∈ todo, RowT l many ns) ∧ (∀ ns ∈ T, RowT l (many + 1) ns) ∧ T.length + todo.length = A.length ∧ at_ ≤ a ∧ a + 3 * todo.length ≤ at_ + 3 * A.length ∧
    g = { env := [o0, some .pen, o2, o3, o4, some (.d (machD l A ea)), some (.d (.int many)), some (.d (.int s)), o8, o9, o10, o11, o12, o13, o14, o15, o16, o17, o18], pen := some (Pn cs a c) }) ?_ ?_
    ⟨A, [], at_, cell, _, _, rfl, rfl, M.row, (fun ns h => nomatch h), by simp, Int.le_refl _, Int.le_refl _, rfl⟩
  · rintro d ds acc _ ⟨todo, T, a, c, o13, o18, e1, rfl, ht, hT, hlen, la, ua, rfl⟩
    match todo, e1 with
    | ns :: todo, e1 =>
      obtain ⟨rfl, rfl⟩ : d = .tuple (ns.map .int) ∧ ds = todo.map (fun ns => .tuple (ns.map .int)) := ⟨(List.cons.inj e1).1, (List.cons.inj e1).2⟩
      obtain ⟨r1, r2⟩ := ht ns List.mem_cons_self
      have ht2 : ∀ x ∈ todo, RowT l many x := fun x hx => ht x (List.mem_cons_of_mem _ hx)
      rw [List.length_cons] at hlen ua
      dsimp only [setD, setOwn, setDic, List.set_cons_zero, List.set_cons_succ, wipeE]
      decreasing_tactic
      refine wlc_inv (fun rest acc g => ∃ (td dn : List Int) (a2 c : Int) (o18 : Option Sv), rest = td.map .int ∧ acc = dn.map .int ∧ (∀ i ∈ td, 0 ≤ i ∧ i < many) ∧ (∀ i ∈ dn, 0 ≤ i ∧ i < many + 1) ∧ dn.length + td.length = ns.length ∧ a ≤ a2 ∧ a2 + td.length ≤ a + ns.length ∧
        g = { env := [o0, some .pen, o2, o3, o4, some (.d (machD l A ea)), some (.d (.int many)), some (.d (.int s)), o8, o9, o10, o11, o12, some (.d (.tuple (ns.map .int))), o14, o15, o16, o17, o18], pen := some (Pn cs a2 c) }) ?_ ?_
        ⟨ns, [], a, c, _, rfl, rfl, r2, (fun i h => nomatch h), by simp, Int.le_refl _, Int.le_refl _, rfl⟩
      · rintro d ds acc _ ⟨td, dn, a2, c, o18, e1, rfl, h3, h4, h5, la2, ua2, rfl⟩
        match td, e1 with
        | e :: td, e1 =>
          obtain ⟨rfl, rfl⟩ : d = .int e ∧ ds = td.map .int := ⟨(List.cons.inj e1).1, (List.cons.inj e1).2⟩
          have he := h3 e List.mem_cons_self
          have h6 : ∀ x ∈ td, 0 ≤ x ∧ x < many := fun x hx => h3 x (List.mem_cons_of_mem _ hx)
          rw [List.length_cons] at h5 ua2
          dsimp only [setD, setOwn, setDic, List.set_cons_zero, List.set_cons_succ, wipeE]
          decreasing_tactic
          have hz : (dn.map PyData.int).length < szL := by rw [List.length_map]; unfold szL; omega
          have fin : ∀ x : Int, 0 ≤ x ∧ x < many + 1 → (∀ i ∈ dn ++ [x], 0 ≤ i ∧ i < many + 1) ∧ (dn ++ [x]).length + td.length = ns.length ∧ dn.map PyData.int ++ [PyData.int x] = (dn ++ [x]).map .int := by
            intro x hx
            refine ⟨fun i hi => ?_, by rw [List.length_append, List.length_singleton]; omega, by rw [List.map_append]; rfl⟩
            rcases List.mem_append.mp hi with q | q
            · exact h4 i q
            · rw [List.mem_singleton.mp q]; exact hx
          show if decide (e = s) = true then _ else _
          refine ite_d (fun q => ?_) (fun q => ?_)
          · decreasing_tactic
            refine take8 (by omega) (by omega) (by decide) (by decide) fun z a3 c3 hz0 hz1 la3 ua3 => ?_
            decreasing_tactic
            show if decide (z = 0) = true then _ else _
            refine ite_d (fun q2 => ?_) (fun q2 => ?_)
            · decreasing_tactic
              obtain ⟨f1, f2, f3⟩ := fin many (by omega)
              exact ⟨hz, td, dn ++ [many], a3, c3, _, rfl, f3, h6, f1, f2, by omega, by omega, rfl⟩
            · decreasing_tactic
              obtain ⟨f1, f2, f3⟩ := fin e (by omega)
              exact ⟨hz, td, dn ++ [e], a3, c3, _, rfl, f3, h6, f1, f2, by omega, by omega, rfl⟩
          · show if decide (e = s) = true then _ else _
            refine ite_d (fun q3 => absurd q3 q) (fun _ => ?_)
            decreasing_tactic
            obtain ⟨f1, f2, f3⟩ := fin e (by omega)
            exact ⟨hz, td, dn ++ [e], a2, c, _, rfl, f3, h6, f1, f2, by omega, by omega, rfl⟩
      · rintro acc _ ⟨td, dn, a2, c, o18, e1, rfl, h3, h4, h5, la2, ua2, rfl⟩
        obtain rfl : td = [] := by cases td with | nil => rfl | cons _ _ => cases e1
        dsimp only [setD, setOwn, setDic, List.set_cons_zero, List.set_cons_succ, wipeE]
        decreasing_tactic
        rw [List.length_nil] at h5 ua2
        refine ⟨by rw [List.length_map]; unfold szL; omega, todo, T ++ [dn], a2, c, _, _, rfl, by rw [List.map_append]; rfl, ht2, ?_, by rw [List.length_append, List.length_singleton]; omega, by omega, by omega, rfl⟩
        intro x hx
        rcases List.mem_append.mp hx with hx | hx
        · exact hT x hx
        · rw [List.mem_singleton.mp hx]; exact ⟨by omega, h4⟩
  · rintro acc _ ⟨todo, T, a, c, o13, o18, e1, rfl, ht, hT, hlen, la, ua, rfl⟩
    obtain rfl : todo = [] := by cases todo with | nil => rfl | cons _ _ => cases e1
    rw [List.length_nil] at hlen ua
    dsimp only [setD, setOwn, setDic, List.set_cons_zero, List.set_cons_succ, wipeE]
    decreasing_tactic
    dsimp only [setD, setOwn, setDic, List.set_cons_zero, List.set_cons_succ]
    exact k T a c _ _ (by omega) hT la (by omega)
end K04
end
section
set_option Elab.async false
set_option linter.all false
set_option maxRecDepth 100000
set_option autoImplicit false
set_option maxHeartbeats 4000000
open PySem PySem.Spec
namespace K04
open DL L2 CL
local macro_rules | `(tactic| decreasing_tactic) => `(tactic| repeat (first | ((with_reducible apply slot_d); · exact rfl) | ((with_reducible apply so_rfl); · exact rfl) | ((with_reducible apply wo_rfl); · exact rfl) | ((with_reducible refine (wb_cons (s := IS.set _ _)).mpr ?_); try dsimp only [setD, setOwn, setDic, List.set_cons_zero, List.set_cons_succ]) | ((with_reducible refine (wb_cons (s := IS.ret _)).mpr ?_); try dsimp only [setD, setOwn, setDic, List.set_cons_zero, List.set_cons_succ]) | ((with_reducible refine (wb_cons (s := IS.sto _ _ _)).mpr ?_); try dsimp only [setD, setOwn, setDic, List.set_cons_zero, List.set_cons_succ]) | ((with_reducible refine (wb_cons (s := IS.app _ _)).mpr ?_); try dsimp only [setD, setOwn, setDic, List.set_cons_zero, List.set_cons_succ]) | ((with_reducible refine (wb_cons (s := IS.own _ _)).mpr ?_); try dsimp only [setD, setOwn, setDic, List.set_cons_zero, List.set_cons_succ]) | ((with_reducible refine (wb_cons (s := IS.exp _)).mpr ?_); try dsimp only [setD, setOwn, setDic, List.set_cons_zero, List.set_cons_succ]) | ((with_reducible refine (wb_cons (s := IS.unp _ _)).mpr ?_); try dsimp only [setD, setOwn, setDic, List.set_cons_zero, List.set_cons_succ]) | ((with_reducible refine (wb_cons (s := IS.par _ _ _ _ _ _)).mpr ?_); try dsimp only [setD, setOwn, setDic, List.set_cons_zero, List.set_cons_succ]) | ((with_reducible refine (wb_cons (s := IS.pen _ _)).mpr ?_); try dsimp only [setD, setOwn, setDic, List.set_cons_zero, List.set_cons_succ]) | ((with_reducible refine (wb_cons (s := IS.iff _ _ _) (ss := [])).mpr ?_); try dsimp only [setD, setOwn, setDic, List.set_cons_zero, List.set_cons_succ]) | with_reducible refine ws_set.mpr ?_ | with_reducible refine ws_ret.mpr ?_ | with_reducible refine ws_iff.mpr ?_ | with_reducible refine ws_own.mpr ?_ | with_reducible refine ws_for.mpr ?_ | with_reducible refine ws_exp.mpr ?_ | with_reducible refine ws_unp.mpr ?_ | with_reducible refine ws_par.mpr ?_ | with_reducible refine ws_pen.mpr ?_ | with_reducible refine wb_nil.mpr ?_ | with_reducible refine we_slot.mpr ?_ | with_reducible refine we_cst.mpr ?_ | with_reducible refine we_bin.mpr ?_ | with_reducible refine we_bi1.mpr ?_ | with_reducible refine we_cmp.mpr ?_ | with_reducible refine we_idx.mpr ?_ | with_reducible refine we_call.mpr ?_ | with_reducible refine we_bop.mpr ?_ | with_reducible refine we_not.mpr ?_ | with_reducible refine we_chn.mpr ?_ | with_reducible refine we_tup.mpr ?_ | with_reducible refine we_lst.mpr ?_ | with_reducible refine we_neg.mpr ?_ | with_reducible refine we_ife.mpr ?_ | with_reducible refine we_bi2.mpr ?_ | with_reducible refine we_rngL.mpr ?_ | with_reducible refine we_slc.mpr ?_ | with_reducible refine we_rev.mpr ?_ | with_reducible refine we_lc.mpr ?_ | with_reducible refine we_idxS.mpr ?_ | with_reducible refine wr_of ?_ | with_reducible refine wkp_of ?_ | with_reducible refine wp_n ?_ | with_reducible refine wp_s ?_ | with_reducible refine wds_cons.mpr ?_ | with_reducible refine wds_nil.mpr ?_ | with_reducible refine was_cons.mpr ?_ | with_reducible refine was_nil.mpr ?_ | with_reducible refine wt_bop.mpr ?_ | with_reducible refine wt_not.mpr ?_ | with_reducible refine wt_cmp.mpr ?_ | with_reducible refine wt_chn.mpr ?_ | with_reducible refine wt_call.mpr ?_ | with_reducible refine wt_bi1.mpr ?_ | with_reducible refine wt_slot.mpr ?_ | with_reducible refine wt_idx.mpr ?_ | with_reducible refine wits_seq.mpr ?_ | with_reducible refine wits_rng.mpr ?_ | with_reducible refine wits_enu.mpr ?_ | with_reducible refine wits_zip.mpr ?_ | with_reducible refine cnd_n ?_ | with_reducible refine cnd_s ?_ | with_reducible refine we_allG ?_ | with_reducible refine wt_allG ?_ | with_reducible refine we_join.mpr ?_ | with_reducible refine we_lam.mpr ?_ | with_reducible refine we_din.mpr ?_ | with_reducible refine wt_din.mpr ?_ | with_reducible refine we_dnew1.mpr ?_ | with_reducible refine we_dcomp.mpr ?_ | with_reducible refine wits_dic.mpr ?_ | with_reducible refine ws_aug.mpr ?_ | with_reducible refine ws_dput.mpr ?_ | with_reducible refine wt_any_callS.mpr ?_ | ((with_reducible apply dic_p); · exact rfl) | ((with_reducible apply int_p); · exact rfl) | ((with_reducible apply callS_of); · exact rfl) | ((with_reducible apply dget_of); · exact rfl) | ((with_reducible apply slot_dic); · exact rfl) | ((with_reducible apply slot_fn); · exact rfl) | ((with_reducible apply slot_ofn); · exact rfl; · exact rfl) | ((with_reducible apply ite_y); · exact rfl) | ((with_reducible apply ite_n); · exact rfl) | with_reducible refine sto_pen ?_ | ((with_reducible apply slot_pen); · exact rfl; · exact rfl) | ((with_reducible apply slot_own); · exact rfl) | ((with_reducible apply slot_scr); · exact rfl) | ((with_reducible apply so_id); refine so_ite ?_ ?_; · (first | decide | omega | exact mul_small (by omega) (by omega) (by omega) (by omega))) | ((fail_if_success (first | with_reducible apply wb_id | with_reducible apply wc_id | with_reducible apply wk_id | with_reducible apply wfor_id | with_reducible apply wlc_id)); refine ⟨_, _, rfl, rfl, ?_⟩) | ((fail_if_success (first | with_reducible apply wb_id | with_reducible apply wc_id | with_reducible apply wk_id | with_reducible apply wfor_id | with_reducible apply wlc_id)); refine ⟨rfl, ?_⟩) | ((fail_if_success (first | with_reducible apply wb_id | with_reducible apply wc_id | with_reducible apply wk_id | with_reducible apply wfor_id | with_reducible apply wlc_id)); refine ⟨_, _, _, rfl, rfl, rfl, rfl, ?_⟩)))
open P04
abbrev t10 : IS := .set 10 (.tup [(.slot 4), (.bin .Add (.bi1 .tuple (.slot 9)) (.slc (.idx (.slot 5) (.cst (.int 1))) (some (.slot 7)) (some (.bin .Add (.slot 7) (.cst (.int 1)))))), (.bin .Add (.idx (.slot 5) (.cst (.int 2))) (.bin .Mult (.tup [(.slot 6)]) (.bi1 .int (.cmp .In (.slot 7) (.idx (.slot 5) (.cst (.int 2)))))))])
theorem cut_one {xs : List D} {i : Nat} {x : D} (h : xs[i]? = some x) : cutD xs (some (i : Int)) (some ((i : Int) + 1)) = [x] := by
  obtain ⟨hi, h2⟩ := List.getElem?_eq_some_iff.mp h
  unfold cutD
  have a : HT.sIx xs.length 0 (some (i : Int)) = i := by rw [HT.sIx_nat]; omega
  have b : HT.sIx xs.length xs.length (some ((i : Int) + 1)) = i + 1 := by
    rw [show ((i : Int) + 1) = ((i + 1 : Nat) : Int) from rfl, HT.sIx_nat]; omega
  rw [a, b, show i + 1 - i = 1 by omega, List.drop_eq_getElem_cons hi, h2]
  rfl
theorem twin_mok {l many s : Int} {A T : List (List Int)} {ea : List Int} (M : Mok l many A ea) (h12 : many ≤ 12) (hel : ea.length ≤ 30) (h0 : 0 ≤ s) (h1 : s < many) (hT : (T.length : Int) = many) (hr : ∀ ns ∈ T, RowT l (many + 1) ns) :
    Mok l (many + 1) (T ++ [A.getD s.toNat []]) (ea ++ (if s ∈ ea then [many] else [])) := by
  obtain ⟨_, e2⟩ := row_at M h0 h1
  obtain ⟨r1, r2⟩ := M.row _ e2
  have m0 := M.m0
  refine ⟨M.l0, M.l1, by omega, by omega, by rw [List.length_append, List.length_singleton]; omega, ?_, ?_, ?_, ?_⟩
  · intro ns hns
    rcases List.mem_append.mp hns with q | q
    · exact hr ns q
    · rw [List.mem_singleton.mp q]; exact ⟨r1, fun i hi => by have := r2 i hi; omega⟩
  · intro i hi
    rcases List.mem_append.mp hi with q | q
    · have := M.en i q; omega
    · split at q
      · rw [List.mem_singleton.mp q]; omega
      · cases q
  · rw [List.pairwise_append]
    refine ⟨M.asc, by split <;> simp, fun a ha b hb => ?_⟩
    split at hb
    · rw [List.mem_singleton.mp hb]; have := M.en a ha; omega
    · cases hb
  · rw [List.length_append]
    split <;> simp <;> omega
theorem twinD_ok {l many s : Int} {A T : List (List Int)} {ea : List Int} (M : Mok l many A ea) (h12 : many ≤ 12) (hel : ea.length ≤ 30) (h0 : 0 ≤ s) (h1 : s < many) (hT : (T.length : Int) = many) {n : Nat} {rest : List IS} {p : Option (List D)} {o0 o1 o2 o3 o8 o10 o11 o12 o13 o14 o15 o16 o17 o18 : Option Sv} {Q : Fl → G → Prop}
    (k : WB fns (n + 40) rest { env := [o0, o1, o2, o3, some (.d (.int l)), some (.d (machD l A ea)), some (.d (.int many)), some (.d (.int s)), o8, some (.d (.list (T.map fun ns => .tuple (ns.map .int)))), some (.d (machD l (T ++ [A.getD s.toNat []]) (ea ++ (if s ∈ ea then [many] else [])))), o11, o12, o13, o14, o15, o16, o17, o18], pen := p } Q) :
    WB fns (n + 41) (t10 :: rest) { env := [o0, o1, o2, o3, some (.d (.int l)), some (.d (machD l A ea)), some (.d (.int many)), some (.d (.int s)), o8, some (.d (.list (T.map fun ns => .tuple (ns.map .int)))), o10, o11, o12, o13, o14, o15, o16, o17, o18], pen := p } Q := by
  obtain ⟨e1, _⟩ := row_at M h0 h1
  obtain ⟨i, hi⟩ := Int.eq_ofNat_of_zero_le h0
  have hcut : cutD (A.map fun ns => PyData.tuple (ns.map PyData.int)) (some s) (some (s + 1)) = [.tuple ((A.getD s.toNat []).map .int)] := by
    subst hi
    exact cut_one (by rw [List.getElem?_map, show A[i]? = _ from e1]; rfl)
  refine (wb_cons (s := IS.set _ _)).mpr ?_
  decreasing_tactic
  rw [hcut]
  refine so_ite (by rw [List.length_map, List.length_singleton]; unfold szL; omega) ?_
  decreasing_tactic
  refine so_rfl (in_mem s ea) ?_
  by_cases hs : s ∈ ea
  · rw [if_pos hs] at k
    rw [decide_eq_true hs]
    decreasing_tactic
    rw [show (List.replicate (if true = true then (1 : Int) else 0).toNat [PyData.int many]).flatten = [.int many] from rfl]
    refine so_ite (by rw [List.length_map]; show ea.length + 1 ≤ szL; unfold szL; omega) ?_
    decreasing_tactic
    dsimp only [setD, setOwn, setDic, List.set_cons_zero, List.set_cons_succ]
    unfold machD at k
    rw [List.map_append, List.map_append] at k
    exact k
  · rw [if_neg hs, List.append_nil] at k
    rw [decide_eq_false hs]
    decreasing_tactic
    rw [show (List.replicate (if false = true then (1 : Int) else 0).toNat [PyData.int many]).flatten = [] from rfl]
    refine so_ite (by rw [List.length_map]; show ea.length + 0 ≤ szL; unfold szL; omega) ?_
    rw [List.append_nil]
    decreasing_tactic
    dsimp only [setD, setOwn, setDic, List.set_cons_zero, List.set_cons_succ]
    unfold machD at k
    rw [List.map_append] at k
    exact k
end K04
end
section
set_option Elab.async false
set_option linter.all false
set_option maxRecDepth 100000
set_option autoImplicit false
set_option maxHeartbeats 4000000
open PySem PySem.Spec
namespace K04
open DL L2 CL
local macro_rules | `(tactic| decreasing_tactic) => `(tactic| repeat (first | ((with_reducible apply slot_d); · exact rfl) | ((with_reducible apply so_rfl); · exact rfl) | ((with_reducible apply wo_rfl); · exact rfl) | ((with_reducible refine (wb_cons (s := IS.set _ _)).mpr ?_); try dsimp only [setD, setOwn, setDic, List.set_cons_zero, List.set_cons_succ]) | ((with_reducible refine (wb_cons (s := IS.ret _)).mpr ?_); try dsimp only [setD, setOwn, setDic, List.set_cons_zero, List.set_cons_succ]) | ((with_reducible refine (wb_cons (s := IS.sto _ _ _)).mpr ?_); try dsimp only [setD, setOwn, setDic, List.set_cons_zero, List.set_cons_succ]) | ((with_reducible refine (wb_cons (s := IS.app _ _)).mpr ?_); try dsimp only [setD, setOwn, setDic, List.set_cons_zero, List.set_cons_succ]) | ((with_reducible refine (wb_cons (s := IS.own _ _)).mpr ?_); try dsimp only [setD, setOwn, setDic, List.set_cons_zero, List.set_cons_succ]) | ((with_reducible refine (wb_cons (s := IS.exp _)).mpr ?_); try dsimp only [setD, setOwn, setDic, List.set_cons_zero, List.set_cons_succ]) | ((with_reducible refine (wb_cons (s := IS.unp _ _)).mpr ?_); try dsimp only [setD, setOwn, setDic, List.set_cons_zero, List.set_cons_succ]) | ((with_reducible refine (wb_cons (s := IS.par _ _ _ _ _ _)).mpr ?_); try dsimp only [setD, setOwn, setDic, List.set_cons_zero, List.set_cons_succ]) | ((with_reducible refine (wb_cons (s := IS.pen _ _)).mpr ?_); try dsimp only [setD, setOwn, setDic, List.set_cons_zero, List.set_cons_succ]) | ((with_reducible refine (wb_cons (s := IS.iff _ _ _) (ss := [])).mpr ?_); try dsimp only [setD, setOwn, setDic, List.set_cons_zero, List.set_cons_succ]) | with_reducible refine ws_set.mpr ?_ | with_reducible refine ws_ret.mpr ?_ | with_reducible refine ws_iff.mpr ?_ | with_reducible refine ws_own.mpr ?_ | with_reducible refine ws_for.mpr ?_ | with_reducible refine ws_exp.mpr ?_ | with_reducible refine ws_unp.mpr ?_ | with_reducible refine ws_par.mpr ?_ | with_reducible refine ws_pen.mpr ?_ | with_reducible refine wb_nil.mpr ?_ | with_reducible refine we_slot.mpr ?_ | with_reducible refine we_cst.mpr ?_ | with_reducible refine we_bin.mpr ?_ | with_reducible refine we_bi1.mpr ?_ | with_reducible refine we_cmp.mpr ?_ | with_reducible refine we_idx.mpr ?_ | with_reducible refine we_call.mpr ?_ | with_reducible refine we_bop.mpr ?_ | with_reducible refine we_not.mpr ?_ | with_reducible refine we_chn.mpr ?_ | with_reducible refine we_tup.mpr ?_ | with_reducible refine we_lst.mpr ?_ | with_reducible refine we_neg.mpr ?_ | with_reducible refine we_ife.mpr ?_ | with_reducible refine we_bi2.mpr ?_ | with_reducible refine we_rngL.mpr ?_ | with_reducible refine we_slc.mpr ?_ | with_reducible refine we_rev.mpr ?_ | with_reducible refine we_lc.mpr ?_ | with_reducible refine we_idxS.mpr ?_ | with_reducible refine wr_of ?_ | with_reducible refine wkp_of ?_ | with_reducible refine wp_n ?_ | with_reducible refine wp_s ?_ | with_reducible refine wds_cons.mpr ?_ | with_reducible refine wds_nil.mpr ?_ | with_reducible refine was_cons.mpr ?_ | with_reducible refine was_nil.mpr ?_ | with_reducible refine wt_bop.mpr ?_ | with_reducible refine wt_not.mpr ?_ | with_reducible refine wt_cmp.mpr ?_ | with_reducible refine wt_chn.mpr ?_ | with_reducible refine wt_call.mpr ?_ | with_reducible refine wt_bi1.mpr ?_ | with_reducible refine wt_slot.mpr ?_ | with_reducible refine wt_idx.mpr ?_ | with_reducible refine wits_seq.mpr ?_ | with_reducible refine wits_rng.mpr ?_ | with_reducible refine wits_enu.mpr ?_ | with_reducible refine wits_zip.mpr ?_ | with_reducible refine cnd_n ?_ | with_reducible refine cnd_s ?_ | with_reducible refine we_allG ?_ | with_reducible refine wt_allG ?_ | with_reducible refine we_join.mpr ?_ | with_reducible refine we_lam.mpr ?_ | with_reducible refine we_din.mpr ?_ | with_reducible refine wt_din.mpr ?_ | with_reducible refine we_dnew1.mpr ?_ | with_reducible refine we_dcomp.mpr ?_ | with_reducible refine wits_dic.mpr ?_ | with_reducible refine ws_aug.mpr ?_ | with_reducible refine ws_dput.mpr ?_ | with_reducible refine wt_any_callS.mpr ?_ | ((with_reducible apply dic_p); · exact rfl) | ((with_reducible apply int_p); · exact rfl) | ((with_reducible apply callS_of); · exact rfl) | ((with_reducible apply dget_of); · exact rfl) | ((with_reducible apply slot_dic); · exact rfl) | ((with_reducible apply slot_fn); · exact rfl) | ((with_reducible apply slot_ofn); · exact rfl; · exact rfl) | ((with_reducible apply ite_y); · exact rfl) | ((with_reducible apply ite_n); · exact rfl) | with_reducible refine sto_pen ?_ | ((with_reducible apply slot_pen); · exact rfl; · exact rfl) | ((with_reducible apply slot_own); · exact rfl) | ((with_reducible apply slot_scr); · exact rfl) | ((with_reducible apply so_id); refine so_ite ?_ ?_; · (first | decide | omega | exact mul_small (by omega) (by omega) (by omega) (by omega))) | ((fail_if_success (first | with_reducible apply wb_id | with_reducible apply wc_id | with_reducible apply wk_id | with_reducible apply wfor_id | with_reducible apply wlc_id)); refine ⟨_, _, rfl, rfl, ?_⟩) | ((fail_if_success (first | with_reducible apply wb_id | with_reducible apply wc_id | with_reducible apply wk_id | with_reducible apply wfor_id | with_reducible apply wlc_id)); refine ⟨rfl, ?_⟩) | ((fail_if_success (first | with_reducible apply wb_id | with_reducible apply wc_id | with_reducible apply wk_id | with_reducible apply wfor_id | with_reducible apply wlc_id)); refine ⟨_, _, _, rfl, rfl, rfl, rfl, ?_⟩)))
open P04
abbrev t11 : IS := .set 11 (.lst [(.slot 5), (.tup [(.slot 4), (.idx (.slot 5) (.cst (.int 1))), (.slot 8)]), (.slot 10), (.call 17 [(.call 15 [(.slot 1)]), (.slot 4), (.bin .Add (.cst (.int 1)) (.call 14 [(.slot 1), (.cst (.int 5))]))])])
abbrev turnB : List IS := [t4, t5, t6, t7, t8, t9, t10, t11, .for_ (.one 12) .seq [(.slot 11)] bO]
theorem turn_ok {n : Nat} {cs : List Int} {at_ cell : Int} (h0 : 0 ≤ at_) (h1 : at_ ≤ 600000) {o0 o2 o3 o4 o5 o6 o7 o8 o9 o10 o11 o12 o13 o14 o15 o16 o17 o18 : Option Sv} {Q : Fl → G → Prop}
    (k : ∀ o4 o5 o6 o7 o8 o9 o10 o11 o12 o13 o14 o15 o16 o17 o18 a c, at_ ≤ a → a ≤ at_ + 2000 → Q .nx { env := [o0, some .pen, o2, o3, o4, o5, o6, o7, o8, o9, o10, o11, o12, o13, o14, o15, o16, o17, o18], pen := some (Pn cs a c) }) :
    WB fns (n + 198) turnB { env := [o0, some .pen, o2, o3, o4, o5, o6, o7, o8, o9, o10, o11, o12, o13, o14, o15, o16, o17, o18], pen := some (Pn cs at_ cell) } Q := by
  refine first_ok (n := n) h0 h1 fun l many s A ea a c M h12 s0 s1 la ua => ?_
  have l0 := M.l0
  have l1 := M.l1
  have m0 := M.m0
  have hel : ea.length ≤ 12 := by
    have := asc_len (lo := 0) M.asc M.en
    omega
  refine tog_ok (n := n + 143) M fun o17 => ?_
  refine twin_ok (n := n + 102) M h12 (by omega) (by omega) fun T a2 c2 o13 o18 hT hr la2 ua2 => ?_
  refine twinD_ok (n := n + 151) M h12 (by omega) s0 s1 hT ?_
  have M3 := twin_mok M h12 (by omega) s0 s1 hT hr
  have M2 := tog_mok M (by omega) s0 s1
  generalize hTw : machD l (T ++ [A.getD s.toNat []]) (ea ++ (if s ∈ ea then [many] else [])) = tw
  refine (wb_cons (s := IS.set _ _)).mpr ?_
  decreasing_tactic
  refine anew9 ?_
  decreasing_tactic
  refine take8 (by omega) (by omega) (by decide) (by decide) fun z a3 c3 hz hz2 la3 ua3 => ?_
  decreasing_tactic
  refine drawm_ok (by omega) (by omega) (by omega) (by omega) (by omega) (by omega) fun B eb a4 c4 la4 ua4 M4 => ?_
  decreasing_tactic
  dsimp only [setD, setOwn, setDic, List.set_cons_zero, List.set_cons_succ]
  refine wb_cons.mpr ?_
  decreasing_tactic
  refine others_ok (n := n + 49) M ?_ fun o12 o14 o15 => ?_
  · intro d hd
    simp only [List.mem_cons, List.not_mem_nil, or_false] at hd
    rcases hd with rfl | rfl | rfl | rfl
    · exact ⟨_, _, _, rfl, M⟩
    · exact ⟨_, _, _, rfl, M2⟩
    · exact ⟨_, _, _, hTw.symm, M3⟩
    · exact ⟨_, _, _, rfl, M4⟩
  decreasing_tactic
  exact k _ _ _ _ _ _ _ _ _ _ _ _ _ _ _ a4 c4 (by omega) (by omega)
end K04
end
section
set_option Elab.async false
set_option linter.all false
set_option maxRecDepth 100000
set_option autoImplicit false
set_option maxHeartbeats 4000000
open PySem PySem.Spec
namespace K04
open DL L2 CL
local macro_rules | `(tactic| decreasing_tactic) => `(tactic| repeat (first | ((with_reducible apply slot_d); · exact rfl) | ((with_reducible apply so_rfl); · exact rfl) | ((with_reducible apply wo_rfl); · exact rfl) | ((with_reducible refine (wb_cons (s := IS.set _ _)).mpr ?_); try dsimp only [setD, setOwn, setDic, List.set_cons_zero, List.set_cons_succ]) | ((with_reducible refine (wb_cons (s := IS.ret _)).mpr ?_); try dsimp only [setD, setOwn, setDic, List.set_cons_zero, List.set_cons_succ]) | ((with_reducible refine (wb_cons (s := IS.sto _ _ _)).mpr ?_); try dsimp only [setD, setOwn, setDic, List.set_cons_zero, List.set_cons_succ]) | ((with_reducible refine (wb_cons (s := IS.app _ _)).mpr ?_); try dsimp only [setD, setOwn, setDic, List.set_cons_zero, List.set_cons_succ]) | ((with_reducible refine (wb_cons (s := IS.own _ _)).mpr ?_); try dsimp only [setD, setOwn, setDic, List.set_cons_zero, List.set_cons_succ]) | ((with_reducible refine (wb_cons (s := IS.exp _)).mpr ?_); try dsimp only [setD, setOwn, setDic, List.set_cons_zero, List.set_cons_succ]) | ((with_reducible refine (wb_cons (s := IS.unp _ _)).mpr ?_); try dsimp only [setD, setOwn, setDic, List.set_cons_zero, List.set_cons_succ]) | ((with_reducible refine (wb_cons (s := IS.par _ _ _ _ _ _)).mpr ?_); try dsimp only [setD, setOwn, setDic, List.set_cons_zero, List.set_cons_succ]) | ((with_reducible refine (wb_cons (s := IS.pen _ _)).mpr ?_); try dsimp only [setD, setOwn, setDic, List.set_cons_zero, List.set_cons_succ]) | ((with_reducible refine (wb_cons (s := IS.iff _ _ _) (ss := [])).mpr ?_); try dsimp only [setD, setOwn, setDic, List.set_cons_zero, List.set_cons_succ]) | with_reducible refine ws_set.mpr ?_ | with_reducible refine ws_ret.mpr ?_ | with_reducible refine ws_iff.mpr ?_ | with_reducible refine ws_own.mpr ?_ | with_reducible refine ws_for.mpr ?_ | with_reducible refine ws_exp.mpr ?_ | with_reducible refine ws_unp.mpr ?_ | with_reducible refine ws_par.mpr ?_ | with_reducible refine ws_pen.mpr ?_ | with_reducible refine wb_nil.mpr ?_ | with_reducible refine we_slot.mpr ?_ | with_reducible refine we_cst.mpr ?_ | with_reducible refine we_bin.mpr ?_ | with_reducible refine we_bi1.mpr ?_ | with_reducible refine we_cmp.mpr ?_ | with_reducible refine we_idx.mpr ?_ | with_reducible refine we_call.mpr ?_ | with_reducible refine we_bop.mpr ?_ | with_reducible refine we_not.mpr ?_ | with_reducible refine we_chn.mpr ?_ | with_reducible refine we_tup.mpr ?_ | with_reducible refine we_lst.mpr ?_ | with_reducible refine we_neg.mpr ?_ | with_reducible refine we_ife.mpr ?_ | with_reducible refine we_bi2.mpr ?_ | with_reducible refine we_rngL.mpr ?_ | with_reducible refine we_slc.mpr ?_ | with_reducible refine we_rev.mpr ?_ | with_reducible refine we_lc.mpr ?_ | with_reducible refine we_idxS.mpr ?_ | with_reducible refine wr_of ?_ | with_reducible refine wkp_of ?_ | with_reducible refine wp_n ?_ | with_reducible refine wp_s ?_ | with_reducible refine wds_cons.mpr ?_ | with_reducible refine wds_nil.mpr ?_ | with_reducible refine was_cons.mpr ?_ | with_reducible refine was_nil.mpr ?_ | with_reducible refine wt_bop.mpr ?_ | with_reducible refine wt_not.mpr ?_ | with_reducible refine wt_cmp.mpr ?_ | with_reducible refine wt_chn.mpr ?_ | with_reducible refine wt_call.mpr ?_ | with_reducible refine wt_bi1.mpr ?_ | with_reducible refine wt_slot.mpr ?_ | with_reducible refine wt_idx.mpr ?_ | with_reducible refine wits_seq.mpr ?_ | with_reducible refine wits_rng.mpr ?_ | with_reducible refine wits_enu.mpr ?_ | with_reducible refine wits_zip.mpr ?_ | with_reducible refine cnd_n ?_ | with_reducible refine cnd_s ?_ | with_reducible refine we_allG ?_ | with_reducible refine wt_allG ?_ | with_reducible refine we_join.mpr ?_ | with_reducible refine we_lam.mpr ?_ | with_reducible refine we_din.mpr ?_ | with_reducible refine wt_din.mpr ?_ | with_reducible refine we_dnew1.mpr ?_ | with_reducible refine we_dcomp.mpr ?_ | with_reducible refine wits_dic.mpr ?_ | with_reducible refine ws_aug.mpr ?_ | with_reducible refine ws_dput.mpr ?_ | with_reducible refine wt_any_callS.mpr ?_ | ((with_reducible apply dic_p); · exact rfl) | ((with_reducible apply int_p); · exact rfl) | ((with_reducible apply callS_of); · exact rfl) | ((with_reducible apply dget_of); · exact rfl) | ((with_reducible apply slot_dic); · exact rfl) | ((with_reducible apply slot_fn); · exact rfl) | ((with_reducible apply slot_ofn); · exact rfl; · exact rfl) | ((with_reducible apply ite_y); · exact rfl) | ((with_reducible apply ite_n); · exact rfl) | with_reducible refine sto_pen ?_ | ((with_reducible apply slot_pen); · exact rfl; · exact rfl) | ((with_reducible apply slot_own); · exact rfl) | ((with_reducible apply slot_scr); · exact rfl) | ((with_reducible apply so_id); refine so_ite ?_ ?_; · (first | decide | omega | exact mul_small (by omega) (by omega) (by omega) (by omega))) | ((fail_if_success (first | with_reducible apply wb_id | with_reducible apply wc_id | with_reducible apply wk_id | with_reducible apply wfor_id | with_reducible apply wlc_id)); refine ⟨_, _, rfl, rfl, ?_⟩) | ((fail_if_success (first | with_reducible apply wb_id | with_reducible apply wc_id | with_reducible apply wk_id | with_reducible apply wfor_id | with_reducible apply wlc_id)); refine ⟨rfl, ?_⟩) | ((fail_if_success (first | with_reducible apply wb_id | with_reducible apply wc_id | with_reducible apply wk_id | with_reducible apply wfor_id | with_reducible apply wlc_id)); refine ⟨_, _, _, rfl, rfl, rfl, rfl, ?_⟩)))
open P04
def ringA : List (List Int) := (List.range 32).map fun (i : Nat) => [((i : Int) + 1) * (if (i : Int) < 31 then 1 else 0)]
theorem ring_mok : Mok 1 32 ringA [31] := ⟨by decide, by decide, by decide, by decide, by decide, by decide +kernel, by decide, by decide, by decide⟩
theorem one_mok : Mok 1 1 [[0]] [] := ⟨by decide, by decide, by decide, by decide, by decide, by decide, by decide, by decide, by decide⟩
theorem ring_word : wordP 1 32 1 ringA [[0]] [31] [] = some (repS "a" 31) := by decide +kernel
theorem law_ok {n : Nat} {ns : List Int} : WB fns (n + 209) b20 { env := [some (.scr ns), none, none, none, none, none, none, none, none, none, none, none, none, none, none, none, none, none, none], pen := none } fun fl g => fl = .ret (.d (.bool true)) := by
  show WB fns (n + 209) (.pen 1 (.call 13 [(.slot 0)]) :: .for_ (.one 2) .rng [(.cst (.int 3))] turnB :: [.set 3 (.bi1 .tuple (.lc (.tup [(.bin .Mult (.bin .Add (.slot 16) (.cst (.int 1))) (.bi1 .int (.cmp .Lt (.slot 16) (.cst (.int 31)))))]) (.one 16) .rng [(.cst (.int 32))] none [16])), .ret (.cmp .Eq (.call 11 [(.tup [(.cst (.int 1)), (.slot 3), (.tup [(.cst (.int 31))])]), (.tup [(.cst (.int 1)), (.tup [(.tup [(.cst (.int 0))])]), (.tup [])])]) (.bin .Mult (.cst (.str "a")) (.cst (.int 31))))]) _ _
  generalize hT : turnB = tB
  decreasing_tactic
  refine open7 fun cs hcs => ?_
  decreasing_tactic
  refine wb_cons.mpr ?_
  decreasing_tactic
  have e3 : ((List.range (3 : Int).toNat).map fun (i : Nat) => PyData.int (0 + (i : Int))) = [.int 0, .int 1, .int 2] := rfl
  rw [e3]
  dsimp only [setD, setOwn, setDic, List.set_cons_zero, List.set_cons_succ]
  refine wfor_inv (fun rest g => ∃ (todo : List Int) (a c : Int) (o2 o3 o4 o5 o6 o7 o8 o9 o10 o11 o12 o13 o14 o15 o16 o17 o18 : Option Sv), rest = todo.map .int ∧ todo.length ≤ 3 ∧ 0 ≤ a ∧ a + 2000 * todo.length ≤ 10000 ∧ g = { env := [some (.scr ns), some .pen, o2, o3, o4, o5, o6, o7, o8, o9, o10, o11, o12, o13, o14, o15, o16, o17, o18], pen := some (Pn cs a c) }) ?_ ?_ ⟨[0, 1, 2], 0, 0, _, _, _, _, _, _, _, _, _, _, _, _, _, _, _, _, _, rfl, by decide, by decide, by decide, rfl⟩
  · rintro d rest _ ⟨todo, a, c, o2, o3, o4, o5, o6, o7, o8, o9, o10, o11, o12, o13, o14, o15, o16, o17, o18, e1, hl, ha, hb, rfl⟩
    cases todo with
    | nil => cases e1
    | cons t todo =>
      rw [List.map_cons] at e1
      cases e1
      rw [List.length_cons] at hl hb
      decreasing_tactic
      subst hT
      dsimp only [setD, setOwn, setDic, List.set_cons_zero, List.set_cons_succ]
      refine turn_ok (n := n + 9) ha (by omega) fun o4 o5 o6 o7 o8 o9 o10 o11 o12 o13 o14 o15 o16 o17 o18 a2 c2 la ua => ?_
      exact ⟨todo, a2, c2, _, _, _, _, _, _, _, _, _, _, _, _, _, _, _, _, _, rfl, by omega, by omega, by omega, rfl⟩
  · rintro _ ⟨todo, a, c, o2, o3, o4, o5, o6, o7, o8, o9, o10, o11, o12, o13, o14, o15, o16, o17, o18, e1, hl, ha, hb, rfl⟩
    have hw := ring_word
    have hMr := ring_mok
    refine wb_cut (fun g1 => ∃ o16, g1 = { env := [some (.scr ns), some .pen, o2, some (.d (.tuple (ringA.map fun ns => .tuple (ns.map .int)))), o4, o5, o6, o7, o8, o9, o10, o11, o12, o13, o14, o15, o16, o17, o18], pen := some (Pn cs a c) }) ?_ ?_
    · decreasing_tactic
      refine wlc_inv (fun rest acc g => ∃ (j : Nat) (o16 : Option Sv), j ≤ 32 ∧ rest = ((List.range 32).drop j).map (fun (i : Nat) => PyData.int (0 + (i : Int))) ∧ acc = ((List.range 32).take j).map (fun (i : Nat) => PyData.tuple [.int (((i : Int) + 1) * (if (i : Int) < 31 then 1 else 0))]) ∧ 
        g = { env := [some (.scr ns), some .pen, o2, o3, o4, o5, o6, o7, o8, o9, o10, o11, o12, o13, o14, o15, o16, o17, o18], pen := some (Pn cs a c) }) ?_ ?_ ⟨0, _, by decide, rfl, rfl, rfl⟩
      · rintro d ds acc _ ⟨j, o16, hj, hd, rfl, rfl⟩
        obtain ⟨hj, rfl, rfl⟩ := rng_step hd
        refine so_rfl (by show some _ = some _; rw [Int.zero_add]) ?_
        dsimp only [setD, setOwn, setDic, List.set_cons_zero, List.set_cons_succ, wipeE]
        decreasing_tactic
        refine ⟨by rw [List.length_map, List.length_take, List.length_range]; unfold szL; omega, j + 1, some (.d (.int (j : Int))), hj, rfl, ?_, rfl⟩
        rw [← List.take_append_getElem (show j < (List.range 32).length by rw [List.length_range]; exact hj), List.map_append, List.getElem_range]
        simp only [decide_eq_true_eq, List.map_cons, List.map_nil]
      · rintro acc _ ⟨j, o16, hj, hd, rfl, rfl⟩
        have := rng_end hd
        obtain rfl : j = 32 := by omega
        dsimp only [setD, setOwn, setDic, List.set_cons_zero, List.set_cons_succ, wipeE]
        decreasing_tactic
        exact ⟨_, rfl⟩
    rintro _ ⟨o16, rfl⟩
    generalize ringA = rA at *
    decreasing_tactic
    refine parting_ok (A := rA) (B := [[0]]) (ea := [31]) (eb := []) hMr one_mok ?_
    rw [show fst (gl [31] []) (EE rA [[0]] 1 (UU 32 1)) = some (repS "a" 31) from hw]
    generalize h9 : repS "a" 31 = w9
    show DL.WE _ _ _ _ _
    decreasing_tactic
    rw [show repS "a" (Int.toNat 31) = w9 from h9]
    show Fl.ret (R.d (PyData.bool (decide (w9 = w9)))) = _
    rw [decide_eq_true (rfl : w9 = w9)]
def fuel : Nat := 209
theorem law_true : ∀ ns : List Int, ns.length ≤ 63 → (∀ z ∈ ns, Builtin.Int.intBits z ≤ 1048576) → ∃ g', (ev prog.fns fuel).ss f20.body { env := some (.scr ns) :: List.replicate (f20.n - 1) none, pen := none } = some (.ret (.d (.bool true)), g') := by
  intro ns _ _
  obtain ⟨fl, g, e, h⟩ : ∃ fl g, (ev fns (0 + 209)).ss b20 { env := [some (.scr ns), none, none, none, none, none, none, none, none, none, none, none, none, none, none, none, none, none, none], pen := none } = some (fl, g) ∧ fl = .ret (.d (.bool true)) := law_ok
  subst h
  exact ⟨g, e⟩
end K04
end
section
set_option Elab.async false
set_option linter.all false
open PySem PySem.W PyProof.Rows
namespace K04
instance tabs : DL.Tabs := ⟨[(92, 88), (109, 105), (121, 117), (128, 124)], fun b => decide (b ∈ ([] : List Nat)), fun l c => DL.Pgm.nmf prog l c, fun k C => DL.codeB prog 60 k C = true⟩
end K04
set_option maxRecDepth 100000 in
set_option maxHeartbeats 0 in
theorem PySem.Challenge.cw_seamlots_k04_parting_words_holds : PySem.Challenge.rw_seamlots_k04_parting_words.Holds := by
  w_on; o_law; k_head; (case hw => w_witness2)
  k_fill
  refine DL.walk_dl (l := PySem.Challenge.rw_seamlots_k04_parting_words) (p := K04.prog) (fd := K04.f20) (n := K04.fuel) (M := 60) rfl rfl ⟨rfl, by decide, by decide⟩ (fun w h Y => by first | exact PySem.W.kIn_of Y | exact PySem.W.km_in_of Y) (by simp [K04.prog, K04.fns]) rfl rfl rfl (fun _ _ => Iff.rfl) (fun _ _ => rfl) ?F K04.law_true
  case F =>
    intro w lo mean mg mb h KX G T
    refine' ⟨⟨DL.glob_mk KX G ?bl ?cs, DL.defs_cons (DL.def_mk KX G rfl K04.c0 (fun _ _ _ _ _ _ us hl => match us, hl with | [_], _ => rfl) ?a0 ?l0 ?q0 ?k0 (fun h => absurd h (by decide))) (DL.defs_cons (DL.def_mk KX G rfl K04.c1 (fun _ _ _ _ _ _ us hl => match us, hl with | [_], _ => rfl) ?a1 ?l1 ?q1 ?k1 (fun h => absurd h (by decide))) (DL.defs_cons (DL.def_mk KX G rfl K04.c2 (fun _ _ _ _ _ _ us hl => match us, hl with | [_], _ => rfl) ?a2 ?l2 ?q2 ?k2 (fun h => absurd h (by decide))) (DL.defs_cons (DL.def_mk KX G rfl K04.c3 (fun _ _ _ _ _ _ us hl => match us, hl with | [_, _], _ => rfl) ?a3 ?l3 ?q3 ?k3 (fun h => absurd h (by decide))) (DL.defs_cons (DL.def_mk KX G rfl K04.c4 (fun _ _ _ _ _ _ us hl => match us, hl with | [_], _ => rfl) ?a4 ?l4 ?q4 ?k4 (fun h => absurd h (by decide))) (DL.defs_cons (DL.def_mk KX G rfl K04.c5 (fun _ _ _ _ _ _ us hl => match us, hl with | [_, _], _ => rfl) ?a5 ?l5 ?q5 ?k5 ?t5) (DL.defs_cons (DL.def_mk KX G rfl K04.c6 (fun _ _ _ _ _ _ us hl => match us, hl with | [_, _], _ => rfl) ?a6 ?l6 ?q6 ?k6 (fun h => absurd h (by decide))) (DL.defs_cons (DL.def_mk KX G rfl K04.c7 (fun _ _ _ _ _ _ us hl => match us, hl with | [_, _, _], _ => rfl) ?a7 ?l7 ?q7 ?k7 (fun h => absurd h (by decide))) (DL.defs_cons (DL.def_mk KX G rfl K04.c8 (fun _ _ _ _ _ _ us hl => match us, hl with | [_, _, _, _], _ => rfl) ?a8 ?l8 ?q8 ?k8 ?t8) (DL.defs_cons (DL.def_mk KX G rfl K04.c9 (fun _ _ _ _ _ _ us hl => match us, hl with | [_, _, _, _], _ => rfl) ?a9 ?l9 ?q9 ?k9 (fun h => absurd h (by decide))) (DL.defs_cons (DL.def_mk KX G rfl K04.c10 (fun _ _ _ _ _ _ us hl => match us, hl with | [_, _], _ => rfl) ?a10 ?l10 ?q10 ?k10 ?t10) (DL.defs_cons (DL.def_mk KX G rfl K04.c11 (fun _ _ _ _ _ _ us hl => match us, hl with | [_, _], _ => rfl) ?a11 ?l11 ?q11 ?k11 ?t11) (DL.defs_cons (DL.def_mk KX G rfl K04.c12 (fun _ _ _ _ _ _ us hl => match us, hl with | [_, _], _ => rfl) ?a12 ?l12 ?q12 ?k12 (fun h => absurd h (by decide))) (DL.defs_cons (DL.def_mk KX G rfl K04.c13 (fun _ _ _ _ _ _ us hl => match us, hl with | [_], _ => rfl) ?a13 ?l13 ?q13 ?k13 (fun h => absurd h (by decide))) (DL.defs_cons (DL.def_mk KX G rfl K04.c14 (fun _ _ _ _ _ _ us hl => match us, hl with | [_, _], _ => rfl) ?a14 ?l14 ?q14 ?k14 (fun h => absurd h (by decide))) (DL.defs_cons (DL.def_mk KX G rfl K04.c15 (fun _ _ _ _ _ _ us hl => match us, hl with | [_], _ => rfl) ?a15 ?l15 ?q15 ?k15 (fun h => absurd h (by decide))) (DL.defs_cons (DL.def_mk KX G rfl K04.c16 (fun _ _ _ _ _ _ us hl => match us, hl with | [_, _], _ => rfl) ?a16 ?l16 ?q16 ?k16 (fun h => absurd h (by decide))) (DL.defs_cons (DL.def_mk KX G rfl K04.c17 (fun _ _ _ _ _ _ us hl => match us, hl with | [_, _, _], _ => rfl) ?a17 ?l17 ?q17 ?k17 (fun h => absurd h (by decide))) (DL.defs_cons (DL.def_mk KX G rfl K04.c18 (fun _ _ _ _ _ _ us hl => match us, hl with | [_, _], _ => rfl) ?a18 ?l18 ?q18 ?k18 (fun h => absurd h (by decide))) (DL.defs_cons (DL.def_mk KX G rfl K04.c19 (fun _ _ _ _ _ _ us hl => match us, hl with | [_, _], _ => rfl) ?a19 ?l19 ?q19 ?k19 (fun h => absurd h (by decide))) (DL.defs_cons (DL.def_mk KX G rfl K04.c20 (fun _ _ _ _ _ _ us hl => match us, hl with | [_], _ => rfl) ?a20 ?l20 ?q20 ?k20 (fun h => absurd h (by decide))) (DL.defs_skip rfl (DL.defs_skip rfl (DL.defs_skip rfl (DL.defs_nil))))))))))))))))))))))))⟩, ?tt⟩
    (case bl => refine ⟨?_, ?_, ?_, ?_, ?_, ?_, ?_, ?_, ?_, ?_, ?_, ?_, ?_, ?_, ?_, ?_, ?_, trivial⟩ <;> k_is)
    (case cs => refine' DL.cs_cons ?w0 ?x0 (DL.cs_cons ?w1 ?x1 (DL.cs_nil)); (case w0 => k_is); (case x0 => first | exact rfl | exact ⟨_, rfl⟩); (case w1 => k_is); (case x1 => first | exact rfl | exact ⟨_, rfl⟩))
    (case a0 => k_is); (case l0 => k_is); (case q0 => k_is); (case k0 => k_is)
    (case a1 => k_is); (case l1 => k_is); (case q1 => k_is); (case k1 => k_is)
    (case a2 => k_is); (case l2 => k_is); (case q2 => k_is); (case k2 => k_is)
    (case a3 => k_is); (case l3 => k_is); (case q3 => k_is); (case k3 => k_is)
    (case a4 => k_is); (case l4 => k_is); (case q4 => k_is); (case k4 => k_is)
    (case a5 => k_is); (case l5 => k_is); (case q5 => k_is); (case k5 => k_is)
    (case t5 => exact fun _ => ⟨92, 88, rfl, by simp [DL.Tabs.l], by decide⟩)
    (case a6 => k_is); (case l6 => k_is); (case q6 => k_is); (case k6 => k_is)
    (case a7 => k_is); (case l7 => k_is); (case q7 => k_is); (case k7 => k_is)
    (case a8 => k_is); (case l8 => k_is); (case q8 => k_is); (case k8 => k_is)
    (case t8 => exact fun _ => ⟨109, 105, rfl, by simp [DL.Tabs.l], by decide⟩)
    (case a9 => k_is); (case l9 => k_is); (case q9 => k_is); (case k9 => k_is)
    (case a10 => k_is); (case l10 => k_is); (case q10 => k_is); (case k10 => k_is)
    (case t10 => exact fun _ => ⟨121, 117, rfl, by simp [DL.Tabs.l], by decide⟩)
    (case a11 => k_is); (case l11 => k_is); (case q11 => k_is); (case k11 => k_is)
    (case t11 => exact fun _ => ⟨128, 124, rfl, by simp [DL.Tabs.l], by decide⟩)
    (case a12 => k_is); (case l12 => k_is); (case q12 => k_is); (case k12 => k_is)
    (case a13 => k_is); (case l13 => k_is); (case q13 => k_is); (case k13 => k_is)
    (case a14 => k_is); (case l14 => k_is); (case q14 => k_is); (case k14 => k_is)
    (case a15 => k_is); (case l15 => k_is); (case q15 => k_is); (case k15 => k_is)
    (case a16 => k_is); (case l16 => k_is); (case q16 => k_is); (case k16 => k_is)
    (case a17 => k_is); (case l17 => k_is); (case q17 => k_is); (case k17 => k_is)
    (case a18 => k_is); (case l18 => k_is); (case q18 => k_is); (case k18 => k_is)
    (case a19 => k_is); (case l19 => k_is); (case q19 => k_is); (case k19 => k_is)
    (case a20 => k_is); (case l20 => k_is); (case q20 => k_is); (case k20 => k_is)
    (case tt => exact DL.tabs_list rfl (DL.tabsL_cons (DL.tab1 (x := "check_alike") T KX rfl rfl (by kernel_rfl)) (DL.tabsL_cons (DL.tab1 (x := "least_word") T KX rfl rfl (by kernel_rfl)) (DL.tabsL_cons (DL.tab1 (x := "step_of_pairs") T KX rfl rfl (by kernel_rfl)) (DL.tabsL_cons (DL.tab1 (x := "parting_word") T KX rfl rfl (by kernel_rfl)) (DL.tabsL_nil))))))
end
