import PyProof.Rows.All
import Wide.All
import OpenK.AllK
import Wide.FinOn
import HandS.ForMost
import HandS.ForExc
import HandS.Wide
import HandS.Gcd
import HandS.IsInst
import HandS.Style
import HandS.Zip
import HandS.Walk
import HandS.TupAny
import HandS.Conv
import HandS.Flow
import HandS.DictTup
import HandS.TupLen
import HandS.HotCalls
import HandS.ExcIs
import HandS.Comp
import HandS.WordsExc
import KE.KTryMore
import KE.KMathGC
import HandS.More
import KE.KDictDisplayH
import HandS.Deep
import HandS.FStr
import HandS.TupMul
import HandS.Text
import HandS.Ends
import KE.GoesRaise
import HandS.SuiteRaise
import HandS.RaiseFrom
import HandS.DictComp
import PySem.Challenge.RW_wheeltrain_k14_texts
set_option Elab.async false
set_option linter.all false
set_option maxRecDepth 100000
/-! A layer over HandS in which the heap is out of sight: frozen data (PyData), and a store of the def's own lists. -/
namespace Wt
open PySem PySem.Spec PyProof.Rows L2
abbrev D := PyData
section
variable {K : PySem.W.Frag} {H H' F F' B B' : Hp}
theorem same_new {p : Addr} {o : HO} (h : H p = none) : Same H (upd H p o) := fun b x e => by
  rw [upd_ne (ne_of_none e h)]
  exact e
theorem same_tup {a : Addr} {xs : List V} (e : Same H H') (h : SqT K H a xs) : SqT K H' a xs := by
  rcases h with (h | ⟨o, h⟩) | h
  · exact .inl (.inl (e _ _ h))
  · exact .inl (.inr ⟨o, e _ _ h⟩)
  · exact .inr h
theorem sqL_of {a : Addr} {xs : List V} (h : H a = some (.lst xs)) : SqL K H a xs := .inl (.inl h)
theorem sqT_of {a : Addr} {xs : List V} (h : H a = some (.tup xs)) : SqT K H a xs := .inl (.inl h)

/-! ### data that stands frozen in the heap F -/
mutual
inductive Dv (K : PySem.W.Frag) (F : Hp) : V → D → Prop
  | non : Dv K F .non .none
  | bl (b : Bool) : Dv K F (.bl b) (.bool b)
  | int (i : Int) : Dv K F (.int i) (.int i)
  | str (x : Str) : Dv K F (.str x) (.str x)
  | lst {a : Addr} {xs : List V} {ds : List D} : F a = some (.lst xs) → Dvs K F xs ds → Dv K F (.ref a) (.list ds)
  | tup {a : Addr} {xs : List V} {ds : List D} : F a = some (.tup xs) → Dvs K F xs ds → Dv K F (.ref a) (.tuple ds)
  | dct {a : Addr} : F a = some (.dK []) → Dv K F (.ref a) (.dict [])
inductive Dvs (K : PySem.W.Frag) (F : Hp) : List V → List D → Prop
  | nil : Dvs K F [] []
  | cons {v : V} {vs : List V} {d : D} {ds : List D} : Dv K F v d → Dvs K F vs ds → Dvs K F (v :: vs) (d :: ds)
end
mutual
theorem Dv.mono (e : Same F F') : ∀ (d : D) (v : V), Dv K F v d → Dv K F' v d
  | .none, _, h => by cases h; exact .non
  | .bool b, _, h => by cases h; exact .bl b
  | .int i, _, h => by cases h; exact .int i
  | .str x, _, h => by cases h; exact .str x
  | .list ds, _, h => by
    cases h with
    | lst hs ha => exact .lst (e _ _ hs) (Dvs.mono e ds _ ha)
  | .tuple ds, _, h => by
    cases h with
    | tup hs ha => exact .tup (e _ _ hs) (Dvs.mono e ds _ ha)
  | .dict _, _, h => by
    cases h with
    | dct hs => exact .dct (e _ _ hs)
theorem Dvs.mono (e : Same F F') : ∀ (ds : List D) (vs : List V), Dvs K F vs ds → Dvs K F' vs ds
  | [], _, h => by cases h; exact .nil
  | d :: ds, _, h => by
    cases h with
    | cons h1 h2 => exact .cons (Dv.mono e d _ h1) (Dvs.mono e ds _ h2)
end
theorem Dv.up {d : D} {v : V} (h : Dv K F v d) (e : Same F F') : Dv K F' v d := Dv.mono e d v h
theorem Dvs.up {ds : List D} {vs : List V} (h : Dvs K F vs ds) (e : Same F F') : Dvs K F' vs ds := Dvs.mono e ds vs h
theorem Dvs.length : ∀ {ds : List D} {vs : List V}, Dvs K F vs ds → vs.length = ds.length
  | _, _, .nil => rfl
  | _, _, .cons _ t => by rw [List.length_cons, List.length_cons, Dvs.length t]
theorem Dvs.get : ∀ {ds : List D} {vs : List V} {i : Nat} {v : V}, Dvs K F vs ds → vs[i]? = some v → ∃ d, ds[i]? = some d ∧ Dv K F v d
  | _, _, _, _, .nil, e => by simp at e
  | _, _, 0, _, .cons h _, e => by
    have e1 := Option.some.inj e
    subst e1
    exact ⟨_, rfl, h⟩
  | _, _, i + 1, v, .cons _ t, e => Dvs.get (i := i) (v := v) t e
theorem Dvs.get' {ds : List D} {vs : List V} {i : Nat} {d : D} (h : Dvs K F vs ds) (e : ds[i]? = some d) : ∃ v, vs[i]? = some v ∧ Dv K F v d := by
  have hl := h.length
  have hi : i < ds.length := (List.getElem?_eq_some_iff.mp e).1
  have hv : vs[i]? = some (vs[i]'(by omega)) := List.getElem?_eq_getElem (by omega)
  obtain ⟨d', e', h'⟩ := h.get hv
  rw [e] at e'
  cases e'
  exact ⟨_, hv, h'⟩
theorem Dvs.snoc : ∀ {ds : List D} {vs : List V} {v : V} {d : D}, Dvs K F vs ds → Dv K F v d → Dvs K F (vs ++ [v]) (ds ++ [d])
  | _, _, _, _, .nil, h => .cons h .nil
  | _, _, _, _, .cons a t, h => .cons a (Dvs.snoc t h)
theorem Dvs.append : ∀ {ds es : List D} {vs us : List V}, Dvs K F vs ds → Dvs K F us es → Dvs K F (vs ++ us) (ds ++ es)
  | _, _, _, _, .nil, h => h
  | _, _, _, _, .cons a t, h => .cons a (Dvs.append t h)
theorem Dvs.take : ∀ {ds : List D} {vs : List V} (n : Nat), Dvs K F vs ds → Dvs K F (vs.take n) (ds.take n)
  | _, _, 0, _ => .nil
  | _, _, _ + 1, .nil => .nil
  | _, _, n + 1, .cons a t => .cons a (Dvs.take n t)
theorem Dvs.drop : ∀ {ds : List D} {vs : List V} (n : Nat), Dvs K F vs ds → Dvs K F (vs.drop n) (ds.drop n)
  | _, _, 0, r => r
  | _, _, _ + 1, .nil => .nil
  | _, _, n + 1, .cons _ t => Dvs.drop n t
theorem Dvs.reverse : ∀ {ds : List D} {vs : List V}, Dvs K F vs ds → Dvs K F vs.reverse ds.reverse
  | _, _, .nil => .nil
  | _, _, .cons a t => by
    rw [List.reverse_cons, List.reverse_cons]
    exact (Dvs.reverse t).snoc a
/-- ints -/
theorem Dvs.ints : ∀ {is : List Int} {vs : List V}, Dvs K F vs (is.map .int) → vs = is.map V.int
  | [], _, h => by cases h; rfl
  | i :: is, _, h => by
    cases h with
    | cons h1 h2 =>
      cases h1
      rw [Dvs.ints h2]
      rfl
theorem Dvs.of_ints : ∀ (is : List Int), Dvs K F (is.map V.int) (is.map .int)
  | [] => .nil
  | i :: is => .cons (.int i) (Dvs.of_ints is)
/-- bools -/
theorem Dvs.bls : ∀ {is : List Bool} {vs : List V}, Dvs K F vs (is.map .bool) → vs = is.map V.bl
  | [], _, h => by cases h; rfl
  | i :: is, _, h => by
    cases h with
    | cons h1 h2 =>
      cases h1
      rw [Dvs.bls h2]
      rfl
/-! data without a dict -/
mutual
def nod : D → Bool
  | .dict _ => false
  | .list ds => nods ds
  | .tuple ds => nods ds
  | _ => true
def nods : List D → Bool
  | [] => true
  | d :: ds => nod d && nods ds
end
mutual
theorem Dv.dp (e : Same F H) : ∀ (d : D) (v : V), nod d = true → Dv K F v d → Dp K H v d
  | .none, _, _, h => by cases h; exact .non
  | .bool b, _, _, h => by cases h; exact .bl b
  | .int i, _, _, h => by cases h; exact .int i
  | .str x, _, _, h => by cases h; exact .str x
  | .list ds, _, n, h => by
    cases h with
    | lst hs ha => exact .lst (sqL_of (e _ _ hs)) (Dvs.dp e ds _ n ha)
  | .tuple ds, _, n, h => by
    cases h with
    | tup hs ha => exact .tup (sqT_of (e _ _ hs)) (Dvs.dp e ds _ n ha)
  | .dict _, _, n, _ => by cases n
theorem Dvs.dp (e : Same F H) : ∀ (ds : List D) (vs : List V), nods ds = true → Dvs K F vs ds → DpAll K H vs ds
  | [], _, _, h => by cases h; exact .nil
  | d :: ds, _, n, h => by
    cases h with
    | cons h1 h2 =>
      have n1 : (nod d && nods ds) = true := n
      rw [Bool.and_eq_true] at n1
      exact .cons (Dv.dp e d _ n1.1 h1) (Dvs.dp e ds _ n1.2 h2)
end

/-- an atom is itself wherever it stands -/
def atom : D → Bool
  | .list _ => false
  | .tuple _ => false
  | .dict _ => false
  | _ => true
theorem Dv.atom {d : D} {v : V} (h : Dv K F v d) (a : Wt.atom d = true) : Dv K F' v d := by
  cases h with
  | non => exact .non
  | bl b => exact .bl b
  | int i => exact .int i
  | str x => exact .str x
  | lst _ _ => cases a
  | tup _ _ => cases a
  | dct _ => cases a
/-! ### what a slot holds -/
inductive Pv where
  /-- frozen data -/
  | dat (d : D)
  /-- a list of the caller's, read alone; what it holds -/
  | bor (xs : List Pv)
  /-- data of the caller's, read alone -/
  | rd (d : D)
  /-- the script -/
  | scr (ns : List Int)
  /-- just this value: a list of the store (.ref l), a class -/
  | val (v : V)
  /-- a tuple that holds such -/
  | tup (xs : List Pv)
  /-- a dict of the caller's, keys pairs of ints; read alone; where it stands, if a loop walks it -/
  | dic (lk : Option Addr) (ks : List (Int × Int)) (xs : List Pv)
/-- such a key -/
def kp (k : Int × Int) : List L2.Key := [Sum.inl k.1, Sum.inl k.2]
def dkv (ks : List (Int × Int)) (vs : List V) : List (List L2.Key × V) := (ks.map kp).zip vs
def DcAt (B : Hp) (a : Addr) (kv : List (List L2.Key × V)) : Option Addr → Prop
  | none => B a = some (.dT kv)
  | some d => a = d ∧ ∃ o, B a = some (.frz o (.dT kv))
theorem DcAt.rd {B : Hp} {a : Addr} {kv : List (List L2.Key × V)} : ∀ {lk : Option Addr}, DcAt B a kv lk → Rd B a (.dT kv)
  | none, h => .inl h
  | some _, h => .inr h.2
theorem DcAt.mono {B B' : Hp} {a : Addr} {kv : List (List L2.Key × V)} (b : Same B B') : ∀ {lk : Option Addr}, DcAt B a kv lk → DcAt B' a kv lk
  | none, h => b _ _ h
  | some _, ⟨e, o, h⟩ => ⟨e, o, b _ _ h⟩
abbrev ptr (l : Addr) : Pv := .val (.ref l)
mutual
inductive VOK (K : PySem.W.Frag) (B F : Hp) : Pv → V → Prop
  | dat {d : D} {v : V} : Dv K F v d → VOK K B F (.dat d) v
  | bor {l : Addr} {vs : List V} {xs : List Pv} : B l = some (.lst vs) → VsOK K B F xs vs → VOK K B F (.bor xs) (.ref l)
  | rd {d : D} {v : V} : Dv K B v d → VOK K B F (.rd d) v
  | scr {l : Addr} {ns : List Int} : SqL K B l (ns.map V.int) → VOK K B F (.scr ns) (.ref l)
  | val {v : V} : VOK K B F (.val v) v
  | tup {a : Addr} {vs : List V} {xs : List Pv} : F a = some (.tup vs) → VsOK K B F xs vs → VOK K B F (.tup xs) (.ref a)
  | dic {a : Addr} {lk : Option Addr} {ks : List (Int × Int)} {vs : List V} {xs : List Pv} : DcAt B a (dkv ks vs) lk → ks.length = xs.length → VsOK K B F xs vs → VOK K B F (.dic lk ks xs) (.ref a)
inductive VsOK (K : PySem.W.Frag) (B F : Hp) : List Pv → List V → Prop
  | nil : VsOK K B F [] []
  | cons {x : Pv} {v : V} {xs : List Pv} {vs : List V} : VOK K B F x v → VsOK K B F xs vs → VsOK K B F (x :: xs) (v :: vs)
end
theorem rd_mono {a : Addr} {o : HO} (b : Same B B') (h : Rd B a o) : Rd B' a o := by
  rcases h with h | ⟨q, h⟩
  · exact .inl (b _ _ h)
  · exact .inr ⟨q, b _ _ h⟩
mutual
theorem VOK.mono (b : Same B B') (e : Same F F') : ∀ {x : Pv} {v : V}, VOK K B F x v → VOK K B' F' x v
  | _, _, .dat h => .dat (h.up e)
  | _, _, .bor h t => .bor (b _ _ h) (VsOK.mono b e t)
  | _, _, .rd h => .rd (h.up b)
  | _, _, .scr h => .scr (b.seq h)
  | _, _, .val => .val
  | _, _, .tup h t => .tup (e _ _ h) (VsOK.mono b e t)
  | _, _, .dic h l t => .dic (h.mono b) l (VsOK.mono b e t)
theorem VsOK.mono (b : Same B B') (e : Same F F') : ∀ {xs : List Pv} {vs : List V}, VsOK K B F xs vs → VsOK K B' F' xs vs
  | _, _, .nil => .nil
  | _, _, .cons h t => .cons (VOK.mono b e h) (VsOK.mono b e t)
end
theorem VOK.up {x : Pv} {v : V} (h : VOK K B F x v) (e : Same F F') : VOK K B F' x v := h.mono (Same.refl B) e
theorem VsOK.up {x : List Pv} {v : List V} (h : VsOK K B F x v) (e : Same F F') : VsOK K B F' x v := h.mono (Same.refl B) e
theorem VsOK.length : ∀ {ds : List Pv} {vs : List V}, VsOK K B F ds vs → vs.length = ds.length
  | _, _, .nil => rfl
  | _, _, .cons _ t => by rw [List.length_cons, List.length_cons, VsOK.length t]
theorem VsOK.get : ∀ {ds : List Pv} {vs : List V} {i : Nat} {v : V}, VsOK K B F ds vs → vs[i]? = some v → ∃ d, ds[i]? = some d ∧ VOK K B F d v
  | _, _, _, _, .nil, e => by simp at e
  | _, _, 0, _, .cons h _, e => by
    have e1 := Option.some.inj e
    subst e1
    exact ⟨_, rfl, h⟩
  | _, _, i + 1, v, .cons _ t, e => VsOK.get (i := i) (v := v) t e
theorem VsOK.get' {ds : List Pv} {vs : List V} {i : Nat} {d : Pv} (h : VsOK K B F ds vs) (e : ds[i]? = some d) : ∃ v, vs[i]? = some v ∧ VOK K B F d v := by
  have hl := h.length
  have hi : i < ds.length := (List.getElem?_eq_some_iff.mp e).1
  have hv : vs[i]? = some (vs[i]'(by omega)) := List.getElem?_eq_getElem (by omega)
  obtain ⟨d', e', h'⟩ := h.get hv
  rw [e] at e'
  cases e'
  exact ⟨_, hv, h'⟩
theorem VsOK.snoc : ∀ {ds : List Pv} {vs : List V} {v : V} {d : Pv}, VsOK K B F ds vs → VOK K B F d v → VsOK K B F (ds ++ [d]) (vs ++ [v])
  | _, _, _, _, .nil, h => .cons h .nil
  | _, _, _, _, .cons a t, h => .cons a (VsOK.snoc t h)
theorem VsOK.append : ∀ {ds es : List Pv} {vs us : List V}, VsOK K B F ds vs → VsOK K B F es us → VsOK K B F (ds ++ es) (vs ++ us)
  | _, _, _, _, .nil, h => h
  | _, _, _, _, .cons a t, h => .cons a (VsOK.append t h)
theorem VsOK.take : ∀ {ds : List Pv} {vs : List V} (n : Nat), VsOK K B F ds vs → VsOK K B F (ds.take n) (vs.take n)
  | _, _, 0, _ => .nil
  | _, _, _ + 1, .nil => .nil
  | _, _, n + 1, .cons a t => .cons a (VsOK.take n t)
theorem VsOK.drop : ∀ {ds : List Pv} {vs : List V} (n : Nat), VsOK K B F ds vs → VsOK K B F (ds.drop n) (vs.drop n)
  | _, _, 0, r => r
  | _, _, _ + 1, .nil => .nil
  | _, _, n + 1, .cons _ t => VsOK.drop n t
theorem VsOK.set {x : Pv} {v : V} (r : VOK K B F x v) : ∀ {ds : List Pv} {vs : List V} (i : Nat), VsOK K B F ds vs → VsOK K B F (ds.set i x) (vs.set i v)
  | _, _, _, .nil => .nil
  | _, _, 0, .cons _ t => .cons r t
  | _, _, i + 1, .cons q t => .cons q (VsOK.set r i t)
theorem VsOK.reverse : ∀ {ds : List Pv} {vs : List V}, VsOK K B F ds vs → VsOK K B F ds.reverse vs.reverse
  | _, _, .nil => .nil
  | _, _, .cons a t => by
    rw [List.reverse_cons, List.reverse_cons]
    exact (VsOK.reverse t).snoc a
/-- read data as a slot's content -/
def rdP (d : D) : Pv := if atom d then .dat d else .rd d
theorem VOK.rdP {d : D} {v : V} (h : Dv K B v d) : VOK K B F (rdP d) v := by
  unfold Wt.rdP
  split
  · rename_i a
    exact .dat (h.atom a)
  · exact .rd h
theorem VsOK.rdPs : ∀ {vs : List V} {ds : List D}, Dvs K B vs ds → VsOK K B F (ds.map Wt.rdP) vs
  | _, _, .nil => .nil
  | _, _, .cons h t => .cons (VOK.rdP h) (VsOK.rdPs t)
/-- all of them frozen data -/
def dats : List Pv → Option (List D)
  | [] => some []
  | .dat d :: xs => (dats xs).map (d :: ·)
  | _ :: _ => none
theorem dats_map : ∀ (ds : List D), dats (ds.map .dat) = some ds
  | [] => rfl
  | d :: ds => by
    show (dats (ds.map .dat)).map (d :: ·) = some (d :: ds)
    rw [dats_map ds]
    rfl
theorem VsOK.dats : ∀ {xs : List Pv} {vs : List V} {ds : List D}, VsOK K B F xs vs → Wt.dats xs = some ds → Dvs K F vs ds
  | _, _, ds, .nil, e => by
    have e1 : [] = ds := Option.some.inj e
    subst e1
    exact .nil
  | _, _, ds, .cons (x := x) (xs := xs) h t, e => by
    cases h with
    | dat h =>
      rename_i d
      cases e1 : Wt.dats xs with
      | none =>
        have e2 : (Wt.dats xs).map (d :: ·) = some ds := e
        rw [e1] at e2
        cases e2
      | some es =>
        have e2 : (Wt.dats xs).map (d :: ·) = some ds := e
        rw [e1] at e2
        have e3 : d :: es = ds := Option.some.inj e2
        subst e3
        exact .cons h (VsOK.dats t e1)
    | bor _ _ => cases e
    | rd _ => cases e
    | scr _ => cases e
    | val => cases e
    | tup _ _ => cases e
    | dic _ _ _ => cases e
theorem VsOK.of_dvs : ∀ {vs : List V} {ds : List D}, Dvs K F vs ds → VsOK K B F (ds.map .dat) vs
  | _, _, .nil => .nil
  | _, _, .cons h t => .cons (.dat h) (VsOK.of_dvs t)
end
end Wt
namespace Wt
open PySem PySem.Spec PyProof.Rows L2
/-- an object of the def's own: a list; a dict whose keys are pairs of ints -/
inductive Cell where
  | lst (xs : List Pv)
  | dct (ks : List (Int × Int)) (xs : List Pv)
  | dks (kvs : List (L2.Key × V))
/-- a tuple never changes -/
def IsTp (o : HO) : Prop := ∃ xs, o = .tup xs
abbrev Store := List (Addr × Cell)
abbrev Slots := List (Option Pv)
/-! without a borrowed list -/
mutual
def nob : Pv → Bool
  | .bor _ => false
  | .rd _ => false
  | .scr _ => false
  | .dic _ _ _ => false
  | .tup xs => nobs xs
  | _ => true
def nobs : List Pv → Bool
  | [] => true
  | x :: xs => nob x && nobs xs
end
def SlOK (K : PySem.W.Frag) (B F : Hp) : Option Pv → Option V → Prop
  | none, _ => True
  | some x, o => ∃ v, o = some v ∧ VOK K B F x v
/-- no heap: nothing in a cell is a borrowed list -/
abbrev hp0 : Hp := fun _ => none
def CellOK (K : PySem.W.Frag) (F H : Hp) (l : Addr) : Cell → Prop
  | .lst xs => ∃ vs, H l = some (.lst vs) ∧ VsOK K hp0 F xs vs
  | .dct ks xs => ∃ vs, H l = some (.dT (dkv ks vs)) ∧ ks.length = xs.length ∧ VsOK K hp0 F xs vs
  | .dks kvs => H l = some (.dK kvs)
/-- no dict is frozen -/
def FOk (F : Hp) : Prop := ∀ a kv, F a ≠ some (.dT kv)
theorem FOk.upd {F : Hp} (h : FOk F) {p : Addr} {o : HO} (ho : ∀ kv, o ≠ .dT kv) : FOk (upd F p o) := fun a kv z => by
  by_cases e : a = p
  · subst e; rw [upd_same] at z; exact ho kv (Option.some.inj z)
  · rw [upd_ne e] at z; exact h a kv z
structure EnvOK (K : PySem.W.Frag) (A B F H : Hp) (ρ : Slots) (S : Store) (σ : L2.St) : Prop where
  exB : Same B H
  exF : Same F H
  af : Same A F
  fr : ∀ a o, F a = some o → A a = some o ∨ B a = none ∨ IsTp o
  sl : Paired (SlOK K B F) ρ σ
  st : ∀ p ∈ S, B p.1 = none ∧ F p.1 = none ∧ CellOK K F H p.1 p.2
  nd : (S.map (·.1)).Nodup
  fk : FOk F
section
variable {K : PySem.W.Frag} {A H H' F F' B B' : Hp} {ρ : Slots} {S S' : Store} {σ : L2.St}
mutual
theorem VOK.nob : ∀ {x : Pv} {v : V}, VOK K B F x v → Wt.nob x = true → VOK K hp0 F x v
  | _, _, .dat h, _ => .dat h
  | _, _, .bor h t, n => by cases n
  | _, _, .rd h, n => by cases n
  | _, _, .scr h, n => by cases n
  | _, _, .val, _ => .val
  | _, _, .tup h t, n => .tup h (VsOK.nob t n)
  | _, _, .dic h l t, n => by cases n
theorem VsOK.nob : ∀ {xs : List Pv} {vs : List V}, VsOK K B F xs vs → Wt.nobs xs = true → VsOK K hp0 F xs vs
  | _, _, .nil, _ => .nil
  | _, _, .cons (x := x) (xs := xs) h t, n => by
    have n1 : (Wt.nob x && Wt.nobs xs) = true := n
    rw [Bool.and_eq_true] at n1
    exact .cons (VOK.nob h n1.1) (VsOK.nob t n1.2)
end
theorem VOK.hp {x : Pv} {v : V} (h : VOK K hp0 F x v) : VOK K B F x v := h.mono (fun _ _ z => absurd z (by simp [hp0])) (Same.refl F)
theorem VsOK.hp {xs : List Pv} {vs : List V} (h : VsOK K hp0 F xs vs) : VsOK K B F xs vs := h.mono (fun _ _ z => absurd z (by simp [hp0])) (Same.refl F)
theorem nobs_dats : ∀ (ds : List D), Wt.nobs (ds.map .dat) = true
  | [] => rfl
  | d :: ds => by
    show (true && Wt.nobs (ds.map .dat)) = true
    rw [nobs_dats ds]
    rfl
theorem nobs_append : ∀ {xs ys : List Pv}, Wt.nobs xs = true → Wt.nobs ys = true → Wt.nobs (xs ++ ys) = true
  | [], _, _, h => h
  | x :: xs, ys, h, h2 => by
    have n1 : (Wt.nob x && Wt.nobs xs) = true := h
    rw [Bool.and_eq_true] at n1
    show (Wt.nob x && Wt.nobs (xs ++ ys)) = true
    rw [n1.1, nobs_append n1.2 h2]
    rfl
theorem SlOK.mono {x : Option Pv} {o : Option V} (b : Same B B') (e : Same F F') (h : SlOK K B F x o) : SlOK K B' F' x o := by
  cases x with
  | none => trivial
  | some x =>
    obtain ⟨v, e1, h1⟩ := h
    exact ⟨v, e1, h1.mono b e⟩
theorem paired_mono {α β : Type} {P Q : α → β → Prop} (h : ∀ a b, P a b → Q a b) : ∀ {xs : List α} {ys : List β}, Paired P xs ys → Paired Q xs ys
  | _, _, .nil => .nil
  | _, _, .cons a t => .cons (h _ _ a) (paired_mono h t)
theorem paired_get {α β : Type} {P : α → β → Prop} : ∀ {xs : List α} {ys : List β} {i : Nat} {x : α}, Paired P xs ys → xs[i]? = some x → ∃ y, ys[i]? = some y ∧ P x y
  | _, _, _, _, .nil, e => by simp at e
  | _, _, 0, _, .cons h _, e => by
    have e1 := Option.some.inj e
    subst e1
    exact ⟨_, rfl, h⟩
  | _, _, i + 1, v, .cons _ t, e => paired_get (i := i) (x := v) t e
theorem paired_set {α β : Type} {P : α → β → Prop} {x : α} {y : β} (r : P x y) : ∀ {xs : List α} {ys : List β} (i : Nat), Paired P xs ys → Paired P (xs.set i x) (ys.set i y)
  | _, _, _, .nil => .nil
  | _, _, 0, .cons _ t => .cons r t
  | _, _, i + 1, .cons q t => .cons q (paired_set r i t)
theorem CellOK.mono {l : Addr} {c : Cell} (e : Same F F') (hH : H' l = H l) (h : CellOK K F H l c) : CellOK K F' H' l c := by
  cases c with
  | lst xs =>
    obtain ⟨vs, e1, h1⟩ := h
    exact ⟨vs, hH.trans e1, h1.up e⟩
  | dct ks xs =>
    obtain ⟨vs, e1, l1, h1⟩ := h
    exact ⟨vs, hH.trans e1, l1, h1.up e⟩
  | dks kvs => exact hH.trans h
theorem CellOK.some2 {l : Addr} {c : Cell} (h : CellOK K F H l c) : ∃ o, H l = some o ∧ ¬ IsTp o := by
  cases c with
  | lst xs =>
    obtain ⟨vs, e1, h1⟩ := h
    exact ⟨_, e1, fun ⟨_, z⟩ => nomatch z⟩
  | dct ks xs =>
    obtain ⟨vs, e1, h1⟩ := h
    exact ⟨_, e1, fun ⟨_, z⟩ => nomatch z⟩
  | dks kvs => exact ⟨_, h, fun ⟨_, z⟩ => nomatch z⟩
theorem CellOK.some {l : Addr} {c : Cell} (h : CellOK K F H l c) : ∃ o, H l = some o := by
  obtain ⟨o, h, _⟩ := h.some2
  exact ⟨o, h⟩
/-- a new frozen object -/
theorem EnvOK.frz (en : EnvOK K A B F H ρ S σ) {p : Addr} {o : HO} (np : H p = none) (ho : ∀ kv, o ≠ .dT kv := by intro _ z; cases z) : EnvOK K A B (upd F p o) (upd H p o) ρ S σ ∧ Same F (upd F p o) := by
  have nF : F p = none := en.exF.free np
  have sF : Same F (upd F p o) := same_new nF
  refine ⟨⟨en.exB.trans (same_new np), fun a x e => ?_, en.af.trans sF, fun a x e => ?_, paired_mono (fun _ _ h => h.mono (Same.refl B) sF) en.sl, fun q hq => ?_, en.nd, en.fk.upd ho⟩, sF⟩
  · by_cases h : a = p
    · subst h
      rw [upd_same] at e ⊢
      exact e
    · rw [upd_ne h] at e ⊢
      exact en.exF _ _ e
  · by_cases h : a = p
    · subst h
      exact .inr (.inl (en.exB.free np))
    · rw [upd_ne h] at e
      exact en.fr _ _ e
  · obtain ⟨h1, h2, h3⟩ := en.st q hq
    obtain ⟨o', ho⟩ := h3.some
    have hne : q.1 ≠ p := ne_of_none ho np
    exact ⟨h1, by rw [upd_ne hne]; exact h2, h3.mono sF (upd_ne hne)⟩
/-- a tuple that stands is frozen -/
theorem EnvOK.frzT (en : EnvOK K A B F H ρ S σ) {p : Addr} {xs : List V} (hp : H p = some (.tup xs)) : EnvOK K A B (upd F p (.tup xs)) H ρ S σ ∧ Same F (upd F p (.tup xs)) := by
  have sF : Same F (upd F p (.tup xs)) := fun a o e => by
    by_cases h : a = p
    · subst h
      have z := en.exF _ _ e
      rw [hp] at z
      rw [upd_same]
      exact z
    · rw [upd_ne h]
      exact e
  refine ⟨⟨en.exB, fun a x e => ?_, en.af.trans sF, fun a x e => ?_, paired_mono (fun _ _ h => h.mono (Same.refl B) sF) en.sl, fun q hq => ?_, en.nd, en.fk.upd (fun _ z => nomatch z)⟩, sF⟩
  · by_cases h : a = p
    · subst h
      rw [upd_same] at e
      rw [hp]
      exact e
    · rw [upd_ne h] at e
      exact en.exF _ _ e
  · by_cases h : a = p
    · subst h
      rw [upd_same] at e
      exact .inr (.inr ⟨xs, (Option.some.inj e).symm⟩)
    · rw [upd_ne h] at e
      exact en.fr _ _ e
  · obtain ⟨h1, h2, h3⟩ := en.st q hq
    obtain ⟨o', ho, nt⟩ := h3.some2
    have hne : q.1 ≠ p := fun z => by
      rw [z, hp] at ho
      exact nt ⟨xs, (Option.some.inj ho).symm⟩
    exact ⟨h1, by rw [upd_ne hne]; exact h2, h3.mono sF rfl⟩
/-- a new object of the store -/
theorem EnvOK.own (en : EnvOK K A B F H ρ S σ) {p : Addr} {o : HO} (np : H p = none) {c : Cell} (hc : CellOK K F (upd H p o) p c) : EnvOK K A B F (upd H p o) ρ ((p, c) :: S) σ := by
  have nF : F p = none := en.exF.free np
  have nB : B p = none := en.exB.free np
  refine ⟨en.exB.trans (same_new np), en.exF.trans (same_new np), en.af, en.fr, en.sl, fun q hq => ?_, ?_, en.fk⟩
  · rcases List.mem_cons.mp hq with e | hq
    · subst e
      exact ⟨nB, nF, hc⟩
    · obtain ⟨h1, h2, h3⟩ := en.st q hq
      obtain ⟨o', ho⟩ := h3.some
      have hne : q.1 ≠ p := ne_of_none ho np
      exact ⟨h1, h2, h3.mono (Same.refl F) (upd_ne hne)⟩
  · rw [List.map_cons, List.nodup_cons]
    refine ⟨fun hm => ?_, en.nd⟩
    obtain ⟨q, hq, e⟩ := List.mem_map.mp hm
    obtain ⟨h1, h2, h3⟩ := en.st q hq
    obtain ⟨o', ho⟩ := h3.some
    exact ne_of_none ho np e
/-- an object of the store changes -/
theorem nodup_idx {α β : Type} {S : List (α × β)} (nd : (S.map (·.1)).Nodup) {k j : Nat} {l : α} {c d : β} (hk : S[k]? = some (l, c)) (hj : S[j]? = some (l, d)) : k = j := by
  have a : (S.map (·.1))[k]? = some l := by rw [List.getElem?_map, hk]; rfl
  have b : (S.map (·.1))[j]? = some l := by rw [List.getElem?_map, hj]; rfl
  exact nd_ix nd a b
theorem map_set_key {α β : Type} : ∀ {S : List (α × β)} {k : Nat} {l : α} {c d : β}, S[k]? = some (l, c) → (S.set k (l, d)).map (·.1) = S.map (·.1)
  | [], _, _, _, _, h => by simp at h
  | p :: S, 0, l, c, d, h => by
    have e := Option.some.inj h
    subst e
    rfl
  | p :: S, k + 1, l, c, d, h => by
    show p.1 :: (S.set k (l, d)).map (·.1) = p.1 :: S.map (·.1)
    rw [map_set_key (S := S) (k := k) (c := c) h]
theorem EnvOK.put (en : EnvOK K A B F H ρ S σ) {k : Nat} {l : Addr} {c d : Cell} {o : HO} (hk : S[k]? = some (l, c)) (hd : CellOK K F (upd H l o) l d) : EnvOK K A B F (upd H l o) ρ (S.set k (l, d)) σ := by
  obtain ⟨nB, nF, hc⟩ := en.st _ (List.mem_of_getElem? hk)
  refine ⟨fun a x e => ?_, fun a x e => ?_, en.af, en.fr, en.sl, fun q hq => ?_, ?_, en.fk⟩
  · rw [upd_ne (ne_of_none e nB)]
    exact en.exB _ _ e
  · rw [upd_ne (ne_of_none e nF)]
    exact en.exF _ _ e
  · obtain ⟨j, hj⟩ := List.getElem?_of_mem hq
    by_cases e : k = j
    · subst e
      have hlt : k < S.length := (List.getElem?_eq_some_iff.mp hk).1
      rw [List.getElem?_set_self hlt] at hj
      have e2 := Option.some.inj hj
      subst e2
      exact ⟨nB, nF, hd⟩
    · rw [List.getElem?_set_ne e] at hj
      obtain ⟨h1, h2, h3⟩ := en.st q (List.mem_of_getElem? hj)
      have hne : q.1 ≠ l := fun z => e (nodup_idx en.nd hk (show S[j]? = some (l, q.2) by rw [hj, ← z]))
      exact ⟨h1, h2, h3.mono (Same.refl F) (upd_ne hne)⟩
  · rw [map_set_key hk]
    exact en.nd
/-- a slot is stored -/
theorem EnvOK.set (en : EnvOK K A B F H ρ S σ) {i : Nat} {x : Pv} {v : V} (h : VOK K B F x v) : EnvOK K A B F H (ρ.set i (some x)) S (σ.set i (some v)) :=
  ⟨en.exB, en.exF, en.af, en.fr, paired_set ⟨v, rfl, h⟩ i en.sl, en.st, en.nd, en.fk⟩
theorem EnvOK.unset (en : EnvOK K A B F H ρ S σ) {i : Nat} {o : Option V} : EnvOK K A B F H (ρ.set i none) S (σ.set i o) :=
  ⟨en.exB, en.exF, en.af, en.fr, paired_set trivial i en.sl, en.st, en.nd, en.fk⟩
theorem EnvOK.get (en : EnvOK K A B F H ρ S σ) {i : Nat} {x : Pv} (h : ρ[i]? = some (some x)) : ∃ v, σ[i]? = some (some v) ∧ VOK K B F x v := by
  obtain ⟨o, e, q⟩ := paired_get en.sl h
  obtain ⟨v, e2, q2⟩ := q
  subst e2
  exact ⟨v, e, q2⟩
end

/-! ### what a reading comes to -/
/-- the written part; what a raise is wished to reach, and which classes may be raised -/
structure Cn where
  K : PySem.W.Frag
  E : XK
  X : Value → Prop
def Er (c : Cn) (B : Hp) : Prop := ∀ C H', c.X C → Same B H' → c.E C none H'
def Go (c : Cn) (ρ : Slots) (Φ : Pv → Store → Prop) (A B F : Hp) (σ : L2.St) (Q : VK) : Prop :=
  ∀ x v S F' H', Φ x S → EnvOK c.K A B F' H' ρ S σ → Same F F' → VOK c.K B F' x v → Q v H'
def GoB (c : Cn) (ρ : Slots) (Φ : Bool → Store → Prop) (A B F : Hp) (σ : L2.St) (Q : Bool → Hp → Prop) : Prop :=
  ∀ b S F' H', Φ b S → EnvOK c.K A B F' H' ρ S σ → Same F F' → Q b H'
def GoA (c : Cn) (ρ : Slots) (Φ : List Pv → Store → Prop) (A B F : Hp) (σ : L2.St) (Q : List V → Hp → Prop) : Prop :=
  ∀ xs vs S F' H', Φ xs S → EnvOK c.K A B F' H' ρ S σ → Same F F' → VsOK c.K B F' xs vs → Q vs H'
def VE (c : Cn) (ρ : Slots) (S : Store) (te : TE) (Φ : Pv → Store → Prop) : Prop :=
  ∀ A B F H σ, EnvOK c.K A B F H ρ S σ → Er c B → ∀ Q, Go c ρ Φ A B F σ Q → te σ H Q
def VT (c : Cn) (ρ : Slots) (S : Store) (tt : TT) (Φ : Bool → Store → Prop) : Prop :=
  ∀ A B F H σ, EnvOK c.K A B F H ρ S σ → Er c B → ∀ Q, GoB c ρ Φ A B F σ Q → tt σ H Q
def VA (c : Cn) (ρ : Slots) (S : Store) (ta : TA) (Φ : List Pv → Store → Prop) : Prop :=
  ∀ A B F H σ, EnvOK c.K A B F H ρ S σ → Er c B → ∀ Q, GoA c ρ Φ A B F σ Q → ta σ H Q
/-- an operator, a call, by values -/
def VR (c : Cn) (ρ : Slots) (r : R2) (x y : Pv) (S : Store) (Φ : Pv → Store → Prop) : Prop :=
  ∀ A B F H σ, EnvOK c.K A B F H ρ S σ → Er c B → ∀ v u, VOK c.K B F x v → VOK c.K B F y u → ∀ Q, Go c ρ Φ A B F σ Q → r v u H Q
def VU (c : Cn) (ρ : Slots) (r : V → Hp → VK → Prop) (x : Pv) (S : Store) (Φ : Pv → Store → Prop) : Prop :=
  ∀ A B F H σ, EnvOK c.K A B F H ρ S σ → Er c B → ∀ v, VOK c.K B F x v → ∀ Q, Go c ρ Φ A B F σ Q → r v H Q
def VC (c : Cn) (ρ : Slots) (r : List V → Hp → VK → Prop) (xs : List Pv) (S : Store) (Φ : Pv → Store → Prop) : Prop :=
  ∀ A B F H σ, EnvOK c.K A B F H ρ S σ → Er c B → ∀ vs, VsOK c.K B F xs vs → ∀ Q, Go c ρ Φ A B F σ Q → r vs H Q
section
variable {c : Cn} {ρ : Slots} {S : Store} {Φ : Pv → Store → Prop} {ta tb te : TE} {tt tu : TT} {tas : TA} {ΦB : Bool → Store → Prop} {r : R2}
theorem Go.up {A B F F' : Hp} {σ : L2.St} {Q : VK} (h : Go c ρ Φ A B F σ Q) (e : Same F F') : Go c ρ Φ A B F' σ Q := fun x v S' F2 H' p en s vx => h x v S' F2 H' p en (e.trans s) vx
theorem GoB.up {A B F F' : Hp} {σ : L2.St} {Q : Bool → Hp → Prop} (h : GoB c ρ ΦB A B F σ Q) (e : Same F F') : GoB c ρ ΦB A B F' σ Q := fun b S' F2 H' p en s => h b S' F2 H' p en (e.trans s)
theorem Go.dat {A B F H : Hp} {σ : L2.St} {Q : VK} (q : Go c ρ Φ A B F σ Q) (en : EnvOK c.K A B F H ρ S σ) {d : D} {v : V} (h : Φ (.dat d) S) (hd : Dv c.K F v d) : Q v H := q _ _ S F H h en (Same.refl F) (.dat hd)
theorem Go.same {A B F H : Hp} {σ : L2.St} {Q : VK} (q : Go c ρ Φ A B F σ Q) (en : EnvOK c.K A B F H ρ S σ) {x : Pv} {v : V} (h : Φ x S) (hd : VOK c.K B F x v) : Q v H := q _ _ S F H h en (Same.refl F) hd
/-- x is a list to be read, of the items xs -/
inductive Ls (S : Store) : Pv → List Pv → Prop
  | dat {ds : List D} : Ls S (.dat (.list ds)) (ds.map .dat)
  | bor {xs : List Pv} : Ls S (.bor xs) xs
  | rd {ds : List D} : Ls S (.rd (.list ds)) (ds.map rdP)
  | scr {ns : List Int} : Ls S (.scr ns) ((ns.map .int).map .dat)
  | own {l : Addr} {xs : List Pv} : (l, Cell.lst xs) ∈ S → Ls S (ptr l) xs
/-- .. a tracked one -/
inductive LsS (S : Store) : Pv → List Pv → Prop
  | dat {ds : List D} : LsS S (.dat (.list ds)) (ds.map .dat)
  | own {l : Addr} {xs : List Pv} : (l, Cell.lst xs) ∈ S → LsS S (ptr l) xs
  | bor {xs : List Pv} : nobs xs = true → LsS S (.bor xs) xs
/-- x is a tuple of the items xs -/
inductive Tu : Pv → List Pv → Prop
  | dat {ds : List D} : Tu (.dat (.tuple ds)) (ds.map .dat)
  | rd {ds : List D} : Tu (.rd (.tuple ds)) (ds.map rdP)
  | tup {xs : List Pv} : Tu (.tup xs) xs
inductive Sq (S : Store) (x : Pv) (xs : List Pv) : Prop
  | inl (h : Ls S x xs) : Sq S x xs
  | inr (h : Tu x xs) : Sq S x xs
theorem Dvs.ofInts {K : PySem.W.Frag} {F : Hp} (ns : List Int) : Dvs K F (ns.map V.int) (ns.map .int) := Dvs.of_ints ns
theorem Ls.read {K : PySem.W.Frag} {A B F H : Hp} {σ : L2.St} {x : Pv} {xs : List Pv} {v : V} (h : Ls S x xs) (en : EnvOK K A B F H ρ S σ) (vx : VOK K B F x v) : ∃ l vs, v = .ref l ∧ SqL K H l vs ∧ VsOK K B F xs vs := by
  cases h with
  | dat =>
    cases vx with
    | dat a => cases a with
      | lst h1 h2 => exact ⟨_, _, rfl, sqL_of (en.exF _ _ h1), .of_dvs h2⟩
  | bor =>
    cases vx with
    | bor h1 h2 => exact ⟨_, _, rfl, sqL_of (en.exB _ _ h1), h2⟩
  | rd =>
    cases vx with
    | rd a => cases a with
      | lst h1 h2 => exact ⟨_, _, rfl, sqL_of (en.exB _ _ h1), .rdPs h2⟩
  | scr =>
    cases vx with
    | scr h1 => exact ⟨_, _, rfl, en.exB.seq h1, .of_dvs (Dvs.of_ints _)⟩
  | own hk =>
    cases vx with
    | val =>
      obtain ⟨_, _, vs, h1, h2⟩ := en.st _ hk
      exact ⟨_, vs, rfl, sqL_of h1, h2.mono (fun _ _ z => absurd z (by simp [hp0])) (Same.refl F)⟩
theorem LsS.read {K : PySem.W.Frag} {A B F H : Hp} {σ : L2.St} {x : Pv} {xs : List Pv} {v : V} (h : LsS S x xs) (en : EnvOK K A B F H ρ S σ) (vx : VOK K B F x v) : ∃ l vs, v = .ref l ∧ H l = some (.lst vs) ∧ VsOK K hp0 F xs vs := by
  cases h with
  | dat =>
    cases vx with
    | dat a => cases a with
      | lst h1 h2 => exact ⟨_, _, rfl, en.exF _ _ h1, .of_dvs h2⟩
  | own hk =>
    cases vx with
    | val =>
      obtain ⟨_, _, vs, h1, h2⟩ := en.st _ hk
      exact ⟨_, vs, rfl, h1, h2⟩
  | bor hn =>
    cases vx with
    | bor h1 h2 => exact ⟨_, _, rfl, en.exB _ _ h1, h2.nob hn⟩
theorem Tu.read {K : PySem.W.Frag} {B F : Hp} {x : Pv} {xs : List Pv} {v : V} (h : Tu x xs) (vx : VOK K B F x v) : ∃ l vs, v = .ref l ∧ (∀ H, Same B H → Same F H → SqT K H l vs) ∧ VsOK K B F xs vs := by
  cases h with
  | dat =>
    cases vx with
    | dat a => cases a with
      | tup h1 h2 => exact ⟨_, _, rfl, fun H _ f => sqT_of (f _ _ h1), .of_dvs h2⟩
  | rd =>
    cases vx with
    | rd a => cases a with
      | tup h1 h2 => exact ⟨_, _, rfl, fun H b _ => sqT_of (b _ _ h1), .rdPs h2⟩
  | tup =>
    cases vx with
    | tup h1 h2 => exact ⟨_, _, rfl, fun H _ f => sqT_of (f _ _ h1), h2⟩
/-- a list that is read and is none of the store's -/
inductive LsF : Pv → List Pv → Prop
  | dat {ds : List D} : LsF (.dat (.list ds)) (ds.map .dat)
  | bor {xs : List Pv} : LsF (.bor xs) xs
  | rd {ds : List D} : LsF (.rd (.list ds)) (ds.map rdP)
theorem LsF.read {K : PySem.W.Frag} {B F : Hp} {x : Pv} {xs : List Pv} {v : V} (h : LsF x xs) (vx : VOK K B F x v) : ∃ l vs, v = .ref l ∧ (∀ H, Same B H → Same F H → SqL K H l vs) ∧ VsOK K B F xs vs := by
  cases h with
  | dat =>
    cases vx with
    | dat a => cases a with
      | lst h1 h2 => exact ⟨_, _, rfl, fun H _ f => sqL_of (f _ _ h1), .of_dvs h2⟩
  | bor =>
    cases vx with
    | bor h1 h2 => exact ⟨_, _, rfl, fun H b _ => sqL_of (b _ _ h1), h2⟩
  | rd =>
    cases vx with
    | rd a => cases a with
      | lst h1 h2 => exact ⟨_, _, rfl, fun H b _ => sqL_of (b _ _ h1), .rdPs h2⟩
theorem ve_var {i : Nat} {x : Pv} (hx : ρ[i]? = some (some x)) (h : Φ x S) : VE c ρ S (tVar i) Φ := fun A B F H σ en _ Q q => by
  obtain ⟨v, e, hv⟩ := en.get hx
  exact ⟨v, e, q.same en h hv⟩
theorem ve_int {n : Int} (h : Φ (.dat (.int n)) S) : VE c ρ S (tC (.int n)) Φ := fun A B F H σ en _ Q q => q.dat en h (.int n)
theorem ve_bl {n : Bool} (h : Φ (.dat (.bool n)) S) : VE c ρ S (tC (.bl n)) Φ := fun A B F H σ en _ Q q => q.dat en h (.bl n)
theorem ve_non (h : Φ (.dat .none) S) : VE c ρ S (tC .non) Φ := fun A B F H σ en _ Q q => q.dat en h .non
theorem ve_str {x : Str} (h : Φ (.dat (.str x)) S) : VE c ρ S (tC (.str x)) Φ := fun A B F H σ en _ Q q => q.dat en h (.str x)
theorem ve_val {v : V} (h : Φ (.val v) S) : VE c ρ S (tC v) Φ := fun A B F H σ en _ Q q => q.same en h .val
theorem ve_op (h : VE c ρ S ta fun x S1 => VE c ρ S1 tb fun y S2 => VR c ρ r x y S2 Φ) : VE c ρ S (tOp r ta tb) Φ := fun A B F H σ en er Q q => by
  refine h A B F H σ en er _ fun x v S1 F1 H1 h1 en1 f1 vx => ?_
  refine h1 A B F1 H1 σ en1 er _ fun y u S2 F2 H2 h2 en2 f2 vy => ?_
  exact h2 A B F2 H2 σ en2 er v u (vx.up f2) vy Q (q.up (f1.trans f2))
theorem ve_un {r : V → Hp → VK → Prop} (h : VE c ρ S ta fun x S1 => VU c ρ r x S1 Φ) : VE c ρ S (tUn r ta) Φ := fun A B F H σ en er Q q => by
  refine h A B F H σ en er _ fun x v S1 F1 H1 h1 en1 f1 vx => ?_
  exact h1 A B F1 H1 σ en1 er v vx Q (q.up f1)
theorem va_nil {Φ : List Pv → Store → Prop} (h : Φ [] S) : VA c ρ S tNil Φ := fun A B F H σ en _ Q q => q [] [] S F H h en (Same.refl F) .nil
theorem va_cons {Φ : List Pv → Store → Prop} {tr : TA} (h : VE c ρ S ta fun x S1 => VA c ρ S1 tr fun xs S2 => Φ (x :: xs) S2) : VA c ρ S (tCons ta tr) Φ := fun A B F H σ en er Q q => by
  refine h A B F H σ en er _ fun x v S1 F1 H1 h1 en1 f1 vx => ?_
  refine h1 A B F1 H1 σ en1 er _ fun xs vs S2 F2 H2 h2 en2 f2 vy => ?_
  exact q _ _ S2 F2 H2 h2 en2 (f1.trans f2) (.cons (vx.up f2) vy)
theorem ve_cb {r : List V → Hp → VK → Prop} (h : VA c ρ S tas fun xs S1 => VC c ρ r xs S1 Φ) : VE c ρ S (tCB r tas) Φ := fun A B F H σ en er Q q => by
  refine h A B F H σ en er _ fun xs vs S1 F1 H1 h1 en1 f1 vx => ?_
  exact h1 A B F1 H1 σ en1 er vs vx Q (q.up f1)
theorem ve_call {sp : Sp} {E : XK} (h : VA c ρ S tas fun xs S1 => VC c ρ (fun vs H Q => sp vs H Q E) xs S1 Φ) : VE c ρ S (tCall sp [] E tas) Φ := fun A B F H σ en er Q q => by
  refine h A B F H σ en er _ fun xs vs S1 F1 H1 h1 en1 f1 vx => ?_
  show sp (vs ++ []) H1 Q E
  rw [List.append_nil]
  exact h1 A B F1 H1 σ en1 er vs vx Q (q.up f1)
/-- a new tuple -/
def tupP (xs : List Pv) : Pv := match dats xs with
  | some ds => .dat (.tuple ds)
  | none => .tup xs
theorem ve_tup (h : VA c ρ S tas fun xs S1 => xs.length ≤ 100000 ∧ Φ (tupP xs) S1) : VE c ρ S (tTup tas) Φ := fun A B F H σ en er Q q => by
  refine h A B F H σ en er _ fun xs vs S1 F1 H1 h1 en1 f1 vx => ?_
  refine ⟨by rw [vx.length]; exact Nat.le_trans h1.1 (by decide), fun p np => ?_⟩
  obtain ⟨en2, f2⟩ := en1.frz (o := .tup vs) np
  refine q _ _ S1 _ _ h1.2 en2 (f1.trans f2) ?_
  unfold tupP
  cases e : dats xs with
  | none => exact .tup upd_same (vx.up f2)
  | some ds => exact .dat (.tup upd_same ((vx.dats e).up f2))
theorem ve_lst (h : VA c ρ S tas fun xs S1 => nobs xs = true ∧ xs.length ≤ 100000 ∧ ∀ p, Φ (ptr p) ((p, .lst xs) :: S1)) : VE c ρ S (tLst tas) Φ := fun A B F H σ en er Q q => by
  refine h A B F H σ en er _ fun xs vs S1 F1 H1 h1 en1 f1 vx => ?_
  refine ⟨by rw [vx.length]; exact Nat.le_trans h1.2.1 (by decide), fun p np => ?_⟩
  have en2 := en1.own (o := .lst vs) (c := .lst xs) np ⟨vs, upd_same, vx.nob h1.1⟩
  exact q _ _ _ _ _ (h1.2.2 p) en2 f1 .val
/-- a new list of frozen data that is itself frozen -/
theorem ve_lstD (h : VA c ρ S tas fun xs S1 => ∃ ds, dats xs = some ds ∧ xs.length ≤ 100000 ∧ Φ (.dat (.list ds)) S1) : VE c ρ S (tLst tas) Φ := fun A B F H σ en er Q q => by
  refine h A B F H σ en er _ fun xs vs S1 F1 H1 h1 en1 f1 vx => ?_
  obtain ⟨ds, e, hl, h1⟩ := h1
  refine ⟨by rw [vx.length]; exact Nat.le_trans hl (by decide), fun p np => ?_⟩
  obtain ⟨en2, f2⟩ := en1.frz (o := .lst vs) np
  exact q _ _ S1 _ _ h1 en2 (f1.trans f2) (.dat (.lst upd_same ((vx.dats e).up f2)))
/-! tests -/
theorem vt_test (h : VE c ρ S te fun x S1 => ∃ b, x = .dat (.bool b) ∧ ΦB b S1) : VT c ρ S (tTest te) ΦB := fun A B F H σ en er Q q => by
  refine h A B F H σ en er _ fun x v S1 F1 H1 h1 en1 f1 vx => ?_
  obtain ⟨b, rfl, h1⟩ := h1
  cases vx with
  | dat hd => cases hd; exact ⟨b, rfl, q b S1 F1 H1 h1 en1 f1⟩
theorem vt_B (h : VE c ρ S te fun x S1 => ∃ b, x = .dat (.bool b) ∧ ΦB b S1) : VT c ρ S (tB te) ΦB := vt_test h
theorem vt_and (h : VT c ρ S tt fun b S1 => (b = true → VT c ρ S1 tu ΦB) ∧ (b = false → ΦB false S1)) : VT c ρ S (tAnd tt tu) ΦB := fun A B F H σ en er Q q => by
  refine h A B F H σ en er _ fun b S1 F1 H1 h1 en1 f1 => ?_
  cases b with
  | true => exact h1.1 rfl A B F1 H1 σ en1 er Q (q.up f1)
  | false => exact q _ _ _ _ (h1.2 rfl) en1 f1
theorem vt_or (h : VT c ρ S tt fun b S1 => (b = true → ΦB true S1) ∧ (b = false → VT c ρ S1 tu ΦB)) : VT c ρ S (tOr tt tu) ΦB := fun A B F H σ en er Q q => by
  refine h A B F H σ en er _ fun b S1 F1 H1 h1 en1 f1 => ?_
  cases b with
  | false => exact h1.2 rfl A B F1 H1 σ en1 er Q (q.up f1)
  | true => exact q _ _ _ _ (h1.1 rfl) en1 f1
theorem vt_not (h : VT c ρ S tt fun b S1 => ΦB (!b) S1) : VT c ρ S (tNot tt) ΦB := fun A B F H σ en er Q q => by
  refine h A B F H σ en er _ fun b S1 F1 H1 h1 en1 f1 => ?_
  exact q _ _ _ _ h1 en1 f1
theorem ve_andV (h : VE c ρ S ta fun x S1 => ∃ b, x = .dat (.bool b) ∧ (b = true → VE c ρ S1 tb Φ) ∧ (b = false → Φ (.dat (.bool false)) S1)) : VE c ρ S (tAndV ta tb) Φ := fun A B F H σ en er Q q => by
  refine h A B F H σ en er _ fun x v S1 F1 H1 h1 en1 f1 vx => ?_
  obtain ⟨b, rfl, ht, hf⟩ := h1
  cases vx with
  | dat hd =>
    cases hd
    refine ⟨b, rfl, ?_⟩
    cases b with
    | true => exact ht rfl A B F1 H1 σ en1 er Q (q.up f1)
    | false => exact (q.up f1).dat en1 (hf rfl) (.bl false)
theorem ve_orV (h : VE c ρ S ta fun x S1 => ∃ b, x = .dat (.bool b) ∧ (b = true → Φ (.dat (.bool true)) S1) ∧ (b = false → VE c ρ S1 tb Φ)) : VE c ρ S (tOrV ta tb) Φ := fun A B F H σ en er Q q => by
  refine h A B F H σ en er _ fun x v S1 F1 H1 h1 en1 f1 vx => ?_
  obtain ⟨b, rfl, ht, hf⟩ := h1
  cases vx with
  | dat hd =>
    cases hd
    refine ⟨b, rfl, ?_⟩
    cases b with
    | false => exact hf rfl A B F1 H1 σ en1 er Q (q.up f1)
    | true => exact (q.up f1).dat en1 (ht rfl) (.bl true)
theorem ve_notV (h : VE c ρ S ta fun x S1 => ∃ b, x = .dat (.bool b) ∧ Φ (.dat (.bool (!b))) S1) : VE c ρ S (tNotV ta) Φ := fun A B F H σ en er Q q => by
  refine h A B F H σ en er _ fun x v S1 F1 H1 h1 en1 f1 vx => ?_
  obtain ⟨b, rfl, h1⟩ := h1
  cases vx with
  | dat hd => cases hd; exact ⟨b, rfl, (q.up f1).dat en1 h1 (.bl _)⟩
theorem ve_if (h : VT c ρ S tt fun b S1 => (b = true → VE c ρ S1 ta Φ) ∧ (b = false → VE c ρ S1 tb Φ)) : VE c ρ S (tIf tt ta tb) Φ := fun A B F H σ en er Q q => by
  refine h A B F H σ en er _ fun b S1 F1 H1 h1 en1 f1 => ?_
  cases b with
  | true => exact h1.1 rfl A B F1 H1 σ en1 er Q (q.up f1)
  | false => exact h1.2 rfl A B F1 H1 σ en1 er Q (q.up f1)
theorem ve_chain {r r' : R2} {tc : TE} (h : VE c ρ S ta fun x S1 => VE c ρ S1 tb fun y S2 => VR c ρ r x y S2 fun z S3 => ∃ b, z = .dat (.bool b) ∧ (b = true → VE c ρ S3 tc fun w S4 => VR c ρ r' y w S4 Φ) ∧ (b = false → Φ (.dat (.bool false)) S3)) :
    VE c ρ S (tChain r r' ta tb tc) Φ := fun A B F H σ en er Q q => by
  refine h A B F H σ en er _ fun x v S1 F1 H1 h1 en1 f1 vx => ?_
  refine h1 A B F1 H1 σ en1 er _ fun y u S2 F2 H2 h2 en2 f2 vy => ?_
  refine h2 A B F2 H2 σ en2 er v u (vx.up f2) vy _ fun z w S3 F3 H3 h3 en3 f3 vz => ?_
  obtain ⟨b, rfl, ht, hf⟩ := h3
  cases vz with
  | dat hd =>
    cases hd
    refine ⟨b, rfl, ?_⟩
    cases b with
    | true =>
      show tc σ H3 fun w' H4 => r' u w' H4 Q
      refine ht rfl A B F3 H3 σ en3 er _ fun y' u' S4 F4 H4 h4 en4 f4 vy' => ?_
      exact h4 A B F4 H4 σ en4 er u u' ((vy.up f3).up f4) vy' Q (q.up (((f1.trans f2).trans f3).trans f4))
    | false =>
      show Q (.bl false) H3
      exact (q.up ((f1.trans f2).trans f3)).dat en3 (hf rfl) (.bl false)
/-! operators by values -/
theorem vr_I0i {g : Int → Int → Int} {i j : Int} (h : Φ (.dat (.int (g i j))) S) : VR c ρ (rI0 fun i j => .int (g i j)) (.dat (.int i)) (.dat (.int j)) S Φ := fun A B F H σ en er v u vx vy Q q => by
  cases vx with
  | dat a => cases vy with
    | dat b => cases a; cases b; exact ⟨i, j, rfl, rfl, q.dat en h (.int _)⟩
theorem vr_I0b {g : Int → Int → Bool} {i j : Int} (h : Φ (.dat (.bool (g i j))) S) : VR c ρ (rI0 fun i j => .bl (g i j)) (.dat (.int i)) (.dat (.int j)) S Φ := fun A B F H σ en er v u vx vy Q q => by
  cases vx with
  | dat a => cases vy with
    | dat b => cases a; cases b; exact ⟨i, j, rfl, rfl, q.dat en h (.bl _)⟩
theorem vr_Ii {C : Int → Int → Prop} {g : Int → Int → Int} {i j : Int} (hc : C i j) (h : Φ (.dat (.int (g i j))) S) : VR c ρ (rI C fun i j => .int (g i j)) (.dat (.int i)) (.dat (.int j)) S Φ := fun A B F H σ en er v u vx vy Q q => by
  cases vx with
  | dat a => cases vy with
    | dat b => cases a; cases b; exact ⟨i, j, rfl, rfl, hc, q.dat en h (.int _)⟩
theorem vu_I {g : Int → Int} {i : Int} (h : Φ (.dat (.int (g i))) S) : VU c ρ (rU fun i => .int (g i)) (.dat (.int i)) S Φ := fun A B F H σ en er v vx Q q => by
  cases vx with
  | dat a => cases a; exact ⟨i, rfl, q.dat en h (.int _)⟩
/-- == of data -/
theorem vr_eqD {d e : D} (n1 : nod d = true) (n2 : nod e = true) (s1 : SeqAt.shaped d = true) (s2 : SeqAt.shaped e = true) (h : Φ (.dat (.bool (PyData.eqv d e))) S) : VR c ρ (rEqD c.K) (.dat d) (.dat e) S Φ := fun A B F H σ en er v u vx vy Q q => by
  cases vx with
  | dat a => cases vy with
    | dat b => exact ⟨d, e, a.dp en.exF _ _ n1, b.dp en.exF _ _ n2, s1, s2, q.dat en h (.bl _)⟩
theorem vr_neD {d e : D} (n1 : nod d = true) (n2 : nod e = true) (s1 : SeqAt.shaped d = true) (s2 : SeqAt.shaped e = true) (h : Φ (.dat (.bool (!PyData.eqv d e))) S) : VR c ρ (rNeD c.K) (.dat d) (.dat e) S Φ := fun A B F H σ en er v u vx vy Q q => by
  cases vx with
  | dat a => cases vy with
    | dat b => exact ⟨d, e, a.dp en.exF _ _ n1, b.dp en.exF _ _ n2, s1, s2, q.dat en h (.bl _)⟩
theorem eqv_int (i j : Int) : PyData.eqv (.int i) (.int j) = decide (i = j) := by
  unfold PyData.eqv
  by_cases h : i = j
  · subst h; simp
  · simp [h]
theorem vr_eqI {i j : Int} (h : Φ (.dat (.bool (decide (i = j)))) S) : VR c ρ (rEqD c.K) (.dat (.int i)) (.dat (.int j)) S Φ := vr_eqD rfl rfl rfl rfl (by rw [eqv_int]; exact h)
theorem vr_neI {i j : Int} (h : Φ (.dat (.bool (!decide (i = j)))) S) : VR c ρ (rNeD c.K) (.dat (.int i)) (.dat (.int j)) S Φ := vr_neD rfl rfl rfl rfl (by rw [eqv_int]; exact h)
/-- x[i] -/
theorem vr_ix {x : Pv} {xs : List Pv} {i : Int} {y : Pv} (hs : Sq S x xs) (hi : atI xs i = some y) (h : Φ y S) : VR c ρ (rIx c.K) x (.dat (.int i)) S Φ := fun A B F H σ en er v u vx vy Q q => by
  cases vy with
  | dat b =>
    cases b
    cases e : ixN xs.length i with
    | none => unfold atI at hi; rw [e] at hi; cases hi
    | some k =>
      have hk : xs[k]? = some y := by unfold atI at hi; rw [e] at hi; exact hi
      rcases hs with hs | hs
      · obtain ⟨l, vs, rfl, hl, hv⟩ := hs.read en vx
        obtain ⟨w, hw, hd⟩ := hv.get' hk
        exact .inl ⟨l, vs, i, w, rfl, rfl, hl, by unfold atI; rw [hv.length, e]; exact hw, q.same en h hd⟩
      · obtain ⟨l, vs, rfl, hl, hv⟩ := hs.read vx
        obtain ⟨w, hw, hd⟩ := hv.get' hk
        exact .inr (.inl ⟨l, vs, i, w, rfl, rfl, hl H en.exB en.exF, by unfold atI; rw [hv.length, e]; exact hw, q.same en h hd⟩)
end
end Wt
namespace Wt
open PySem PySem.Spec PyProof.Rows L2 RZ
/-- what is wanted behind a statement -/
structure Po where
  n : Slots → Store → Prop
  r : Pv → Store → Prop
  b : Slots → Store → Prop := fun _ _ => False
  k : Slots → Store → Prop := fun _ _ => False
structure EndOK (c : Cn) (P : Po) (A B F : Hp) (D : Ends) : Prop where
  nx : ∀ ρ S F' H' σ, P.n ρ S → EnvOK c.K A B F' H' ρ S σ → Same F F' → D.nx σ H'
  rt : ∀ x v ρ S F' H' σ, P.r x S → EnvOK c.K A B F' H' ρ S σ → Same F F' → VOK c.K B F' x v → D.rt v H'
  bk : ∀ ρ S F' H' σ, P.b ρ S → EnvOK c.K A B F' H' ρ S σ → Same F F' → D.bk σ H'
  ct : ∀ ρ S F' H' σ, P.k ρ S → EnvOK c.K A B F' H' ρ S σ → Same F F' → D.ct σ H'
def VS (c : Cn) (ρ : Slots) (S : Store) (ts : TS) (P : Po) : Prop :=
  ∀ A B F H σ, EnvOK c.K A B F H ρ S σ → Er c B → ∀ D, EndOK c P A B F D → ts D σ H
/-- a target -/
def VG (c : Cn) (g : TG) (x : Pv) (ρ : Slots) (S : Store) (Φ : Slots → Store → Prop) : Prop :=
  ∀ A B F H σ v, EnvOK c.K A B F H ρ S σ → Er c B → VOK c.K B F x v → ∀ Q : L2.St → Hp → Prop, (∀ ρ' S' F' H' σ', Φ ρ' S' → EnvOK c.K A B F' H' ρ' S' σ' → Same F F' → Q σ' H') → g v σ H Q
def VGs (c : Cn) (g : TGs) (xs : List Pv) (ρ : Slots) (S : Store) (Φ : Slots → Store → Prop) : Prop :=
  ∀ A B F H σ vs, EnvOK c.K A B F H ρ S σ → Er c B → VsOK c.K B F xs vs → ∀ Q : L2.St → Hp → Prop, (∀ ρ' S' F' H' σ', Φ ρ' S' → EnvOK c.K A B F' H' ρ' S' σ' → Same F F' → Q σ' H') → g vs σ H Q
section
variable {c : Cn} {ρ : Slots} {S : Store} {Φ : Pv → Store → Prop} {ta tb te : TE} {tt tu : TT} {tas : TA} {P : Po} {t u : TS} {g : TG}
theorem EndOK.up {A B F F' : Hp} {D : Ends} (h : EndOK c P A B F D) (e : Same F F') : EndOK c P A B F' D :=
  ⟨fun ρ S F2 H' σ p en s => h.nx ρ S F2 H' σ p en (e.trans s), fun x v ρ S F2 H' σ p en s vx => h.rt x v ρ S F2 H' σ p en (e.trans s) vx,
    fun ρ S F2 H' σ p en s => h.bk ρ S F2 H' σ p en (e.trans s), fun ρ S F2 H' σ p en s => h.ct ρ S F2 H' σ p en (e.trans s)⟩
theorem vs_seq (h : VS c ρ S t { P with n := fun ρ1 S1 => VS c ρ1 S1 u P }) : VS c ρ S (tSeq t u) P := fun A B F H σ en er D d =>
  h A B F H σ en er _ ⟨fun ρ1 S1 F1 H1 σ1 p en1 s => p A B F1 H1 σ1 en1 er D (d.up s), d.rt, d.bk, d.ct⟩
/-- the ways are joined between two statements -/
theorem vs_cut (Mid : Slots → Store → Prop) (h : VS c ρ S t { P with n := Mid }) (h2 : ∀ ρ1 S1, Mid ρ1 S1 → VS c ρ1 S1 u P) : VS c ρ S (tSeq t u) P := fun A B F H σ en er D d =>
  h A B F H σ en er _ ⟨fun ρ1 S1 F1 H1 σ1 p en1 s => h2 ρ1 S1 p A B F1 H1 σ1 en1 er D (d.up s), d.rt, d.bk, d.ct⟩
theorem vs_next (h : P.n ρ S) : VS c ρ S tNext P := fun A B F H σ en er D d => d.nx ρ S F H σ h en (Same.refl F)
theorem vs_break (h : P.b ρ S) : VS c ρ S tBreak P := fun A B F H σ en er D d => d.bk ρ S F H σ h en (Same.refl F)
theorem vs_cont (h : P.k ρ S) : VS c ρ S tCont P := fun A B F H σ en er D d => d.ct ρ S F H σ h en (Same.refl F)
theorem vs_asg (h : VE c ρ S te fun x S1 => VG c g x ρ S1 P.n) : VS c ρ S (tAsg te g) P := fun A B F H σ en er D d => by
  refine h A B F H σ en er _ fun x v S1 F1 H1 h1 en1 f1 vx => ?_
  exact h1 A B F1 H1 σ v en1 er vx _ fun ρ' S' F' H' σ' p en' s => d.nx ρ' S' F' H' σ' p en' (f1.trans s)
theorem vs_set {i : Nat} (h : VE c ρ S te fun x S1 => P.n (ρ.set i (some x)) S1) : VS c ρ S (tAsg te (gName i)) P := fun A B F H σ en er D d => by
  refine h A B F H σ en er _ fun x v S1 F1 H1 h1 en1 f1 vx => ?_
  exact d.nx _ S1 F1 H1 _ h1 (en1.set vx) f1
theorem vg_name {i : Nat} {x : Pv} {Φ : Slots → Store → Prop} (h : Φ (ρ.set i (some x)) S) : VG c (gName i) x ρ S Φ := fun A B F H σ v en er vx Q q => q _ S F H _ h (en.set vx) (Same.refl F)
theorem vgs_nil {Φ : Slots → Store → Prop} (h : Φ ρ S) : VGs c gNil [] ρ S Φ := fun A B F H σ vs en er vx Q q => by
  cases vx
  exact ⟨rfl, q ρ S F H σ h en (Same.refl F)⟩
theorem vgs_cons {gs : TGs} {x : Pv} {xs : List Pv} {Φ : Slots → Store → Prop} (h : VG c g x ρ S fun ρ1 S1 => VGs c gs xs ρ1 S1 Φ) : VGs c (gCons g gs) (x :: xs) ρ S Φ := fun A B F H σ vs en er vx Q q => by
  cases vx with
  | cons v1 v2 =>
    refine ⟨_, _, rfl, ?_⟩
    refine h A B F H σ _ en er v1 _ fun ρ1 S1 F1 H1 σ1 p en1 s => ?_
    exact p A B F1 H1 σ1 _ en1 er (v2.up s) Q fun ρ2 S2 F2 H2 σ2 p2 en2 s2 => q ρ2 S2 F2 H2 σ2 p2 en2 (s.trans s2)
theorem vg_tup {n : Nat} {gs : TGs} {x : Pv} {xs : List Pv} {Φ : Slots → Store → Prop} (hx : Tu x xs) (hn : xs.length = n) (h : VGs c gs xs ρ S Φ) : VG c (gTup c.K n gs) x ρ S Φ := fun A B F H σ v en er vx Q q => by
  obtain ⟨l, vs, rfl, h1, h2⟩ := hx.read vx
  exact ⟨l, vs, rfl, h1 H en.exB en.exF, by rw [h2.length]; exact hn, h A B F H σ vs en er h2 Q q⟩
theorem vs_ret (h : VE c ρ S te P.r) : VS c ρ S (tRet te) P := fun A B F H σ en er D d => by
  refine h A B F H σ en er _ fun x v S1 F1 H1 h1 en1 f1 vx => ?_
  exact d.rt x v ρ S1 F1 H1 σ h1 en1 f1 vx
theorem vs_retN (h : P.r (.dat .none) S) : VS c ρ S tRetN P := fun A B F H σ en er D d => d.rt _ _ ρ S F H σ h en (Same.refl F) (.dat .non)
theorem vs_drop (h : VE c ρ S te fun _ S1 => P.n ρ S1) : VS c ρ S (tDrop te) P := fun A B F H σ en er D d => by
  refine h A B F H σ en er _ fun x v S1 F1 H1 h1 en1 f1 vx => ?_
  exact d.nx ρ S1 F1 H1 σ h1 en1 f1
theorem vs_if (h : VT c ρ S tt fun b S1 => (b = true → VS c ρ S1 t P) ∧ (b = false → VS c ρ S1 u P)) : VS c ρ S (tIfS tt t u) P := fun A B F H σ en er D d => by
  refine h A B F H σ en er _ fun b S1 F1 H1 h1 en1 f1 => ?_
  cases b with
  | true => exact h1.1 rfl A B F1 H1 σ en1 er D (d.up f1)
  | false => exact h1.2 rfl A B F1 H1 σ en1 er D (d.up f1)
theorem vs_aug {i : Nat} {f : Int → Int → Int} {a b : Int} (hx : ρ[i]? = some (some (.dat (.int a)))) (h : VE c ρ S te fun y S1 => ∃ b, y = .dat (.int b) ∧ P.n (ρ.set i (some (.dat (.int (f a b))))) S1) : VS c ρ S (tAug i te (ipI f)) P := fun A B F H σ en er D d => by
  obtain ⟨v, e, hv⟩ := en.get hx
  cases hv with
  | dat hv =>
    cases hv
    refine ⟨_, e, ?_⟩
    refine h A B F H σ en er _ fun y w S1 F1 H1 h1 en1 f1 vy => ?_
    obtain ⟨b, rfl, h1⟩ := h1
    cases vy with
    | dat hb =>
      cases hb
      exact ⟨a, b, rfl, rfl, d.nx _ S1 F1 H1 _ h1 (en1.set (.dat (.int _))) f1⟩
/-- a, b = x, y -/
theorem vs_par {i j : Nat} (h : VA c ρ S tas fun xs S1 => ∃ x y, xs = [x, y] ∧ P.n ((ρ.set i (some x)).set j (some y)) S1) : VS c ρ S (tPar i j tas) P := fun A B F H σ en er D d => by
  refine h A B F H σ en er _ fun xs vs S1 F1 H1 h1 en1 f1 vx => ?_
  obtain ⟨x, y, rfl, h1⟩ := h1
  cases vx with
  | cons v1 v2 => cases v2 with
    | cons v2 v3 =>
      cases v3
      exact ⟨_, _, rfl, d.nx _ S1 F1 H1 _ h1 ((en1.set v1).set v2) f1⟩
/-- xs.append(e), the list an own one -/
theorem vs_app (h : VE c ρ S ta fun x S1 => ∃ (k0 : Nat) (l : Addr) (zs : List Pv), x = ptr l ∧ S1[k0]? = some (l, .lst zs) ∧ VE c ρ S1 te fun y S2 => ∃ (k : Nat) (xs : List Pv), S2[k]? = some (l, .lst xs) ∧ nob y = true ∧ xs.length < 100000 ∧ P.n ρ (S2.set k (l, .lst (xs ++ [y])))) :
    VS c ρ S (tDrop (tBM c.K "list" rAppend ta (tCons te tNil))) P := fun A B F H σ en er D d => by
  refine h A B F H σ en er _ fun x v S1 F1 H1 h1 en1 f1 vx => ?_
  obtain ⟨k0, l, zs, rfl, hk0, h1⟩ := h1
  cases vx with
  | val =>
    obtain ⟨_, _, ws, w1, _⟩ := en1.st _ (List.mem_of_getElem? hk0)
    refine ⟨.inl ⟨rfl, ws, .inl (.inl w1)⟩, ?_⟩
    refine h1 A B F1 H1 σ en1 er _ fun y w S2 F2 H2 h2 en2 f2 vy => ?_
    obtain ⟨k, xs, hk, hn, hz, h2⟩ := h2
    obtain ⟨_, _, vs, e1, e2⟩ := en2.st _ (List.mem_of_getElem? hk)
    refine ⟨l, vs, w, rfl, rfl, e1, by rw [e2.length]; exact Nat.lt_of_lt_of_le hz (by decide), ?_⟩
    refine d.nx ρ _ F2 _ σ h2 (en2.put hk ⟨vs ++ [w], upd_same, ?_⟩) (f1.trans f2)
    exact e2.snoc (vy.nob hn)
/-- xs.clear() -/
theorem vs_clear (h : VE c ρ S ta fun x S1 => ∃ (k0 : Nat) (l : Addr) (zs : List Pv), x = ptr l ∧ S1[k0]? = some (l, .lst zs) ∧ P.n ρ (S1.set k0 (l, .lst []))) :
    VS c ρ S (tDrop (tBM0 c.K "list" rClear ta)) P := fun A B F H σ en er D d => by
  refine h A B F H σ en er _ fun x v S1 F1 H1 h1 en1 f1 vx => ?_
  obtain ⟨k0, l, zs, rfl, hk0, h1⟩ := h1
  cases vx with
  | val =>
    obtain ⟨_, _, ws, w1, _⟩ := en1.st _ (List.mem_of_getElem? hk0)
    refine ⟨.inl ⟨rfl, ws, .inl (.inl w1)⟩, l, ws, rfl, rfl, w1, ?_⟩
    exact d.nx ρ _ F1 _ σ h1 (en1.put hk0 ⟨[], upd_same, .nil⟩) f1

/-! ### what is walked -/
/-- what a turn gives: the item itself, or a new tuple of items -/
inductive Yl (K : PySem.W.Frag) (B F : Hp) (xs : List Pv) (i : Nat) (H : Hp) : V → Hp → Prop
  | at {x : Pv} {v : V} : xs[i]? = some x → VOK K B F x v → Yl K B F xs i H v H
  | new {T : Addr} {us : List V} {ys : List Pv} : H T = none → xs[i]? = some (tupP ys) → VsOK K B F ys us → Yl K B F xs i H (.ref T) (upd H T (.tup us))
  | key {q : Addr} {a b : Int} : H q = some (.tup [.int a, .int b]) → xs[i]? = some (.dat (.tuple [.int a, .int b])) → Yl K B F xs i H (.ref q) H
  | item {q T : Addr} {a b : Int} {y : Pv} {u : V} : H q = some (.tup [.int a, .int b]) → H T = none → xs[i]? = some (.tup [.dat (.tuple [.int a, .int b]), y]) → VOK K B F y u → Yl K B F xs i H (.ref T) (upd H T (.tup [.ref q, u]))
structure Wk (K : PySem.W.Frag) (B F : Hp) (J : It) (xs : List Pv) : Prop where
  ex : ∃ (G : Hp → Prop) (Y : Nat → Hp → V → Hp → Prop), Walk J xs.length G Y ∧ (∀ H, Same B H → Same F H → G H) ∧ ∀ i H v H', Same B H → Same F H → Y i H v H' → Yl K B F xs i H v H'
def VI (c : Cn) (ρ : Slots) (S : Store) (wi : TI) (Ψ : List Pv → Store → Prop) : Prop :=
  ∀ A B F H σ, EnvOK c.K A B F H ρ S σ → Er c B → ∀ R : It → Hp → Prop, (∀ J xs S1 F1 H1, Ψ xs S1 → EnvOK c.K A B F1 H1 ρ S1 σ → Same F F1 → Wk c.K B F1 J xs → R J H1) → wi σ H R
/-- a turn's item, laid beside what stands -/
theorem Yl.go {K : PySem.W.Frag} {A B B' F F1 H H' : Hp} {σ : L2.St} {xs : List Pv} {i : Nat} {v : V} (y : Yl K B F1 xs i H v H') (en : EnvOK K A B' F H ρ S σ) (b : Same B B') (f : Same F1 F) : ∃ x F', xs[i]? = some x ∧ EnvOK K A B' F' H' ρ S σ ∧ Same F F' ∧ VOK K B' F' x v := by
  cases y with
  | «at» e hv => exact ⟨_, F, e, en, Same.refl F, hv.mono b f⟩
  | new np e hv =>
    rename_i T us ys
    obtain ⟨en2, f2⟩ := en.frz (o := .tup us) np
    refine ⟨_, _, e, en2, f2, ?_⟩
    unfold tupP
    cases e : dats ys with
    | none => exact .tup upd_same (hv.mono b (f.trans f2))
    | some ds => exact .dat (.tup upd_same ((hv.dats e).up (f.trans f2)))
  | key hq e =>
    obtain ⟨en2, f2⟩ := en.frzT hq
    exact ⟨_, _, e, en2, f2, .dat (.tup upd_same (.cons (.int _) (.cons (.int _) .nil)))⟩
  | item hq np e hv =>
    rename_i q T a c y u
    obtain ⟨en2, f2⟩ := en.frzT hq
    obtain ⟨en3, f3⟩ := en2.frz (o := .tup [.ref q, u]) np
    exact ⟨_, _, e, en3, f2.trans f3, .tup upd_same (.cons (.dat (.tup (f3 _ _ upd_same) (.cons (.int _) (.cons (.int _) .nil)))) (.cons (hv.mono b (f.trans (f2.trans f3))) .nil))⟩
theorem vs_for {wi : TI} (h : VI c ρ S wi fun xs S1 => ∃ I : Nat → Slots → Store → Prop, I 0 ρ S1 ∧
      (∀ i x ρ1 S2, xs[i]? = some x → I i ρ1 S2 → VG c g x ρ1 S2 fun ρ2 S3 => VS c ρ2 S3 t { n := I (i + 1), r := P.r, b := P.n, k := I (i + 1) }) ∧ (∀ ρ1 S2, I xs.length ρ1 S2 → P.n ρ1 S2)) :
    VS c ρ S (tFor wi g t) P := fun A B F H σ en er D d => by
  refine h A B F H σ en er _ fun J xs S1 F1 H1 h1 en1 f1 wk => ?_
  obtain ⟨I, h0, hs, hd⟩ := h1
  obtain ⟨G, Y, w, hG, hY⟩ := wk.ex
  refine for_it w (fun i σ' H' => ∃ ρ' S' F', I i ρ' S' ∧ EnvOK c.K A B F' H' ρ' S' σ' ∧ Same F1 F') ⟨ρ, S1, F1, h0, en1, Same.refl F1⟩ (fun i σ' H' _ ⟨_, _, F', _, en', f'⟩ => hG H' en'.exB (f'.trans en'.exF)) ?_ ?_
  · rintro i v σ' H' H'' hi ⟨ρ', S', F', hI, en', f'⟩ y
    obtain ⟨x, F2, e, en2, f2, vx⟩ := (hY i H' v H'' en'.exB (f'.trans en'.exF) y).go en' (Same.refl B) f'
    refine hs i x ρ' S' e hI A B F2 H'' σ' v en2 er vx _ fun ρ3 S3 F3 H3 σ3 p en3 f3 => ?_
    refine p A B F3 H3 σ3 en3 er _ ⟨?_, ?_, ?_, ?_⟩
    · exact fun ρ4 S4 F4 H4 σ4 p4 en4 f4 => ⟨ρ4, S4, F4, p4, en4, (f'.trans f2).trans (f3.trans f4)⟩
    · exact fun x v ρ4 S4 F4 H4 σ4 p4 en4 f4 vx => d.rt x v ρ4 S4 F4 H4 σ4 p4 en4 (((f1.trans f').trans f2).trans (f3.trans f4)) vx
    · exact fun ρ4 S4 F4 H4 σ4 p4 en4 f4 => d.nx ρ4 S4 F4 H4 σ4 p4 en4 (((f1.trans f').trans f2).trans (f3.trans f4))
    · exact fun ρ4 S4 F4 H4 σ4 p4 en4 f4 => ⟨ρ4, S4, F4, p4, en4, (f'.trans f2).trans (f3.trans f4)⟩
  · rintro σ' H' ⟨ρ', S', F', hI, en', f'⟩
    exact d.nx ρ' S' F' H' σ' (hd ρ' S' hI) en' (f1.trans f')
theorem vs_while (I : Nat → Slots → Store → Prop) (m0 : Nat) (h0 : I m0 ρ S)
    (h : ∀ m ρ1 S1, I m ρ1 S1 → VT c ρ1 S1 tt fun b S2 => (b = true → VS c ρ1 S2 t { n := fun ρ2 S3 => ∃ m', m' < m ∧ I m' ρ2 S3, r := P.r, b := P.n, k := fun ρ2 S3 => ∃ m', m' < m ∧ I m' ρ2 S3 }) ∧ (b = false → P.n ρ1 S2)) :
    VS c ρ S (tWhile tt t) P := fun A B F H σ en er D d => by
  refine ⟨fun m σ' H' => ∃ ρ' S' F', I m ρ' S' ∧ EnvOK c.K A B F' H' ρ' S' σ' ∧ Same F F', ⟨m0, ρ, S, F, h0, en, Same.refl F⟩, ?_⟩
  rintro m σ' H' ⟨ρ', S', F', hI, en', f'⟩
  refine h m ρ' S' hI A B F' H' σ' en' er _ fun b S2 F2 H2 h2 en2 f2 => ?_
  cases b with
  | true =>
    rw [if_pos rfl]
    refine ⟨fun σ3 H3 => ∃ m', m' < m ∧ ∃ ρ3 S3 F3, I m' ρ3 S3 ∧ EnvOK c.K A B F3 H3 ρ3 S3 σ3 ∧ Same F F3, fun σ3 H3 ⟨m', l, z⟩ => ⟨m', l, z⟩, ?_⟩
    refine h2.1 rfl A B F2 H2 σ' en2 er _ ⟨?_, ?_, ?_, ?_⟩
    · exact fun ρ4 S4 F4 H4 σ4 ⟨m', l, p4⟩ en4 f4 => ⟨m', l, ρ4, S4, F4, p4, en4, (f'.trans f2).trans f4⟩
    · exact fun x v ρ4 S4 F4 H4 σ4 p4 en4 f4 vx => d.rt x v ρ4 S4 F4 H4 σ4 p4 en4 ((f'.trans f2).trans f4) vx
    · exact fun ρ4 S4 F4 H4 σ4 p4 en4 f4 => d.nx ρ4 S4 F4 H4 σ4 p4 en4 ((f'.trans f2).trans f4)
    · exact fun ρ4 S4 F4 H4 σ4 ⟨m', l, p4⟩ en4 f4 => ⟨m', l, ρ4, S4, F4, p4, en4, (f'.trans f2).trans f4⟩
  | false =>
    rw [if_neg Bool.false_ne_true]
    exact d.nx ρ' S2 F2 H2 σ' (h2.2 rfl) en2 (f'.trans f2)
/-! the sources -/
theorem vi_list {Ψ : List Pv → Store → Prop} (h : VE c ρ S te fun x S1 => ∃ xs, LsF x xs ∧ Ψ xs S1) : VI c ρ S (iList c.K te) Ψ := fun A B F H σ en er R q => by
  refine h A B F H σ en er _ fun x v S1 F1 H1 h1 en1 f1 vx => ?_
  obtain ⟨xs, hx, h1⟩ := h1
  obtain ⟨l, vs, rfl, hG, hv⟩ := hx.read vx
  refine ⟨l, rfl, ⟨vs, hG H1 en1.exB en1.exF⟩, q _ xs S1 F1 H1 h1 en1 f1 ⟨⟨_, _, by rw [← hv.length]; exact walk_list (K := c.K) (a := l) (xs := vs), fun H' b f => hG H' b f, ?_⟩⟩⟩
  rintro i H' v H'' b f ⟨rfl, e⟩
  obtain ⟨x, e2, h2⟩ := hv.get e
  exact .at e2 h2
theorem vi_tup {Ψ : List Pv → Store → Prop} (h : VE c ρ S te fun x S1 => ∃ xs, Tu x xs ∧ Ψ xs S1) : VI c ρ S (iTup c.K te) Ψ := fun A B F H σ en er R q => by
  refine h A B F H σ en er _ fun x v S1 F1 H1 h1 en1 f1 vx => ?_
  obtain ⟨xs, hx, h1⟩ := h1
  obtain ⟨l, vs, rfl, hl, hv⟩ := hx.read vx
  refine ⟨l, rfl, ⟨vs, hl H1 en1.exB en1.exF⟩, q _ xs S1 F1 H1 h1 en1 f1 ⟨⟨_, _, by rw [← hv.length]; exact walk_tup (K := c.K) (a := l) (xs := vs), fun H' b f => hl H' b f, ?_⟩⟩⟩
  rintro i H' v H'' b f ⟨rfl, e⟩
  obtain ⟨x, e2, h2⟩ := hv.get e
  exact .at e2 h2
/-- lo, lo + 1, .. : n of them -/
def rngP (lo : Int) (n : Nat) : List Pv := (List.range n).map fun (i : Nat) => .dat (.int (lo + (i : Int)))
theorem rngP_length (lo : Int) (n : Nat) : (rngP lo n).length = n := by simp [rngP]
theorem rngP_get {lo : Int} {n i : Nat} {x : Pv} (h : (rngP lo n)[i]? = some x) : i < n ∧ x = .dat (.int (lo + (i : Int))) := by
  unfold rngP at h
  rw [List.getElem?_map] at h
  by_cases hi : i < n
  · rw [List.getElem?_range hi] at h
    exact ⟨hi, (Option.some.inj h).symm⟩
  · rw [List.getElem?_eq_none (by simp; omega)] at h
    cases h
theorem rngP_at {lo : Int} {n i : Nat} (h : i < n) : (rngP lo n)[i]? = some (.dat (.int (lo + (i : Int)))) := by
  unfold rngP
  rw [List.getElem?_map, List.getElem?_range h]
  rfl
theorem wk_range {K : PySem.W.Frag} {B F : Hp} {lo : Int} {n : Nat} : Wk K B F (Itr lo n) (rngP lo n) :=
  ⟨⟨_, _, by rw [rngP_length]; exact ⟨fun _ _ hi _ => hi, fun _ _ => Nat.le_refl _, fun i H x H' hi _ y => (show i < n ∧ H' = H ∧ x = .int (lo + i) from ⟨hi, y.1, y.2⟩)⟩, fun _ _ _ => (True.intro : (fun _ => True) _), by
    rintro i H' v H'' b f ⟨hi, rfl, rfl⟩
    exact .at (rngP_at hi) (.dat (.int _))⟩⟩
theorem vi_range1 {Ψ : List Pv → Store → Prop} (h : VA c ρ S tas fun xs S1 => ∃ n : Int, xs = [.dat (.int n)] ∧ n < 1000000 ∧ -1000000 < n ∧ Ψ (rngP 0 n.toNat) S1) : VI c ρ S (iRng1 tas) Ψ := fun A B F H σ en er R q => by
  refine h A B F H σ en er _ fun x v S1 F1 H1 h1 en1 f1 vx => ?_
  obtain ⟨n, rfl, h2, h3, h1⟩ := h1
  cases vx with
  | cons v1 v2 =>
    cases v2
    cases v1 with
    | dat a =>
      cases a
      exact ⟨n, rfl, by omega, by omega, q _ _ S1 F1 H1 h1 en1 f1 wk_range⟩
theorem vi_range2 {Ψ : List Pv → Store → Prop} (h : VA c ρ S tas fun xs S1 => ∃ i j : Int, xs = [.dat (.int i), .dat (.int j)] ∧ i < 1000000 ∧ -1000000 < i ∧ j < 1000000 ∧ -1000000 < j ∧ Ψ (rngP i (j - i).toNat) S1) : VI c ρ S (iRng2 tas) Ψ := fun A B F H σ en er R q => by
  refine h A B F H σ en er _ fun x v S1 F1 H1 h1 en1 f1 vx => ?_
  obtain ⟨i, j, rfl, h2, h3, h4, h5, h1⟩ := h1
  cases vx with
  | cons v1 v2 =>
    cases v2 with
    | cons v2 v3 =>
      cases v3
      cases v1 with
      | dat a =>
        cases a
        cases v2 with
        | dat a =>
          cases a
          exact ⟨i, j, rfl, ⟨by omega, by omega, by omega, by omega⟩, q _ _ S1 F1 H1 h1 en1 f1 wk_range⟩
theorem walk_zipT {K : PySem.W.Frag} {a b : Addr} {xs ys : List V} {n : Nat} (hn : n = min xs.length ys.length) : Walk (ItzT K a b) n (fun H => SqT K H a xs ∧ SqT K H b ys) (YPair (fun i => xs[i]?) (fun i => ys[i]?)) := by
  subst hn
  refine ⟨fun i _ hi q => ?_, fun _ q => ⟨xs, ys, q.1, q.2, by omega⟩, fun i H v H' _ q y => ?_⟩
  · have h1 : i < xs.length := by omega
    have h2 : i < ys.length := by omega
    exact ⟨xs, ys, xs[i], ys[i], q.1, q.2, by simp [h1], by simp [h2]⟩
  · obtain ⟨T, x, z, h1, h2, h3, h4, h5⟩ := y
    exact ⟨T, x, z, h1, h2, h3, h4 xs q.1, h5 ys q.2⟩
/-- zip: two lists or two tuples -/
def zipP : List Pv → List Pv → List Pv
  | x :: xs, y :: ys => tupP [x, y] :: zipP xs ys
  | _, _ => []
theorem zipP_length : ∀ (xs ys : List Pv), (zipP xs ys).length = min xs.length ys.length
  | [], _ => by simp [zipP]
  | _ :: _, [] => by simp [zipP]
  | _ :: xs, _ :: ys => by
    show (zipP xs ys).length + 1 = _
    rw [zipP_length xs ys, List.length_cons, List.length_cons]
    omega
theorem zipP_at : ∀ {xs ys : List Pv} {i : Nat} {x y : Pv}, xs[i]? = some x → ys[i]? = some y → (zipP xs ys)[i]? = some (tupP [x, y])
  | [], _, _, _, _, h, _ => by simp at h
  | _ :: _, [], _, _, _, _, h => by simp at h
  | _ :: _, _ :: _, 0, x, y, h, h2 => by
    have e1 := Option.some.inj h
    have e2 := Option.some.inj h2
    subst e1
    subst e2
    rfl
  | _ :: xs, _ :: ys, i + 1, x, y, h, h2 => zipP_at (xs := xs) (ys := ys) (i := i) h h2
theorem vi_zip {Ψ : List Pv → Store → Prop} (h : VA c ρ S tas fun zs S1 => ∃ x y xs ys, zs = [x, y] ∧ ((LsF x xs ∧ LsF y ys) ∨ (Tu x xs ∧ Tu y ys)) ∧ Ψ (zipP xs ys) S1) : VI c ρ S (iZipA c.K tas) Ψ := fun A B F H σ en er R q => by
  refine h A B F H σ en er _ fun zs v S1 F1 H1 h1 en1 f1 vx => ?_
  obtain ⟨x, y, xs, ys, rfl, hh, h1⟩ := h1
  cases vx with
  | cons v1 v2 =>
    cases v2 with
    | cons v2 v3 =>
      cases v3
      rcases hh with ⟨hx, hy⟩ | ⟨hx, hy⟩
      · obtain ⟨l, vs, rfl, hG, hv⟩ := hx.read v1
        obtain ⟨m, ws, rfl, hK, hw⟩ := hy.read v2
        refine ⟨l, m, vs, ws, rfl, .inl ⟨hG H1 en1.exB en1.exF, hK H1 en1.exB en1.exF, q _ _ S1 F1 H1 h1 en1 f1 ⟨⟨_, _, walk_zip (K := c.K) (a := l) (b := m) (xs := vs) (ys := ws) (by rw [zipP_length, hv.length, hw.length]), fun H' b f => ⟨hG H' b f, hK H' b f⟩, ?_⟩⟩⟩⟩
        rintro i H' v H'' b f ⟨T, a1, a2, rfl, np, rfl, e1, e2⟩
        obtain ⟨x1, e3, h3⟩ := hv.get e1
        obtain ⟨x2, e4, h4⟩ := hw.get e2
        exact .new np (zipP_at e3 e4) (.cons h3 (.cons h4 .nil))
      · obtain ⟨l, vs, rfl, hG, hv⟩ := hx.read v1
        obtain ⟨m, ws, rfl, hK, hw⟩ := hy.read v2
        refine ⟨l, m, vs, ws, rfl, .inr ⟨hG H1 en1.exB en1.exF, hK H1 en1.exB en1.exF, q _ _ S1 F1 H1 h1 en1 f1 ⟨⟨_, _, walk_zipT (K := c.K) (a := l) (b := m) (xs := vs) (ys := ws) (by rw [zipP_length, hv.length, hw.length]), fun H' b f => ⟨hG H' b f, hK H' b f⟩, ?_⟩⟩⟩⟩
        rintro i H' v H'' b f ⟨T, a1, a2, rfl, np, rfl, e1, e2⟩
        obtain ⟨x1, e3, h3⟩ := hv.get e1
        obtain ⟨x2, e4, h4⟩ := hw.get e2
        exact .new np (zipP_at e3 e4) (.cons h3 (.cons h4 .nil))
end
end Wt
namespace Wt
open PySem PySem.Spec PyProof.Rows L2 RZ
section
variable {K : PySem.W.Frag} {A H H' F F' B B' : Hp} {ρ : Slots} {S S' : Store} {σ : L2.St}
/-- entries of the store forgotten -/
theorem EnvOK.sub (en : EnvOK K A B F H ρ S σ) (h : S'.Sublist S) : EnvOK K A B F H ρ S' σ :=
  ⟨en.exB, en.exF, en.af, en.fr, en.sl, fun p hp => en.st p (h.subset hp), (h.map (·.1)).nodup en.nd, en.fk⟩
/-- .. or told in another order -/
def Wks (S S' : Store) : Prop := (S.map (·.1)).Nodup → (∀ p ∈ S', p ∈ S) ∧ (S'.map (·.1)).Nodup
theorem Wks.refl (S : Store) : Wks S S := fun n => ⟨fun _ h => h, n⟩
theorem Wks.sub (h : S'.Sublist S) : Wks S S' := fun n => ⟨fun _ z => h.subset z, (h.map (·.1)).nodup n⟩
theorem Wks.perm (h : S'.Perm S) : Wks S S' := fun n => ⟨fun _ z => h.subset z, (h.map (·.1)).nodup_iff.mpr n⟩
theorem Wks.trans {S'' : Store} (a : Wks S S') (b : Wks S' S'') : Wks S S'' := fun n => ⟨fun p h => (a n).1 p ((b (a n).2).1 p h), (b (a n).2).2⟩
theorem EnvOK.wks (en : EnvOK K A B F H ρ S σ) (h : Wks S S') : EnvOK K A B F H ρ S' σ :=
  ⟨en.exB, en.exF, en.af, en.fr, en.sl, fun p hp => en.st p ((h en.nd).1 p hp), (h en.nd).2, en.fk⟩
/-- an own list of frozen data is frozen -/
theorem EnvOK.freeze (en : EnvOK K A B F H ρ S σ) {k : Nat} {l : Addr} {xs : List Pv} {ds : List D} (hk : S[k]? = some (l, .lst xs)) (hd : dats xs = some ds) :
    ∃ F', EnvOK K A B F' H ρ (S.eraseIdx k) σ ∧ Same F F' ∧ Dv K F' (.ref l) (.list ds) := by
  obtain ⟨nB, nF, vs, hl, hv⟩ := en.st _ (List.mem_of_getElem? hk)
  have sF : Same F (upd F l (.lst vs)) := same_new nF
  refine ⟨upd F l (.lst vs), ⟨en.exB, fun a x e => ?_, en.af.trans sF, fun a x e => ?_, paired_mono (fun _ _ h => h.mono (Same.refl B) sF) en.sl, fun q hq => ?_, ?_, en.fk.upd (fun _ z => nomatch z)⟩, sF, .lst upd_same ((hv.dats hd).up sF)⟩
  · by_cases h : a = l
    · subst h
      rw [upd_same] at e
      rw [hl]
      exact e
    · rw [upd_ne h] at e
      exact en.exF _ _ e
  · by_cases h : a = l
    · subst h
      exact .inr (.inl nB)
    · rw [upd_ne h] at e
      exact en.fr _ _ e
  · obtain ⟨h1, h2, h3⟩ := en.st q (List.mem_of_mem_eraseIdx hq)
    have hne : q.1 ≠ l := fun z => by
      obtain ⟨j, hjk, hj⟩ := List.mem_eraseIdx_iff_getElem?.mp hq
      exact hjk (nodup_idx en.nd (show S[j]? = some (l, q.2) by rw [hj, ← z]) hk)
    exact ⟨h1, by rw [upd_ne hne]; exact h2, h3.mono sF rfl⟩
  · exact ((List.eraseIdx_sublist S k).map (·.1)).nodup en.nd
end
section
variable {c : Cn} {ρ : Slots} {S : Store} {Φ : Pv → Store → Prop} {ta tb te : TE} {tt tu : TT} {tas : TA} {P : Po} {t u : TS} {g : TG}
theorem vs_freeze (k i : Nat) {l : Addr} {xs : List Pv} {ds : List D} (hk : S[k]? = some (l, .lst xs)) (hi : ρ[i]? = some (some (ptr l))) (hd : dats xs = some ds)
    (h : VS c (ρ.set i (some (.dat (.list ds)))) (S.eraseIdx k) t P) : VS c ρ S t P := fun A B F H σ en er D d => by
  obtain ⟨F', en', f', dv⟩ := en.freeze hk hd
  obtain ⟨v, e, hv⟩ := en.get hi
  cases hv
  have hlt : i < σ.length := (List.getElem?_eq_some_iff.mp e).1
  have es : σ.set i (some (.ref l)) = σ := by
    apply List.ext_getElem?
    intro j
    by_cases hj : i = j
    · subst hj
      rw [List.getElem?_set_self hlt, e]
    · rw [List.getElem?_set_ne hj]
  have en2 := en'.set (i := i) (.dat dv)
  rw [es] at en2
  exact h A B F' H σ en2 er D (d.up f')
/-- the same behind an expression that gives an own list -/
theorem ve_freeze (h : VE c ρ S te fun x S1 => ∃ (k : Nat) (l : Addr) (xs : List Pv) (ds : List D), x = ptr l ∧ S1[k]? = some (l, .lst xs) ∧ dats xs = some ds ∧ Φ (.dat (.list ds)) (S1.eraseIdx k)) : VE c ρ S te Φ := fun A B F H σ en er Q q => by
  refine h A B F H σ en er _ fun x v S1 F1 H1 h1 en1 f1 vx => ?_
  obtain ⟨k, l, xs, ds, rfl, hk, hd, h1⟩ := h1
  obtain ⟨F', en', f', dv⟩ := en1.freeze hk hd
  cases vx
  exact q _ _ _ F' H1 h1 en' (f1.trans f') (.dat dv)
theorem ve_mono {Φ' : Pv → Store → Prop} (h : VE c ρ S te Φ) (hm : ∀ x S, Φ x S → Φ' x S) : VE c ρ S te Φ' := fun A B F H σ en er Q q => h A B F H σ en er Q fun x v S1 F1 H1 h1 en1 f1 vx => q x v S1 F1 H1 (hm x S1 h1) en1 f1 vx
theorem vs_mono {P' : Po} (h : VS c ρ S t P) (hn : ∀ ρ S, P.n ρ S → P'.n ρ S) (hr : ∀ x S, P.r x S → P'.r x S) (hb : ∀ ρ S, P.b ρ S → P'.b ρ S) (hk : ∀ ρ S, P.k ρ S → P'.k ρ S) : VS c ρ S t P' := fun A B F H σ en er D d =>
  h A B F H σ en er D ⟨fun ρ S F' H' σ p => d.nx ρ S F' H' σ (hn _ _ p), fun x v ρ S F' H' σ p => d.rt x v ρ S F' H' σ (hr _ _ p), fun ρ S F' H' σ p => d.bk ρ S F' H' σ (hb _ _ p), fun ρ S F' H' σ p => d.ct ρ S F' H' σ (hk _ _ p)⟩
/-- the store told otherwise behind a statement -/
theorem vs_wk (h : VS c ρ S t { n := fun ρ1 S1 => ∃ S2, Wks S1 S2 ∧ P.n ρ1 S2, r := P.r, b := fun ρ1 S1 => ∃ S2, Wks S1 S2 ∧ P.b ρ1 S2, k := fun ρ1 S1 => ∃ S2, Wks S1 S2 ∧ P.k ρ1 S2 }) : VS c ρ S t P := fun A B F H σ en er D d =>
  h A B F H σ en er D ⟨fun ρ S F' H' σ ⟨S2, w, p⟩ en f => d.nx ρ S2 F' H' σ p (en.wks w) f, fun x v ρ S F' H' σ p => d.rt x v ρ S F' H' σ p,
    fun ρ S F' H' σ ⟨S2, w, p⟩ en f => d.bk ρ S2 F' H' σ p (en.wks w) f, fun ρ S F' H' σ ⟨S2, w, p⟩ en f => d.ct ρ S2 F' H' σ p (en.wks w) f⟩
/-- .. ahead of one -/
theorem vs_pre {S' : Store} (w : Wks S S') (h : VS c ρ S' t P) : VS c ρ S t P := fun A B F H σ en er D d => h A B F H σ (en.wks w) er D d
theorem ve_wk (h : VE c ρ S te fun x S1 => ∃ S2, Wks S1 S2 ∧ Φ x S2) : VE c ρ S te Φ := fun A B F H σ en er Q q => h A B F H σ en er Q fun x v S1 F1 H1 ⟨S2, w, p⟩ en1 f1 vx => q x v S2 F1 H1 p (en1.wks w) f1 vx
/-- the store's objects are apart -/
theorem vs_nd (h : (S.map (·.1)).Nodup → VS c ρ S t P) : VS c ρ S t P := fun A B F H σ en er D d => h en.nd A B F H σ en er D d
theorem ve_nd (h : (S.map (·.1)).Nodup → VE c ρ S te Φ) : VE c ρ S te Φ := fun A B F H σ en er Q q => h en.nd A B F H σ en er Q q
/-- a slot forgotten -/
theorem vs_forget (i : Nat) (h : VS c (ρ.set i none) S t P) : VS c ρ S t P := fun A B F H σ en er D d => by
  have e : σ = σ.set i (σ.getD i none) := by
    apply List.ext_getElem?
    intro j
    by_cases hj : i = j
    · subst hj
      by_cases hl : i < σ.length
      · rw [List.getElem?_set_self hl, List.getD_eq_getElem?_getD, List.getElem?_eq_getElem hl]
        rfl
      · rw [List.getElem?_eq_none (by omega), List.getElem?_eq_none (by rw [List.length_set]; omega)]
    · rw [List.getElem?_set_ne hj]
  have en2 := en.unset (i := i) (o := σ.getD i none)
  rw [← e] at en2
  exact h A B F H σ en2 er D d
/-- a way that cannot be -/
theorem vs_absurd (h : False) : VS c ρ S t P := h.elim

/-! ### comprehensions -/
def wipeS (ρ : Slots) : List Nat → Slots
  | [] => ρ
  | v :: vs => (wipeS ρ vs).set v none
theorem EnvOK.wipe {K : PySem.W.Frag} {A H F B : Hp} {σ : L2.St} (en : EnvOK K A B F H ρ S σ) : ∀ vs : List Nat, EnvOK K A B F H (wipeS ρ vs) S (L2.wipe σ vs)
  | [] => en
  | v :: vs => (EnvOK.wipe en vs).unset
theorem wipe_in {σ : L2.St} {i : Nat} : ∀ {vs : List Nat}, i ∈ vs → (L2.wipe σ vs)[i]? = if i < σ.length then some none else none
  | [], h => by simp at h
  | v :: vs, h => by
    unfold L2.wipe
    by_cases e : v = i
    · subst e
      by_cases hl : v < σ.length
      · rw [List.getElem?_set_self (by rw [wipe_length]; exact hl), if_pos hl]
      · rw [if_neg hl, List.getElem?_eq_none (by rw [List.length_set, wipe_length]; omega)]
    · rw [List.getElem?_set_ne e]
      have h2 : i ∈ vs := by
        rcases List.mem_cons.mp h with q | q
        · exact absurd q.symm e
        · exact q
      exact wipe_in h2
theorem wipe_ext {σ τ : L2.St} {vs : List Nat} (hl : σ.length = τ.length) (h : ∀ i, i ∉ vs → σ[i]? = τ[i]?) : L2.wipe σ vs = L2.wipe τ vs := by
  apply List.ext_getElem?
  intro i
  by_cases hi : i ∈ vs
  · rw [wipe_in hi, wipe_in hi, hl]
  · rw [wipe_out hi, wipe_out hi, h i hi]
theorem wipe_set {σ : L2.St} {vs : List Nat} {j : Nat} {o : Option V} (hj : j ∈ vs) : L2.wipe ((L2.wipe σ vs).set j o) vs = L2.wipe σ vs := by
  apply wipe_ext
  · rw [List.length_set, wipe_length]
  · intro i hi
    have hne : j ≠ i := fun e => hi (e ▸ hj)
    rw [List.getElem?_set_ne hne, wipe_out hi]
theorem wipe_set2 {σ : L2.St} {vs : List Nat} {j k : Nat} {o p : Option V} (hj : j ∈ vs) (hk : k ∈ vs) : L2.wipe (((L2.wipe σ vs).set j o).set k p) vs = L2.wipe σ vs := by
  apply wipe_ext
  · rw [List.length_set, List.length_set, wipe_length]
  · intro i hi
    have hne : j ≠ i := fun e => hi (e ▸ hj)
    have hne2 : k ≠ i := fun e => hi (e ▸ hk)
    rw [List.getElem?_set_ne hne2, List.getElem?_set_ne hne, wipe_out hi]
/-- a target whose names are the comprehension's own: what it leaves, seen with these forgotten, is as ahead -/
structure OwnG (K : PySem.W.Frag) (g : TG) (vs : List Nat) : Prop where
  run : ∀ (σ : L2.St) (H : Hp) (x : V) (Q : L2.St → Hp → Prop), g x (L2.wipe σ vs) H Q → g x (L2.wipe σ vs) H fun σ2 H2 => L2.wipe σ2 vs = L2.wipe σ vs ∧ Q σ2 H2
theorem own_name {K : PySem.W.Frag} {j : Nat} {vs : List Nat} (hj : j ∈ vs) : OwnG K (gName j) vs := ⟨fun σ H x Q q => ⟨wipe_set hj, q⟩⟩
theorem own_pair {K : PySem.W.Frag} {j k : Nat} {vs : List Nat} (hj : j ∈ vs) (hk : k ∈ vs) : OwnG K (gTup K 2 (gCons (gName j) (gCons (gName k) gNil))) vs := ⟨fun σ H x Q q => by
  obtain ⟨a, xs, h1, h2, h3, v, r, h4, v2, r2, h5, h6, h7⟩ := q
  exact ⟨a, xs, h1, h2, h3, v, r, h4, v2, r2, h5, h6, wipe_set2 hj hk, h7⟩⟩
/-- the store may grow by what is made -/
theorem ve_lcI {wi : TI} {vs : List Nat} (hg : OwnG c.K g vs) (h : VI c ρ S wi fun xs S1 => ∃ I : Nat → List Pv → Store → Prop, I 0 [] S1 ∧
      (∀ (i : Nat) (x : Pv) (acc : List Pv) (S2 : Store), xs[i]? = some x → I i acc S2 → VG c g x (wipeS ρ vs) S2 fun ρ2 S3 => VT c ρ2 S3 tt fun b S4 =>
        (b = true → VE c ρ2 S4 te fun y S5 => nob y = true ∧ acc.length < 100000 ∧ I (i + 1) (acc ++ [y]) S5) ∧ (b = false → I (i + 1) acc S4)) ∧ ∀ p acc S2, I xs.length acc S2 → Φ (ptr p) ((p, .lst acc) :: S2)) :
    VE c ρ S (tLc wi g tt te vs) Φ := fun A B F H σ en er Q q => by
  refine h A B F H σ en er _ fun J xs S1 F1 H1 h1 en1 f1 wk => ?_
  obtain ⟨I, a0, turn, hd⟩ := h1
  obtain ⟨G, Y, w, hG, hY⟩ := wk.ex
  intro D nD
  have nB : B D = none := en1.exB.free nD
  have nF : F1 D = none := en1.exF.free nD
  have st1 : ∀ p ∈ S1, p.1 ≠ D := fun p hp => by
    obtain ⟨_, _, h3⟩ := en1.st p hp
    obtain ⟨o, ho⟩ := h3.some
    exact ne_of_none ho nD
  refine lc_it w (fun i H' => ∃ F' vs' acc S2, I i acc S2 ∧ EnvOK c.K A B F' H' ρ S2 σ ∧ Same F1 F' ∧ F' D = none ∧ H' D = some (.lst vs') ∧ VsOK c.K hp0 F' acc vs' ∧ ∀ p ∈ S2, p.1 ≠ D) ?_ (fun i H' _ ⟨F', _, _, _, _, en', f', _⟩ => hG H' en'.exB (f'.trans en'.exF)) ?_ ?_
  · have en2 := en1.own (o := .lst []) (c := .lst []) nD ⟨[], upd_same, .nil⟩
    exact ⟨F1, [], [], S1, a0, en2.sub (List.sublist_cons_self _ _), Same.refl F1, nF, upd_same, .nil, st1⟩
  · rintro i v H' H'' hi ⟨F', vs', acc, S2, hI, en', f', nF', hD, hvs, st2⟩ y
    -- what is made so far stands with the caller's
    have b2 : Same B (upd B D (.lst vs')) := same_new nB
    have en2 : EnvOK c.K A (upd B D (.lst vs')) F' H' ρ S2 σ := by
      refine ⟨fun a o e => ?_, en'.exF, en'.af, fun a o e => ?_, paired_mono (fun _ _ h => h.mono b2 (Same.refl F')) en'.sl, fun p hp => ?_, en'.nd, en'.fk⟩
      · by_cases z : a = D
        · subst z; rw [upd_same] at e; rw [hD]; exact e
        · rw [upd_ne z] at e; exact en'.exB _ _ e
      · have z : a ≠ D := ne_of_none e nF'
        rw [upd_ne z]
        exact en'.fr _ _ e
      · obtain ⟨z1, z2, z3⟩ := en'.st p hp
        exact ⟨by rw [upd_ne (st2 p hp)]; exact z1, z2, z3⟩
    have er2 : Er c (upd B D (.lst vs')) := fun C Hx hx s => er C Hx hx (b2.trans s)
    obtain ⟨x, F2, e, en3, f2, vx⟩ := (hY i H' v H'' en'.exB (f'.trans en'.exF) y).go en2 b2 f'
    refine hg.run σ H'' v _ ?_
    refine turn i x acc S2 e hI A (upd B D (.lst vs')) F2 H'' _ v (en3.wipe vs) er2 vx _ fun ρ4 S4 F4 H4 σ4 p4 en4 f4 => ?_
    refine p4 A _ F4 H4 σ4 en4 er2 _ fun b S5 F5 H5 p5 en5 f5 => ?_
    obtain ⟨pt, pf⟩ := p5
    have back : ∀ {F6 H6 S6 σ6 ρ6}, EnvOK c.K A (upd B D (.lst vs')) F6 H6 ρ6 S6 σ6 → F6 D = none ∧ H6 D = some (.lst vs') := fun {F6 H6 S6 σ6 ρ6} en6 => by
      have hD6 := en6.exB _ _ (upd_same (H := B) (a := D) (o := .lst vs'))
      refine ⟨?_, hD6⟩
      cases z : F6 D with
      | none => rfl
      | some o =>
        rcases en6.fr _ _ z with z1 | z1 | ⟨zs, z1⟩
        · rw [en'.af _ _ z1] at nF'; cases nF'
        · rw [upd_same] at z1; cases z1
        · have z2 := en6.exF _ _ z
          rw [hD6, z1] at z2
          cases z2
    have frB : ∀ {F6 H6 S6 σ6 ρ6}, EnvOK c.K A (upd B D (.lst vs')) F6 H6 ρ6 S6 σ6 → ∀ a o, F6 a = some o → A a = some o ∨ B a = none ∨ IsTp o := fun {F6 H6 S6 σ6 ρ6} en6 a o e => by
      rcases en6.fr _ _ e with q1 | q1 | q1
      · exact .inl q1
      · have z : a ≠ D := ne_of_none e (back en6).1
        rw [upd_ne z] at q1
        exact .inr (.inl q1)
      · exact .inr (.inr q1)
    have stB : ∀ {F6 H6 S6 σ6 ρ6}, EnvOK c.K A (upd B D (.lst vs')) F6 H6 ρ6 S6 σ6 → ∀ p ∈ S6, p.1 ≠ D ∧ B p.1 = none := fun {F6 H6 S6 σ6 ρ6} en6 p hp => by
      obtain ⟨q1, q2, q3⟩ := en6.st p hp
      have ne : p.1 ≠ D := fun z => by rw [z, upd_same] at q1; cases q1
      rw [upd_ne ne] at q1
      exact ⟨ne, q1⟩
    cases b with
    | true =>
      rw [if_pos rfl]
      refine pt rfl A _ F5 H5 σ4 en5 er2 _ fun yv w S6 F6 H6 p6 en6 f6 vy => ?_
      obtain ⟨hn, hl, ha⟩ := p6
      obtain ⟨z1, z2⟩ := back en6
      have f06 : Same F' F6 := f2.trans ((f4.trans f5).trans f6)
      refine ⟨vs', z2, by rw [hvs.length]; exact Nat.lt_of_lt_of_le hl (by decide), F6, vs' ++ [w], _, _, ha, ?_, f'.trans f06, z1, upd_same, (hvs.up f06).snoc (vy.nob hn), fun p hp => (stB en6 p hp).1⟩
      refine ⟨fun a o e => ?_, fun a o e => ?_, en6.af, frB en6, paired_mono (fun _ _ h => h.mono (Same.refl B) f06) en'.sl, fun p hp => ?_, en6.nd, en6.fk⟩
      · rw [upd_ne (ne_of_none e nB)]
        exact en6.exB _ _ (b2 _ _ e)
      · rw [upd_ne (ne_of_none e z1)]
        exact en6.exF _ _ e
      · obtain ⟨q1, q2, q3⟩ := en6.st p hp
        obtain ⟨n1, n2⟩ := stB en6 p hp
        exact ⟨n2, q2, q3.mono (Same.refl _) (upd_ne n1)⟩
    | false =>
      rw [if_neg Bool.false_ne_true]
      obtain ⟨z1, z2⟩ := back en5
      have f05 : Same F' F5 := f2.trans (f4.trans f5)
      refine ⟨F5, vs', _, _, pf rfl, ?_, f'.trans f05, z1, z2, hvs.up f05, fun p hp => (stB en5 p hp).1⟩
      refine ⟨fun a o e => en5.exB _ _ (b2 _ _ e), en5.exF, en5.af, frB en5, paired_mono (fun _ _ h => h.mono (Same.refl B) f05) en'.sl, fun p hp => ?_, en5.nd, en5.fk⟩
      obtain ⟨q1, q2, q3⟩ := en5.st p hp
      exact ⟨(stB en5 p hp).2, q2, q3⟩
  · rintro H' ⟨F', vs', acc, S2, hI, en', f', nF', hD, hvs, st2⟩
    refine q _ _ _ F' H' (hd D acc S2 hI) ?_ (f1.trans f') .val
    refine ⟨en'.exB, en'.exF, en'.af, en'.fr, en'.sl, fun p hp => ?_, ?_, en'.fk⟩
    · rcases List.mem_cons.mp hp with z | hp
      · subst z
        exact ⟨nB, nF', vs', hD, hvs⟩
      · exact en'.st p hp
    · rw [List.map_cons, List.nodup_cons]
      refine ⟨fun hm => ?_, en'.nd⟩
      obtain ⟨p, hp, z⟩ := List.mem_map.mp hm
      exact st2 p hp z
theorem vt_mono {ΦB ΦB' : Bool → Store → Prop} (h : VT c ρ S tt ΦB) (hm : ∀ b S, ΦB b S → ΦB' b S) : VT c ρ S tt ΦB' := fun A B F H σ en er Q q => h A B F H σ en er Q fun b S1 F1 H1 h1 en1 f1 => q b S1 F1 H1 (hm b S1 h1) en1 f1
theorem vg_mono {x : Pv} {Φ Φ' : Slots → Store → Prop} (h : VG c g x ρ S Φ) (hm : ∀ ρ S, Φ ρ S → Φ' ρ S) : VG c g x ρ S Φ' := fun A B F H σ v en er vx Q q => h A B F H σ v en er vx Q fun ρ1 S1 F1 H1 σ1 h1 en1 f1 => q ρ1 S1 F1 H1 σ1 (hm ρ1 S1 h1) en1 f1
theorem ve_lc {wi : TI} {vs : List Nat} (hg : OwnG c.K g vs) (h : VI c ρ S wi fun xs S1 => ∃ acc : Nat → List Pv, acc 0 = [] ∧
      (∀ (i : Nat) (x : Pv), xs[i]? = some x → VG c g x (wipeS ρ vs) S1 fun ρ2 S2 => S2 = S1 ∧ VT c ρ2 S1 tt fun b S3 => S3 = S1 ∧
        (b = true → VE c ρ2 S1 te fun y S4 => S4 = S1 ∧ nob y = true ∧ (acc i).length < 100000 ∧ acc (i + 1) = acc i ++ [y]) ∧ (b = false → acc (i + 1) = acc i)) ∧ ∀ p, Φ (ptr p) ((p, .lst (acc xs.length)) :: S1)) :
    VE c ρ S (tLc wi g tt te vs) Φ := ve_lcI hg fun A B F H σ en er R q => by
  refine h A B F H σ en er R fun J xs S1 F1 H1 h1 en1 f1 wk => q J xs S1 F1 H1 ?_ en1 f1 wk
  obtain ⟨acc, a0, turn, hd⟩ := h1
  refine ⟨fun i a S => a = acc i ∧ S = S1, ⟨a0.symm, rfl⟩, ?_, ?_⟩
  · rintro i x a S2 e ⟨rfl, rfl⟩
    refine vg_mono (turn i x e) ?_
    rintro ρ2 S3 ⟨rfl, h⟩
    refine vt_mono h ?_
    rintro b S4 ⟨rfl, ht, hf⟩
    refine ⟨fun hb => ve_mono (ht hb) ?_, fun hb => ⟨(hf hb).symm, rfl⟩⟩
    rintro y S5 ⟨rfl, h1, h2, h3⟩
    exact ⟨h1, h2, h3.symm, rfl⟩
  · rintro p a S2 ⟨rfl, rfl⟩
    exact hd p
theorem vt_yes {ΦB : Bool → Store → Prop} (h : ΦB true S) : VT c ρ S tYes ΦB := fun A B F H σ en er Q q => q true S F H h en (Same.refl F)
/-- one for one: ys what it makes -/
theorem ve_lcm {wi : TI} {j : Nat} {vs : List Nat} (hj : j ∈ vs) (h : VI c ρ S wi fun xs S1 => ∃ ys : List Pv, ys.length = xs.length ∧ ys.length < 100000 ∧
      (∀ (i : Nat) (x : Pv), xs[i]? = some x → VE c ((wipeS ρ vs).set j (some x)) S1 te fun y S4 => S4 = S1 ∧ nob y = true ∧ ys[i]? = some y) ∧ ∀ p, Φ (ptr p) ((p, .lst ys) :: S1)) :
    VE c ρ S (tLc wi (gName j) tYes te vs) Φ := ve_lc (own_name hj) fun A B F H σ en er R q => by
  refine h A B F H σ en er R fun J xs S1 F1 H1 h1 en1 f1 wk => q J xs S1 F1 H1 ?_ en1 f1 wk
  obtain ⟨ys, hl, hz, turn, hd⟩ := h1
  refine ⟨fun i => ys.take i, rfl, fun i x e => vg_name ⟨rfl, vt_yes ⟨rfl, fun _ => ?_, fun z => by cases z⟩⟩, fun p => ?_⟩
  · refine ve_mono (turn i x e) fun y S4 ⟨h1, h2, h3⟩ => ⟨h1, h2, ?_, ?_⟩
    · rw [List.length_take]
      omega
    · show ys.take (i + 1) = ys.take i ++ [y]
      rw [List.take_add_one, h3]
      rfl
  · have e : ys.take xs.length = ys := List.take_of_length_le (by omega)
    show Φ (ptr p) ((p, .lst (ys.take xs.length)) :: S1)
    rw [e]
    exact hd p
end

/-! ### what is seen as data -/
mutual
inductive Da (S : Store) : Pv → D → Prop
  | dat {d : D} : Da S (.dat d) d
  | rd {d : D} : Da S (.rd d) d
  | bor {xs : List Pv} {ds : List D} : Das S xs ds → Da S (.bor xs) (.list ds)
  | own {l : Addr} {xs : List Pv} {ds : List D} : (l, Cell.lst xs) ∈ S → Das S xs ds → Da S (ptr l) (.list ds)
  | tup {xs : List Pv} {ds : List D} : Das S xs ds → Da S (.tup xs) (.tuple ds)
inductive Das (S : Store) : List Pv → List D → Prop
  | nil : Das S [] []
  | cons {x : Pv} {xs : List Pv} {d : D} {ds : List D} : Da S x d → Das S xs ds → Das S (x :: xs) (d :: ds)
end
section
variable {S : Store} {ρ : Slots}
theorem Das.dats : ∀ (ds : List D), Das S (ds.map .dat) ds
  | [] => .nil
  | _ :: ds => .cons .dat (Das.dats ds)
theorem Da.rdP (d : D) : Da S (rdP d) d := by
  unfold Wt.rdP
  split
  · exact .dat
  · exact .rd
theorem Das.rdPs : ∀ (ds : List D), Das S (ds.map Wt.rdP) ds
  | [] => .nil
  | d :: ds => .cons (Da.rdP d) (Das.rdPs ds)
mutual
theorem Da.dv {K : PySem.W.Frag} {A B F H : Hp} {σ : L2.St} (en : EnvOK K A B F H ρ S σ) : ∀ (d : D) {x : Pv} {v : V}, Da S x d → VOK K B F x v → Dv K H v d
  | .list ds, _, _, h, vx => by
    cases h with
    | dat => cases vx with
      | dat a => exact a.up en.exF
    | rd => cases vx with
      | rd a => exact a.up en.exB
    | bor hs => cases vx with
      | bor h1 h2 => exact .lst (en.exB _ _ h1) (Das.dv en ds hs h2)
    | own hl hs => cases vx with
      | val =>
        obtain ⟨_, _, vs, h1, h2⟩ := en.st _ hl
        exact .lst h1 (Das.dv en ds hs (h2.hp))
  | .tuple ds, _, _, h, vx => by
    cases h with
    | dat => cases vx with
      | dat a => exact a.up en.exF
    | rd => cases vx with
      | rd a => exact a.up en.exB
    | tup hs => cases vx with
      | tup h1 h2 => exact .tup (en.exF _ _ h1) (Das.dv en ds hs h2)
  | .none, _, _, h, vx => by
    cases h with
    | dat => cases vx with
      | dat a => exact a.up en.exF
    | rd => cases vx with
      | rd a => exact a.up en.exB
  | .bool _, _, _, h, vx => by
    cases h with
    | dat => cases vx with
      | dat a => exact a.up en.exF
    | rd => cases vx with
      | rd a => exact a.up en.exB
  | .int _, _, _, h, vx => by
    cases h with
    | dat => cases vx with
      | dat a => exact a.up en.exF
    | rd => cases vx with
      | rd a => exact a.up en.exB
  | .str _, _, _, h, vx => by
    cases h with
    | dat => cases vx with
      | dat a => exact a.up en.exF
    | rd => cases vx with
      | rd a => exact a.up en.exB
  | .dict _, _, _, h, vx => by
    cases h with
    | dat => cases vx with
      | dat a => exact a.up en.exF
    | rd => cases vx with
      | rd a => exact a.up en.exB
theorem Das.dv {K : PySem.W.Frag} {A B F H : Hp} {σ : L2.St} (en : EnvOK K A B F H ρ S σ) : ∀ (ds : List D) {xs : List Pv} {vs : List V}, Das S xs ds → VsOK K B F xs vs → Dvs K H vs ds
  | [], _, _, h, vx => by
    cases h
    cases vx
    exact .nil
  | d :: ds, _, _, h, vx => by
    cases h with
    | cons h1 h2 => cases vx with
      | cons v1 v2 => exact .cons (Da.dv en d h1 v1) (Das.dv en ds h2 v2)
end
end
/-! ### defs -/
/-- an argument: frozen data; a list of frozen data, read alone; data read alone; the script; a value -/
inductive Ax where
  | d (d : D)
  | l (ds : List D)
  | r (d : D)
  | s (ns : List Int)
  | v (v : V)
  /-- a dict, its values lists of frozen data; read alone -/
  | t (kts : List ((Int × Int) × List D))
def axP : Ax → Pv
  | .d d => .dat d
  | .l ds => .bor (ds.map .dat)
  | .r d => rdP d
  | .s ns => .scr ns
  | .v v => .val v
  | .t kts => .dic none (kts.map (·.1)) (kts.map fun p => .bor (p.2.map .dat))
theorem axP_d {d : D} : axP (.d d) = .dat d := rfl
theorem axP_l {ds : List D} : axP (.l ds) = .bor (ds.map .dat) := rfl
theorem axP_r {d : D} : axP (.r d) = rdP d := rfl
theorem axP_s {ns : List Int} : axP (.s ns) = .scr ns := rfl
theorem axP_v {v : V} : axP (.v v) = .val v := rfl
theorem axP_t {kts : List ((Int × Int) × List D)} : axP (.t kts) = .dic none (kts.map (·.1)) (kts.map fun p => .bor (p.2.map .dat)) := rfl
def AxOK (K : PySem.W.Frag) (F H : Hp) : Ax → V → Prop
  | .d d, v => Dv K F v d
  | .l ds, v => ∃ a vs, v = .ref a ∧ H a = some (.lst vs) ∧ Dvs K F vs ds
  | .r d, v => Dv K H v d
  | .s ns, v => ∃ a, v = .ref a ∧ SqL K H a (ns.map V.int)
  | .v v, u => u = v
  | .t kts, v => ∃ (a : Addr) (bs : List Addr), v = .ref a ∧ H a = some (.dT (dkv (kts.map (·.1)) (bs.map V.ref))) ∧ Paired (fun b p => ∃ vs, H b = some (.lst vs) ∧ Dvs K F vs p.2) bs kts
theorem vsOK_bors {K : PySem.W.Frag} {B F : Hp} : ∀ {bs : List Addr} {kts : List ((Int × Int) × List D)}, Paired (fun b p => ∃ vs, B b = some (.lst vs) ∧ Dvs K F vs p.2) bs kts → VsOK K B F (kts.map fun p => .bor (p.2.map .dat)) (bs.map V.ref)
  | _, _, .nil => .nil
  | _, _, .cons ⟨_, h1, h2⟩ t => .cons (.bor h1 (.of_dvs h2)) (vsOK_bors t)
structure Res (K : PySem.W.Frag) (F H F' H' : Hp) (x : Pv) (v : V) (S : Store) : Prop where
  hh : Same H H'
  fh : Same F' H'
  ff : Same F F'
  fr : ∀ a o, F' a = some o → F a = some o ∨ H a = none ∨ IsTp o
  st : ∀ p ∈ S, H p.1 = none ∧ F' p.1 = none ∧ CellOK K F' H' p.1 p.2
  nd : (S.map (·.1)).Nodup
  ok : VOK K hp0 F' x v
  fk : FOk F'
/-- of such arguments it gives what R says (new lists: the store) or raises what X says -/
def spW {α : Type} (K : PySem.W.Frag) (args : α → List Ax) (pre : α → Prop) (R : α → Pv → Store → Prop) (X : α → Value → Prop) : Sp := fun vs H Q E =>
  ∃ F as, FOk F ∧ Same F H ∧ Paired (AxOK K F H) (args as) vs ∧ pre as ∧ (∀ x v S F' H', R as x S → Res K F H F' H' x v S → Q v H') ∧ ∀ C H', X as C → Same H H' → E C none H'
def entry : List Str → List Ax → Slots
  | _ :: N, a :: as => some (axP a) :: entry N as
  | _ :: N, [] => none :: entry N []
  | [], _ => []
theorem entry_eq : ∀ {N : List Str} {as : List Ax}, as.length ≤ N.length → entry N as = as.map (fun a => some (axP a)) ++ List.replicate (N.length - as.length) none
  | [], [], _ => rfl
  | [], _ :: _, h => by simp at h
  | _ :: N, [], _ => by
    show none :: entry N [] = List.replicate (N.length + 1) none
    rw [entry_eq (N := N) (as := []) (Nat.zero_le _)]
    rfl
  | _ :: N, a :: as, h => by
    show some (axP a) :: entry N as = _
    rw [entry_eq (N := N) (as := as) (Nat.le_of_succ_le_succ h), List.length_cons, List.length_cons, Nat.add_sub_add_right]
    rfl
theorem paired_length {α β : Type} {P : α → β → Prop} : ∀ {xs : List α} {ys : List β}, Paired P xs ys → xs.length = ys.length
  | _, _, .nil => rfl
  | _, _, .cons _ t => by rw [List.length_cons, List.length_cons, paired_length t]
theorem paired_append {α β : Type} {P : α → β → Prop} : ∀ {xs xs' : List α} {ys ys' : List β}, Paired P xs ys → Paired P xs' ys' → Paired P (xs ++ xs') (ys ++ ys')
  | _, _, _, _, .nil, h => h
  | _, _, _, _, .cons a t, h => .cons a (paired_append t h)
theorem paired_map {α β γ δ : Type} {P : α → β → Prop} {Q : γ → δ → Prop} (f : α → γ) (g : β → δ) (h : ∀ a b, P a b → Q (f a) (g b)) : ∀ {xs : List α} {ys : List β}, Paired P xs ys → Paired Q (xs.map f) (ys.map g)
  | _, _, .nil => .nil
  | _, _, .cons a t => .cons (h _ _ a) (paired_map f g h t)
theorem paired_rep {α β : Type} {P : α → β → Prop} {x : α} {y : β} (h : P x y) : ∀ n, Paired P (List.replicate n x) (List.replicate n y)
  | 0 => .nil
  | n + 1 => .cons h (paired_rep h n)
theorem spW_len {K : PySem.W.Frag} {α : Type} {args : α → List Ax} {pre : α → Prop} {R : α → Pv → Store → Prop} {X : α → Value → Prop} {n : Nat} (hn : ∀ as, (args as).length = n) : ∀ vs H Q E, spW K args pre R X vs H Q E → vs.length = n := fun vs H Q E h => by
  obtain ⟨F, as, _, _, hp, hpre, _⟩ := h
  rw [← paired_length hp, hn as]
/-- what a body's return leaves -/
def Fin {α : Type} (R : α → Pv → Store → Prop) (p : α) : Pv → Store → Prop := fun x S => ∃ S1, R p x S1 ∧ nob x = true ∧ Wks S S1
/-- a def's body comes to what its promise says -/
theorem body_of {K : PySem.W.Frag} {α : Type} {args : α → List Ax} {pre : α → Prop} {R : α → Pv → Store → Prop} {X : α → Value → Prop} {vs : List V} {H : Hp} {Q : VK} {E : XK} {N : List Str} {t : TS} (h : spW K args pre R X vs H Q E)
    (hb : ∀ as, pre as → VS ⟨K, E, X as⟩ (entry N (args as)) [] t { n := fun _ _ => R as (.dat .none) [], r := Fin R as }) (hN : ∀ p, (args p).length ≤ N.length := by intro p; exact Nat.le_of_ble_eq_true rfl) :
    t { nx := fun _ H' => Q .non H', rt := Q } (L2.start N vs) H := by
  obtain ⟨F, as, fk, fh, hp, hpre, q, qe⟩ := h
  refine hb as hpre F H F H _ ⟨Same.refl H, fh, Same.refl F, fun a o e => .inl e, ?_, fun _ z => (nomatch z), List.nodup_nil, fk⟩ (fun C H' hc s => qe C H' hc s) _ ⟨?_, ?_, fun _ _ _ _ _ z => z.elim, fun _ _ _ _ _ z => z.elim⟩
  · rw [entry_eq (hN _)]
    unfold L2.start
    refine paired_append (paired_map _ _ (fun a v h => ?_) hp) (by rw [paired_length hp]; exact paired_rep trivial _)
    refine ⟨v, rfl, ?_⟩
    cases a with
    | d d => exact .dat h
    | l ds =>
      obtain ⟨a, ws, rfl, h1, h2⟩ := h
      exact .bor h1 (.of_dvs h2)
    | r d => exact .rdP h
    | s ns =>
      obtain ⟨a, rfl, h1⟩ := h
      exact .scr h1
    | v u =>
      obtain rfl : v = u := h
      exact .val
    | t kts =>
      obtain ⟨a, bs, rfl, h1, h2⟩ := h
      exact .dic h1 (by rw [List.length_map, List.length_map]) (vsOK_bors h2)
  · intro ρ S F' H' σ hR en f
    exact q _ _ [] F' H' hR ⟨en.exB, en.exF, f, fun a o e => en.fr a o e, fun _ z => (nomatch z), List.nodup_nil, .dat .non, en.fk⟩
  · intro x v ρ S F' H' σ hR en f vx
    obtain ⟨S1, hR, hn, hs⟩ := hR
    have en2 := en.wks hs
    exact q _ _ S1 F' H' hR ⟨en2.exB, en2.exF, f, fun a o e => en2.fr a o e, en2.st, en2.nd, vx.nob hn, en2.fk⟩
section
variable {c : Cn} {ρ : Slots} {S : Store} {Φ : Pv → Store → Prop}
/-- how what is handed in looks to the def -/
inductive AxOf (S : Store) : Pv → Ax → Prop
  | dat {d : D} : AxOf S (.dat d) (.d d)
  | lst {x : Pv} {xs : List Pv} {ds : List D} : LsS S x xs → dats xs = some ds → AxOf S x (.l ds)
  | bor {xs : List Pv} {ds : List D} : dats xs = some ds → AxOf S (.bor xs) (.l ds)
  | rd {x : Pv} {d : D} : Da S x d → AxOf S x (.r d)
  | scr {ns : List Int} : AxOf S (.scr ns) (.s ns)
  | val {v : V} : AxOf S (.val v) (.v v)
  | dct {l : Addr} {qs : List Addr} {kts : List ((Int × Int) × List D)} : (l, Cell.dct (kts.map (·.1)) (qs.map ptr)) ∈ S → Paired (fun q p => (q, Cell.lst (p.2.map Pv.dat)) ∈ S) qs kts → AxOf S (ptr l) (.t kts)
theorem vs_ptrs0 {K : PySem.W.Frag} {B F : Hp} : ∀ {qs : List Addr} {vs : List V}, VsOK K B F (qs.map ptr) vs → vs = qs.map V.ref
  | [], _, h => by cases h; rfl
  | q :: qs, _, h => by
    cases h with
    | cons h1 h2 =>
      cases h1
      rw [vs_ptrs0 h2]
      rfl
theorem axs_dct {K : PySem.W.Frag} {A B F H : Hp} {σ : L2.St} (en : EnvOK K A B F H ρ S σ) : ∀ {qs : List Addr} {kts : List ((Int × Int) × List D)}, Paired (fun q p => (q, Cell.lst (p.2.map Pv.dat)) ∈ S) qs kts → Paired (fun b p => ∃ vs, H b = some (.lst vs) ∧ Dvs K F vs p.2) qs kts
  | _, _, .nil => .nil
  | _, _, .cons h t => .cons (by
    obtain ⟨_, _, vs, h1, h2⟩ := en.st _ h
    exact ⟨vs, h1, h2.dats (dats_map _)⟩) (axs_dct en t)
theorem axs_of {K : PySem.W.Frag} {A B F H : Hp} {σ : L2.St} (en : EnvOK K A B F H ρ S σ) : ∀ {xs : List Pv} {as : List Ax} {vs : List V}, Paired (AxOf S) xs as → VsOK K B F xs vs → Paired (AxOK K F H) as vs
  | _, _, _, .nil, h => by cases h; exact .nil
  | _, _, _, .cons a t, h => by
    cases h with
    | cons h1 h2 =>
      refine .cons ?_ (axs_of en t h2)
      cases a with
      | dat => cases h1 with
        | dat h1 => exact h1
      | lst hl hd =>
        obtain ⟨l, vs, rfl, q1, q2⟩ := hl.read en h1
        exact ⟨l, vs, rfl, q1, q2.dats hd⟩
      | bor hd => cases h1 with
        | bor q1 q2 => exact ⟨_, _, rfl, en.exB _ _ q1, q2.dats hd⟩
      | rd hd => exact hd.dv en _ h1
      | scr => cases h1 with
        | scr q1 => exact ⟨_, rfl, en.exB.seq q1⟩
      | val => cases h1; rfl
      | dct hl hp =>
        cases h1
        obtain ⟨_, _, vs, e1, _, e2⟩ := en.st _ hl
        obtain rfl := vs_ptrs0 e2
        exact ⟨_, _, rfl, e1, axs_dct en hp⟩
/-- a call -/
theorem vc_spW {α : Type} {args : α → List Ax} {pre : α → Prop} {R : α → Pv → Store → Prop} {X : α → Value → Prop} {E : XK} {xs : List Pv} (as : α) (ha : Paired (AxOf S) xs (args as)) (hp : pre as) (hR : ∀ x S1, R as x S1 → Φ x (S1 ++ S))
    (hX : ∀ C, X as C → c.X C ∧ E = c.E) : VC c ρ (fun vs H Q => spW c.K args pre R X vs H Q E) xs S Φ := fun A B F H σ en er vs vx Q q => by
  refine ⟨F, as, en.fk, en.exF, axs_of en ha vx, hp, fun x v S1 F' H' hr res => ?_, fun C H' hx s => ?_⟩
  · refine q x v (S1 ++ S) F' H' (hR x S1 hr) ?_ res.ff res.ok.hp
    refine ⟨en.exB.trans res.hh, res.fh, en.af.trans res.ff, fun a o e => ?_, paired_mono (fun _ _ h => h.mono (Same.refl B) res.ff) en.sl, fun p hp => ?_, ?_, res.fk⟩
    · rcases res.fr a o e with z | z | z
      · exact en.fr a o z
      · exact .inr (.inl (en.exB.free z))
      · exact .inr (.inr z)
    · rcases List.mem_append.mp hp with hp | hp
      · obtain ⟨z1, z2, z3⟩ := res.st p hp
        exact ⟨en.exB.free z1, z2, z3⟩
      · obtain ⟨z1, z2, z3⟩ := en.st p hp
        obtain ⟨o, ho, nt⟩ := z3.some2
        refine ⟨z1, ?_, z3.mono res.ff ((res.hh _ _ ho).trans ho.symm)⟩
        cases e : F' p.1 with
        | none => rfl
        | some o' =>
          rcases res.fr _ _ e with z | z | z
          · rw [z] at z2; cases z2
          · rw [ho] at z; cases z
          · have z4 := res.fh _ _ e
            rw [res.hh _ _ ho] at z4
            exact absurd ((Option.some.inj z4) ▸ z) nt
    · rw [List.map_append, List.nodup_append]
      refine ⟨res.nd, en.nd, fun a h1 b h2 e => ?_⟩
      subst e
      obtain ⟨p1, hp1, e1⟩ := List.mem_map.mp h1
      obtain ⟨p2, hp2, e2⟩ := List.mem_map.mp h2
      obtain ⟨o, ho⟩ := (en.st p2 hp2).2.2.some
      have z := (res.st p1 hp1).1
      rw [e1, ← e2, ho] at z
      cases z
  · obtain ⟨h1, rfl⟩ := hX C hx
    exact er C H' h1 (en.exB.trans s)
end
end Wt
set_option maxHeartbeats 4000000
/-! xs[::-1] of a tuple -/
namespace Wt
open PySem PySem.Spec PyProof.Rows L2 HT
section
variable {prog : Program} {w : World} {A : Around} {E : Value → Shared → Prop} {s : Shared}
theorem fm_map {α β : Type} (f : α → Option β) (g : α → β) : ∀ l : List α, (∀ m ∈ l, f m = some (g m)) → l.filterMap f = l.map g
  | [], _ => rfl
  | a :: l, h => by
    rw [List.filterMap_cons_some (h a List.mem_cons_self), fm_map f g l fun m hm => h m (List.mem_cons_of_mem _ hm)]
    rfl
theorem places_rev (n : Nat) : Builtin.Slice.slicePlaces ((n : Int) - 1) (-1) (-1) = n := by
  unfold Builtin.Slice.slicePlaces
  have h1 : ¬ ((-1 : Int) > 0) := by omega
  rw [if_neg h1]
  split
  · have e : (-(-1) : Int) = 1 := rfl
    rw [e, Int.ediv_one]
    omega
  · omega
theorem sliceApplied_rev {sl : Addr} {vl vu vs : Value} {n : Nat} {Q : Int × Int × Nat → Shared → Prop} (hs : s.heap.IsSliceOf sl vl vu vs) (pl : IsPart vl none) (pu : IsPart vu none) (ps : IsPart vs (some (-1)))
    (h : Q ((n : Int) - 1, -1, n) s) : wpAny (model prog w) A (Builtin.Slice.sliceApplied (.ref sl) (pure (n : Int))) Q E s := by
  obtain ⟨os, hos, hcs, hds⟩ := id hs
  unfold Builtin.Slice.sliceApplied Builtin.Slice.sliceFields
  refine wpAny_bind (wpAny_bind (wpAny_field hos hds (x := vl) rfl (wpAny_bind (wpAny_field hos hds (x := vu) rfl (wpAny_bind (wpAny_field hos hds (x := vs) rfl (wpAny_pure ?_)))))))
  refine wpAny_bind (slicePart_ ps ?_)
  show wpAny _ _ (if ((-1 : Int) == 0) = true then _ else _) _ _ s
  rw [if_neg (by decide)]
  refine wpAny_bind (slicePart_ pl (wpAny_bind (slicePart_ pu (wpAny_bind (wpAny_pure ?_)))))
  show wpAny _ _ (pure ((n : Int) - 1, (-1 : Int), Builtin.Slice.slicePlaces ((n : Int) - 1) (-1) (-1))) _ _ s
  rw [places_rev]
  exact wpAny_pure h
theorem pick_rev (xs : Array Value) : ((List.range xs.size).filterMap fun (m : Nat) => xs[(((xs.size : Int) - 1) + (m : Int) * (-1)).toNat]?).toArray = xs.toList.reverse.toArray := by
  congr 1
  have e : ∀ m ∈ List.range xs.size, (fun (m : Nat) => xs[(((xs.size : Int) - 1) + (m : Int) * (-1)).toNat]?) m = some (xs.toList.reverse.getD m .none) := fun m hm => by
    have hm' : m < xs.size := List.mem_range.mp hm
    have e1 : (((xs.size : Int) - 1) + (m : Int) * (-1)).toNat = xs.size - 1 - m := by omega
    show xs[(((xs.size : Int) - 1) + (m : Int) * (-1)).toNat]? = _
    rw [e1]
    have h1 : m < xs.toList.reverse.length := by simpa using hm'
    rw [List.getD_eq_getElem?_getD, List.getElem?_eq_getElem h1, List.getElem_reverse]
    have h2 : xs.size - 1 - m < xs.size := by omega
    rw [Array.getElem?_eq_getElem h2]
    simp
  rw [fm_map _ _ _ e]
  apply List.ext_getElem?
  intro i
  rw [List.getElem?_map]
  by_cases hi : i < xs.size
  · rw [List.getElem?_range hi]
    have h1 : i < xs.toList.reverse.length := by simpa using hi
    rw [Option.map_some, List.getD_eq_getElem?_getD, List.getElem?_eq_getElem h1]
    rfl
  · rw [List.getElem?_eq_none (by simpa using hi), List.getElem?_eq_none (by simpa using hi)]
    rfl
theorem getItem_tuple_rev {t sl : Addr} {items : Array Value} {vl vu vs : Value} {Q : Value → Shared → Prop} (ht : IsTup s.heap t items) (hs : s.heap.IsSliceOf sl vl vu vs) (pl : IsPart vl none) (pu : IsPart vu none) (ps : IsPart vs (some (-1)))
    (h : Q (.ref s.heap.objs.size) { s with heap := s.heap.push { cls := .type "tuple", data := .seq items.toList.reverse.toArray } })
    (hsz : items.size ≤ sizeLine) : wpAny (model prog w) A (getItem (.ref t) (.ref sl)) Q E s := by
  have htake : sizeOk (.seq items.toList.reverse.toArray) := by
    show items.toList.reverse.toArray.size ≤ sizeLine
    rw [List.size_toArray, List.length_reverse, Array.length_toList]
    exact hsz
  obtain ⟨os, hos, hcs, hds⟩ := id hs
  have hTs : s.TypeIs (.ref sl) "slice" := ⟨os, hos, hcs⟩
  unfold getItem
  try with_reducible refine wpAny_holding ?_
  first | refine wpAny_bind (wpAny_pure ?_) | skip
  refine wpAny_bind (wpAny_sequenceKey ht.typeIs (by decide) ?_)
  refine wpAny_bind (wpAny_callSpecial?_slot (name := Str.ofString "__getitem__") ht.typeIs PyProof.Rows.slot_tuple_getitem
    (wpAny_call_entry PyProof.Rows.slot_tuple_getitem ht.typeIs entry_tuple_getitem ?_ (args_tuple_getitem _ _)))
  show wpAny _ _ (Builtin.Tuple.tupleItemsOf (.ref t) >>= _) _ _ s
  refine wpAny_bind (tupleItemsOf_ ht ?_)
  refine wpAny_bind (wpAny_typeOf hTs ?_)
  rw [if_pos (by decide)]
  refine wpAny_bind (sliceApplied_rev hs pl pu ps ?_)
  have hno : ¬ ((((items.size : Int) - 1) == 0 && (-1 : Int) == 1 && items.size == items.size) = true) := by
    intro q
    rw [Bool.and_eq_true, Bool.and_eq_true] at q
    exact absurd q.1.2 (by decide)
  show wpAny _ _ (if (((items.size : Int) - 1) == 0 && (-1 : Int) == 1 && items.size == items.size) = true then _ else _) _ _ s
  rw [if_neg hno, pick_rev]
  first
    | exact wpAny_bind (m := Builtin.Tuple.tupleExact _) (wpAny_newObj_type (wpAny_pure ⟨_, rfl, wpAny_pure h⟩) htake)
    | exact wpAny_bind (m := Builtin.Tuple.tupleExact _) (wpAny_newObj_type (wpAny_bind (wpAny_pure (wpAny_pure ⟨_, rfl, wpAny_pure h⟩))) htake)
    | exact wpAny_bind (wpAny_bind (m := Builtin.Tuple.tupleExact _) (wpAny_newObj_type (wpAny_pure (wpAny_pure ⟨_, rfl, wpAny_pure h⟩)) htake))
    | exact wpAny_bind (wpAny_bind (m := Builtin.Tuple.tupleExact _) (wpAny_newObj_type (wpAny_pure ⟨_, rfl, wpAny_pure h⟩) htake))
end
section
variable {X : Cx}
/-- xs[::-1], a list or a tuple -/
def tRevA (K : PySem.W.Frag) (te : TE) : TE := fun σ H Q => te σ H fun x H1 => ∃ a xs, x = .ref a ∧ ((SqL K H1 a xs ∧ ∀ p, H1 p = none → Q (.ref p) (upd H1 p (.lst xs.reverse))) ∨ (SqT K H1 a xs ∧ ∀ p, H1 p = none → Q (.ref p) (upd H1 p (.tup xs.reverse))))
theorem pe_revA {e : Expr} {te : TE} {k : Nat} {p1 p2 p3 pos : Pos} (he : PE X e te) : PE X (.Subscript e (.Slice none none (some (.UnaryOp .USub (.Constant (.int 1) k p1) p2)) p3) pos) (tRevA X.K te) := by
  refine ⟨fun pins s σ H Q I h => ?_⟩
  refine Subscript_ (thn (he.run pins s σ H _ I h) fun v s1 ⟨x, H1, I1, r1, q1⟩ => ?_)
  obtain ⟨a, xs, ex, q1⟩ := q1
  subst ex
  cases r1
  have hst : PO X (some (.UnaryOp .USub (.Constant (.int 1) k p1) p2)) (tPart (tUn (rU fun i => .int (-i)) (tC (.int 1)))) := po_some (pe_un un_neg pe_int)
  refine wpAny_Slice (thn (po_none.run pins s1 σ H1 (fun o H2 => o = none ∧ H2 = H1) I1 ⟨rfl, rfl⟩) fun vl s2 ⟨l, H2, I2, pl, el, e2⟩ => ?_)
  subst el e2
  refine thn (po_none.run pins s2 σ H2 (fun o H3 => o = none ∧ H3 = H2) I2 ⟨rfl, rfl⟩) fun vu s3 ⟨u, H3, I3, pu, eu, e3⟩ => ?_
  subst eu e3
  refine thn (hst.run pins s3 σ H3 (fun o H4 => o = some (-1) ∧ H4 = H3) I3 ⟨1, rfl, -1, rfl, rfl, rfl⟩) fun vs s4 ⟨o, H4, I4, ps, eo, e4⟩ => ?_
  subst eo e4
  have I5 : Inv X pins σ H4 { s4 with heap := s4.heap.push { cls := .type "slice", data := .fields #[vl, vu, vs] } } := I4.kept (t' := s4.toks) fun b ob q => Heap.get?_push_of_some _ q
  rcases q1 with ⟨hx, q⟩ | ⟨hx, q⟩
  · obtain ⟨its, r, ht, hz⟩ := I5.list hx
    have hlen := r.length
    show wpAny (model X.prog X.w) X.A (subscriptTail e (.Slice none none (some (.UnaryOp .USub (.Constant (.int 1) k p1) p2)) p3) (.ref a) (.ref s4.heap.objs.size)) (EP X pins σ Q) X.xe { s4 with heap := s4.heap.push { cls := .type "slice", data := .fields #[vl, vu, vs] } }
    refine tail_any (ops := [.ref a, .ref s4.heap.objs.size]) ht.isList.typeIs (PySem.slot_list_getitem.lookup) ?_ (by with_unfolding_all rfl)
    refine wpAny_getItem_list_slice ht.isList (Heap.IsSliceOf.new _ vl vu vs) pl pu ps (by decide) ?_ (by rw [List.size_toArray]; omega)
    rw [PySem.W.krv_pick]
    refine ⟨.ref _, _, I5.laid (t' := s4.toks) (o := .lst xs.reverse) (fun b ob q => Heap.get?_push_of_some _ q) (Nat.le_refl _) ?_, rfl, q _ (I5.hok.fresh (Nat.le_refl _))⟩
    exact ⟨by rw [List.length_reverse]; exact hz, _, 0, r.reverse, Heap.get?_push_size _ rfl⟩
  · obtain ⟨its, r, ht, hz⟩ := I5.tuple hx
    have hlen := r.length
    show wpAny (model X.prog X.w) X.A (subscriptTail e (.Slice none none (some (.UnaryOp .USub (.Constant (.int 1) k p1) p2)) p3) (.ref a) (.ref s4.heap.objs.size)) (EP X pins σ Q) X.xe { s4 with heap := s4.heap.push { cls := .type "slice", data := .fields #[vl, vu, vs] } }
    refine tail_any (ops := [.ref a, .ref s4.heap.objs.size]) ht.typeIs (PyProof.Rows.slot_tuple_getitem.lookup) ?_ (by with_unfolding_all rfl)
    refine getItem_tuple_rev ht (Heap.IsSliceOf.new _ vl vu vs) pl pu ps ?_ (by rw [List.size_toArray]; omega)
    refine ⟨.ref _, _, I5.laid (t' := s4.toks) (o := .tup xs.reverse) (fun b ob q => Heap.get?_push_of_some _ q) (Nat.le_refl _) ?_, rfl, q _ (I5.hok.fresh (Nat.le_refl _))⟩
    refine ⟨by rw [List.length_reverse]; exact hz, its.reverse, r.reverse, ?_⟩
    first | exact ⟨_, Heap.get?_push_size _ rfl, rfl, _, rfl⟩ | exact ⟨_, Heap.get?_push_size _ rfl, rfl, rfl⟩
end
section
variable {c : Cn} {ρ : Slots} {S : Store} {Φ : Pv → Store → Prop} {te : TE}
theorem ve_revT (h : VE c ρ S te fun x S1 => ∃ xs, Tu x xs ∧ Φ (tupP xs.reverse) S1) : VE c ρ S (tRevA c.K te) Φ := fun A B F H σ en er Q q => by
  refine h A B F H σ en er _ fun x v S1 F1 H1 h1 en1 f1 vx => ?_
  obtain ⟨xs, hx, h1⟩ := h1
  obtain ⟨a, vs, rfl, ha, hv⟩ := hx.read vx
  refine ⟨a, vs, rfl, .inr ⟨ha H1 en1.exB en1.exF, fun p np => ?_⟩⟩
  obtain ⟨en2, f2⟩ := en1.frz (o := .tup vs.reverse) np
  refine q _ _ S1 _ _ h1 en2 (f1.trans f2) ?_
  unfold tupP
  cases e : dats xs.reverse with
  | none => exact .tup upd_same (hv.reverse.up f2)
  | some ds => exact .dat (.tup upd_same ((hv.reverse.dats e).up f2))
theorem ve_revL (h : VE c ρ S te fun x S1 => ∃ xs, Ls S1 x xs ∧ nobs xs.reverse = true ∧ ∀ p, Φ (ptr p) ((p, .lst xs.reverse) :: S1)) : VE c ρ S (tRevA c.K te) Φ := fun A B F H σ en er Q q => by
  refine h A B F H σ en er _ fun x v S1 F1 H1 h1 en1 f1 vx => ?_
  obtain ⟨xs, hx, hn, h1⟩ := h1
  obtain ⟨a, vs, rfl, ha, hv⟩ := hx.read en1 vx
  refine ⟨a, vs, rfl, .inl ⟨ha, fun p np => ?_⟩⟩
  have en2 := en1.own (o := .lst vs.reverse) (c := .lst xs.reverse) np ⟨vs.reverse, upd_same, hv.reverse.nob hn⟩
  exact q _ _ _ _ _ (h1 p) en2 f1 .val
end
end Wt
namespace Wt
open PySem PySem.Spec PyProof.Rows L2 RZ
section
variable {c : Cn} {ρ : Slots} {S : Store} {Φ : Pv → Store → Prop} {ta tb te : TE} {tas : TA} {r : R2}
/-! ### what is handed to a built-in -/
theorem vc_sq {f : List V → Hp → VK → Prop} {x : Pv} {xs : List Pv} (hs : Sq S x xs)
    (h : ∀ (p : Addr) (vs : List V) (H : Hp) (Q : VK), (SqL c.K H p vs ∨ SqT c.K H p vs) → vs.length = xs.length → Q (.int vs.length) H → f [.ref p] H Q) (hp : Φ (.dat (.int xs.length)) S) : VC c ρ f [x] S Φ := fun A B F H σ en er vs vx Q q => by
  cases vx with
  | cons v1 v2 =>
    cases v2
    rcases hs with hs | hs
    · obtain ⟨l, vs, rfl, hl, hv⟩ := hs.read en v1
      refine h l vs H Q (.inl hl) hv.length ?_
      rw [hv.length]
      exact q.dat en hp (.int _)
    · obtain ⟨l, vs, rfl, hl, hv⟩ := hs.read v1
      refine h l vs H Q (.inr (hl H en.exB en.exF)) hv.length ?_
      rw [hv.length]
      exact q.dat en hp (.int _)
/-- len -/
theorem vc_len {x : Pv} {xs : List Pv} (hs : Sq S x xs) (hp : Φ (.dat (.int xs.length)) S) :
    VC c ρ (fun xs H Q => ∃ p ys, xs = [V.ref p] ∧ (SqL c.K H p ys ∨ SqT c.K H p ys) ∧ Q (.int ys.length) H) [x] S Φ := vc_sq hs (fun p vs H Q h _ q => ⟨p, vs, rfl, h, q⟩) hp
theorem vc_abs {i : Int} (hp : Φ (.dat (.int (if i < 0 then -i else i))) S) : VC c ρ (fun xs H Q => ∃ i, xs = [V.int i] ∧ Q (.int (if i < 0 then -i else i)) H) [.dat (.int i)] S Φ := fun A B F H σ en er vs vx Q q => by
  cases vx with
  | cons v1 v2 => cases v2; cases v1 with
    | dat a => cases a; exact ⟨i, rfl, q.dat en hp (.int _)⟩
theorem vc_gcd {i j : Int} (hp : Φ (.dat (.int ((Nat.gcd i.natAbs j.natAbs : Nat) : Int))) S) : VC c ρ rGcd [.dat (.int i), .dat (.int j)] S Φ := fun A B F H σ en er vs vx Q q => by
  cases vx with
  | cons v1 v2 => cases v2 with
    | cons v2 v3 => cases v3; cases v1 with
      | dat a => cases v2 with
        | dat b => cases a; cases b; exact ⟨i, j, rfl, q.dat en hp (.int _)⟩
theorem vc_max2 {i j : Int} (hp : Φ (.dat (.int (if j > i then j else i))) S) : VC c ρ (fun xs H Q => ∃ i j, xs = [V.int i, V.int j] ∧ Q (.int (if j > i then j else i)) H) [.dat (.int i), .dat (.int j)] S Φ := fun A B F H σ en er vs vx Q q => by
  cases vx with
  | cons v1 v2 => cases v2 with
    | cons v2 v3 => cases v3; cases v1 with
      | dat a => cases v2 with
        | dat b => cases a; cases b; exact ⟨i, j, rfl, q.dat en hp (.int _)⟩
theorem vc_min2 {i j : Int} (hp : Φ (.dat (.int (if j < i then j else i))) S) : VC c ρ (fun xs H Q => ∃ i j, xs = [V.int i, V.int j] ∧ Q (.int (if j < i then j else i)) H) [.dat (.int i), .dat (.int j)] S Φ := fun A B F H σ en er vs vx Q q => by
  cases vx with
  | cons v1 v2 => cases v2 with
    | cons v2 v3 => cases v3; cases v1 with
      | dat a => cases v2 with
        | dat b => cases a; cases b; exact ⟨i, j, rfl, q.dat en hp (.int _)⟩
theorem vc_intI {i : Int} (hp : Φ (.dat (.int i)) S) : VC c ρ (fun xs H Q => (∃ i, xs = [V.int i] ∧ Q (.int i) H) ∨ ∃ k, xs = [V.bl k] ∧ Q (.int (if k then 1 else 0)) H) [.dat (.int i)] S Φ := fun A B F H σ en er vs vx Q q => by
  cases vx with
  | cons v1 v2 => cases v2; cases v1 with
    | dat a => cases a; exact .inl ⟨i, rfl, q.dat en hp (.int _)⟩
theorem vc_intB {b : Bool} (hp : Φ (.dat (.int (if b then 1 else 0))) S) : VC c ρ (fun xs H Q => (∃ i, xs = [V.int i] ∧ Q (.int i) H) ∨ ∃ k, xs = [V.bl k] ∧ Q (.int (if k then 1 else 0)) H) [.dat (.bool b)] S Φ := fun A B F H σ en er vs vx Q q => by
  cases vx with
  | cons v1 v2 => cases v2; cases v1 with
    | dat a => cases a; exact .inr ⟨b, rfl, q.dat en hp (.int _)⟩
/-- all, any of a list of truths -/
theorem vc_all {x : Pv} {bs : List Bool} (hs : Ls S x (bs.map fun b => .dat (.bool b))) (hp : Φ (.dat (.bool (bs.all id))) S) : VC c ρ (rAll c.K) [x] S Φ := fun A B F H σ en er vs vx Q q => by
  cases vx with
  | cons v1 v2 =>
    cases v2
    obtain ⟨l, vs, rfl, hl, hv⟩ := hs.read en v1
    have e : vs = bs.map V.bl := by
      have h1 := hv.dats (ds := bs.map .bool) (by rw [show (bs.map fun b => Pv.dat (.bool b)) = (bs.map PyData.bool).map .dat by rw [List.map_map]; rfl]; exact dats_map _)
      exact h1.bls
    subst e
    exact ⟨l, bs, rfl, hl, q.dat en hp (.bl _)⟩
theorem vc_any {x : Pv} {bs : List Bool} (hs : Ls S x (bs.map fun b => .dat (.bool b))) (hp : Φ (.dat (.bool (bs.any id))) S) : VC c ρ (rAny c.K) [x] S Φ := fun A B F H σ en er vs vx Q q => by
  cases vx with
  | cons v1 v2 =>
    cases v2
    obtain ⟨l, vs, rfl, hl, hv⟩ := hs.read en v1
    have e : vs = bs.map V.bl := by
      have h1 := hv.dats (ds := bs.map .bool) (by rw [show (bs.map fun b => Pv.dat (.bool b)) = (bs.map PyData.bool).map .dat by rw [List.map_map]; rfl]; exact dats_map _)
      exact h1.bls
    subst e
    exact ⟨l, bs, rfl, hl, q.dat en hp (.bl _)⟩
/-- tuple(xs), list(xs) -/
theorem vc_tupleL {x : Pv} {xs : List Pv} (hs : Ls S x xs) (hp : Φ (tupP xs) S) :
    VC c ρ (fun xs H Q => ∃ p ys, xs = [V.ref p] ∧ ((SqL c.K H p ys ∧ ∀ l, H l = none → Q (.ref l) (upd H l (.tup ys))) ∨ (SqT c.K H p ys ∧ Q (.ref p) H))) [x] S Φ := fun A B F H σ en er vs vx Q q => by
  cases vx with
  | cons v1 v2 =>
    cases v2
    obtain ⟨l, vs, rfl, hl, hv⟩ := hs.read en v1
    refine ⟨l, vs, rfl, .inl ⟨hl, fun p np => ?_⟩⟩
    obtain ⟨en2, f2⟩ := en.frz (o := .tup vs) np
    refine q _ _ S _ _ hp en2 f2 ?_
    unfold tupP
    cases e : dats xs with
    | none => exact .tup upd_same (hv.up f2)
    | some ds => exact .dat (.tup upd_same ((hv.dats e).up f2))
theorem vc_tupleT {x : Pv} {xs : List Pv} (hs : Tu x xs) (hp : Φ x S) :
    VC c ρ (fun xs H Q => ∃ p ys, xs = [V.ref p] ∧ ((SqL c.K H p ys ∧ ∀ l, H l = none → Q (.ref l) (upd H l (.tup ys))) ∨ (SqT c.K H p ys ∧ Q (.ref p) H))) [x] S Φ := fun A B F H σ en er vs vx Q q => by
  cases vx with
  | cons v1 v2 =>
    cases v2
    obtain ⟨l, vs, rfl, hl, hv⟩ := hs.read v1
    exact ⟨l, vs, rfl, .inr ⟨hl H en.exB en.exF, q.same en hp v1⟩⟩
theorem vc_list {x : Pv} {xs : List Pv} (hs : Sq S x xs) (hn : nobs xs = true) (hp : ∀ p, Φ (ptr p) ((p, .lst xs) :: S)) :
    VC c ρ (fun xs H Q => ∃ p ys, xs = [V.ref p] ∧ (SqL c.K H p ys ∨ SqT c.K H p ys) ∧ ∀ l, H l = none → Q (.ref l) (upd H l (.lst ys))) [x] S Φ := fun A B F H σ en er vs vx Q q => by
  cases vx with
  | cons v1 v2 =>
    cases v2
    rcases hs with hs | hs
    · obtain ⟨l, vs, rfl, hl, hv⟩ := hs.read en v1
      refine ⟨l, vs, rfl, .inl hl, fun p np => ?_⟩
      exact q _ _ _ _ _ (hp p) (en.own (o := .lst vs) (c := .lst xs) np ⟨vs, upd_same, hv.nob hn⟩) (Same.refl F) .val
    · obtain ⟨l, vs, rfl, hl, hv⟩ := hs.read v1
      refine ⟨l, vs, rfl, .inr (hl H en.exB en.exF), fun p np => ?_⟩
      exact q _ _ _ _ _ (hp p) (en.own (o := .lst vs) (c := .lst xs) np ⟨vs, upd_same, hv.nob hn⟩) (Same.refl F) .val
/-! ### isinstance of built-in types -/
theorem tyx_sqL {K : PySem.W.Frag} {H : Hp} {a : Addr} {xs : List V} (h : SqL K H a xs) : TyX K H (.ref a) (.type "list") := by
  rcases h with (h | ⟨o, h⟩) | ⟨o, its, n, h, hc, _⟩
  · exact .base (.lst h)
  · exact .base (.frz h)
  · exact .kList h hc
theorem tyx_sqT {K : PySem.W.Frag} {H : Hp} {a : Addr} {xs : List V} (h : SqT K H a xs) : TyX K H (.ref a) (.type "tuple") := by
  rcases h with (h | ⟨o, h⟩) | ⟨o, its, n, h, hc, _⟩
  · exact .base (.tup h)
  · exact .fTuple h
  · exact .kTuple h hc
def tyD : D → String
  | .none => "NoneType"
  | .bool _ => "bool"
  | .int _ => "int"
  | .str _ => "str"
  | .list _ => "list"
  | .tuple _ => "tuple"
  | .dict _ => "dict"
/-- the built-in type of what a slot holds -/
inductive TyP (S : Store) : Pv → String → Prop
  | dat {d : D} : TyP S (.dat d) (tyD d)
  | rd {d : D} : TyP S (.rd d) (tyD d)
  | lst {x : Pv} {xs : List Pv} : Ls S x xs → TyP S x "list"
  | tup {xs : List Pv} : TyP S (.tup xs) "tuple"
theorem Dv.tyx {K : PySem.W.Frag} {F H : Hp} (e : Same F H) {d : D} {v : V} (h : Dv K F v d) : TyX K H v (.type (tyD d)) := by
  cases h with
  | non => exact .base .non
  | bl b => exact .base (.bl b)
  | int i => exact .base (.int i)
  | str x => exact .base (.str x)
  | lst h1 h2 => exact .base (.lst (e _ _ h1))
  | tup h1 h2 => exact tyx_sqT (sqT_of (e _ _ h1))
  | dct h1 => exact .base (.dK (e _ _ h1))
theorem vc_isi {x : Pv} {T : String} {n : String} {b : Bool} (hx : TyP S x T) (hk : kitB T n = some b) (hp : Φ (.dat (.bool b)) S) : VC c ρ (rIsi c.K) [x, .val (.ty n)] S Φ := fun A B F H σ en er vs vx Q q => by
  cases vx with
  | cons v1 v2 => cases v2 with
    | cons v2 v3 =>
      cases v3
      cases v2
      refine ⟨_, _, .type T, .type n, b, rfl, .ty n, ?_, kit_ty hk, q.dat en hp (.bl _)⟩
      cases hx with
      | dat => cases v1 with
        | dat a => exact a.tyx en.exF
      | rd => cases v1 with
        | rd a => exact a.tyx en.exB
      | lst h =>
        obtain ⟨l, vs, rfl, hl, hv⟩ := h.read en v1
        exact tyx_sqL hl
      | tup => cases v1 with
        | tup h1 h2 => exact tyx_sqT (sqT_of (en.exF _ _ h1))
/-! .. by the kind of the data -/
def tInt : D → Bool
  | .int _ => true
  | .bool _ => true
  | _ => false
def tBool : D → Bool
  | .bool _ => true
  | _ => false
def tTupl : D → Bool
  | .tuple _ => true
  | _ => false
def tList : D → Bool
  | .list _ => true
  | _ => false
def tStr : D → Bool
  | .str _ => true
  | _ => false
theorem kit_int (d : D) : kitB (tyD d) "int" = some (tInt d) := match d with
  | .none  => (by decide +kernel : kitB "NoneType" "int" = some false)
  | .bool _ => (by decide +kernel : kitB "bool" "int" = some true)
  | .int _ => (by decide +kernel : kitB "int" "int" = some true)
  | .str _ => (by decide +kernel : kitB "str" "int" = some false)
  | .list _ => (by decide +kernel : kitB "list" "int" = some false)
  | .tuple _ => (by decide +kernel : kitB "tuple" "int" = some false)
  | .dict _ => (by decide +kernel : kitB "dict" "int" = some false)
theorem kit_bool (d : D) : kitB (tyD d) "bool" = some (tBool d) := match d with
  | .none  => (by decide +kernel : kitB "NoneType" "bool" = some false)
  | .bool _ => (by decide +kernel : kitB "bool" "bool" = some true)
  | .int _ => (by decide +kernel : kitB "int" "bool" = some false)
  | .str _ => (by decide +kernel : kitB "str" "bool" = some false)
  | .list _ => (by decide +kernel : kitB "list" "bool" = some false)
  | .tuple _ => (by decide +kernel : kitB "tuple" "bool" = some false)
  | .dict _ => (by decide +kernel : kitB "dict" "bool" = some false)
theorem kit_tup (d : D) : kitB (tyD d) "tuple" = some (tTupl d) := match d with
  | .none  => (by decide +kernel : kitB "NoneType" "tuple" = some false)
  | .bool _ => (by decide +kernel : kitB "bool" "tuple" = some false)
  | .int _ => (by decide +kernel : kitB "int" "tuple" = some false)
  | .str _ => (by decide +kernel : kitB "str" "tuple" = some false)
  | .list _ => (by decide +kernel : kitB "list" "tuple" = some false)
  | .tuple _ => (by decide +kernel : kitB "tuple" "tuple" = some true)
  | .dict _ => (by decide +kernel : kitB "dict" "tuple" = some false)
theorem kit_list (d : D) : kitB (tyD d) "list" = some (tList d) := match d with
  | .none  => (by decide +kernel : kitB "NoneType" "list" = some false)
  | .bool _ => (by decide +kernel : kitB "bool" "list" = some false)
  | .int _ => (by decide +kernel : kitB "int" "list" = some false)
  | .str _ => (by decide +kernel : kitB "str" "list" = some false)
  | .list _ => (by decide +kernel : kitB "list" "list" = some true)
  | .tuple _ => (by decide +kernel : kitB "tuple" "list" = some false)
  | .dict _ => (by decide +kernel : kitB "dict" "list" = some false)
theorem kit_str (d : D) : kitB (tyD d) "str" = some (tStr d) := match d with
  | .none  => (by decide +kernel : kitB "NoneType" "str" = some false)
  | .bool _ => (by decide +kernel : kitB "bool" "str" = some false)
  | .int _ => (by decide +kernel : kitB "int" "str" = some false)
  | .str _ => (by decide +kernel : kitB "str" "str" = some true)
  | .list _ => (by decide +kernel : kitB "list" "str" = some false)
  | .tuple _ => (by decide +kernel : kitB "tuple" "str" = some false)
  | .dict _ => (by decide +kernel : kitB "dict" "str" = some false)
theorem vc_isInt {d : D} (hp : Φ (.dat (.bool (tInt d))) S) : VC c ρ (rIsi c.K) [.dat d, .val (.ty "int")] S Φ := vc_isi .dat (kit_int d) hp
theorem vc_isBool {d : D} (hp : Φ (.dat (.bool (tBool d))) S) : VC c ρ (rIsi c.K) [.dat d, .val (.ty "bool")] S Φ := vc_isi .dat (kit_bool d) hp
theorem vc_isTup {d : D} (hp : Φ (.dat (.bool (tTupl d))) S) : VC c ρ (rIsi c.K) [.dat d, .val (.ty "tuple")] S Φ := vc_isi .dat (kit_tup d) hp
theorem vc_isList {d : D} (hp : Φ (.dat (.bool (tList d))) S) : VC c ρ (rIsi c.K) [.dat d, .val (.ty "list")] S Φ := vc_isi .dat (kit_list d) hp
theorem vc_isStr {d : D} (hp : Φ (.dat (.bool (tStr d))) S) : VC c ρ (rIsi c.K) [.dat d, .val (.ty "str")] S Φ := vc_isi .dat (kit_str d) hp
theorem vc_isIntR {d : D} (hp : Φ (.dat (.bool (tInt d))) S) : VC c ρ (rIsi c.K) [.rd d, .val (.ty "int")] S Φ := vc_isi .rd (kit_int d) hp
theorem vc_isBoolR {d : D} (hp : Φ (.dat (.bool (tBool d))) S) : VC c ρ (rIsi c.K) [.rd d, .val (.ty "bool")] S Φ := vc_isi .rd (kit_bool d) hp
theorem vc_isTupR {d : D} (hp : Φ (.dat (.bool (tTupl d))) S) : VC c ρ (rIsi c.K) [.rd d, .val (.ty "tuple")] S Φ := vc_isi .rd (kit_tup d) hp
theorem vc_isListR {d : D} (hp : Φ (.dat (.bool (tList d))) S) : VC c ρ (rIsi c.K) [.rd d, .val (.ty "list")] S Φ := vc_isi .rd (kit_list d) hp
theorem vc_isListL {x : Pv} {xs : List Pv} (hx : Ls S x xs) (hp : Φ (.dat (.bool true)) S) : VC c ρ (rIsi c.K) [x, .val (.ty "list")] S Φ := vc_isi (.lst hx) (by decide +kernel) hp
/-! ### == of what is seen as data -/
theorem vr_eqX {x y : Pv} {d e : D} (hx : Da S x d) (hy : Da S y e) (n1 : nod d = true) (n2 : nod e = true) (s1 : SeqAt.shaped d = true) (s2 : SeqAt.shaped e = true) (h : Φ (.dat (.bool (PyData.eqv d e))) S) : VR c ρ (rEqD c.K) x y S Φ := fun A B F H σ en er v u vx vy Q q =>
  ⟨d, e, (hx.dv en d vx).dp (Same.refl H) _ _ n1, (hy.dv en e vy).dp (Same.refl H) _ _ n2, s1, s2, q.dat en h (.bl _)⟩
theorem vr_neX {x y : Pv} {d e : D} (hx : Da S x d) (hy : Da S y e) (n1 : nod d = true) (n2 : nod e = true) (s1 : SeqAt.shaped d = true) (s2 : SeqAt.shaped e = true) (h : Φ (.dat (.bool (!PyData.eqv d e))) S) : VR c ρ (rNeD c.K) x y S Φ := fun A B F H σ en er v u vx vy Q q =>
  ⟨d, e, (hx.dv en d vx).dp (Same.refl H) _ _ n1, (hy.dv en e vy).dp (Same.refl H) _ _ n2, s1, s2, q.dat en h (.bl _)⟩
/-! ### + -/
def rPlus (K : PySem.W.Frag) : R2 := fun x y H Q => (rI0 fun i j => .int (i + j)) x y H Q ∨ (rCat x y H Q ∨ rCatA K x y H Q)
theorem op_plus {X : Cx} : OpR X (binaryOp .Add) (rPlus X.K) := op_add.or (op_cat.or op_catA)
theorem vr_plusI {i j : Int} (h : Φ (.dat (.int (i + j))) S) : VR c ρ (rPlus c.K) (.dat (.int i)) (.dat (.int j)) S Φ := fun A B F H σ en er v u vx vy Q q => .inl (vr_I0i (g := fun i j => i + j) h A B F H σ en er v u vx vy Q q)
theorem vr_plusL {x y : Pv} {xs ys : List Pv} (hx : LsS S x xs) (hy : LsS S y ys) (hz : xs.length + ys.length ≤ 100000) (h : ∀ p, Φ (ptr p) ((p, .lst (xs ++ ys)) :: S)) : VR c ρ (rPlus c.K) x y S Φ := fun A B F H σ en er v u vx vy Q q => by
  obtain ⟨l, vs, rfl, h1, h2⟩ := hx.read en vx
  obtain ⟨m, ws, rfl, h3, h4⟩ := hy.read en vy
  refine .inr (.inl ⟨l, m, vs, ws, rfl, rfl, h1, h3, by rw [h2.length, h4.length]; exact Nat.le_trans hz (by decide), fun p np => ?_⟩)
  exact q _ _ _ _ _ (h p) (en.own (o := .lst (vs ++ ws)) (c := .lst (xs ++ ys)) np ⟨_, upd_same, h2.append h4⟩) (Same.refl F) .val
theorem vr_plusT {x y : Pv} {ds es : List D} (hx : x = .dat (.tuple ds)) (hy : y = .dat (.tuple es)) (hz : ds.length + es.length ≤ 100000) (h : Φ (.dat (.tuple (ds ++ es))) S) : VR c ρ (rPlus c.K) x y S Φ := fun A B F H σ en er v u vx vy Q q => by
  subst hx hy
  cases vx with
  | dat a => cases vy with
    | dat b => cases a with
      | tup h1 h2 => cases b with
        | tup h3 h4 =>
          rename_i l vs m ws
          refine .inr (.inr ⟨l, m, vs, ws, rfl, rfl, sqT_of (en.exF _ _ h1), sqT_of (en.exF _ _ h3), by rw [h2.length, h4.length]; exact Nat.le_trans hz (by decide), fun e => ?_, fun e1 e2 => ?_, fun _ _ p np => ?_⟩)
          · have e2 : ds = [] := List.eq_nil_of_length_eq_zero (by rw [← h2.length, e]; rfl)
            subst e2
            exact q.dat en h (.tup h3 h4)
          · have e2 : es = [] := List.eq_nil_of_length_eq_zero (by rw [← h4.length, e2]; rfl)
            subst e2
            rw [List.append_nil] at h
            exact q.dat en h (.tup h1 h2)
          · obtain ⟨en2, f2⟩ := en.frz (o := .tup (vs ++ ws)) np
            exact q _ _ S _ _ h en2 f2 (.dat (.tup upd_same ((h2.append h4).up f2)))
/-! ### * -/
def rTimes : R2 := fun x y H Q => (rI CMul fun i j => .int (i * j)) x y H Q ∨ (rI CMulW fun i j => .int (i * j)) x y H Q
theorem op_times {X : Cx} : OpR X (binaryOp .Mult) rTimes := op_mul.or op_mulW
theorem vr_timesI {i j : Int} (hc : CMul i j ∨ CMulW i j) (h : Φ (.dat (.int (i * j))) S) : VR c ρ rTimes (.dat (.int i)) (.dat (.int j)) S Φ := fun A B F H σ en er v u vx vy Q q => by
  rcases hc with hc | hc
  · exact .inl (vr_Ii (g := fun i j => i * j) hc h A B F H σ en er v u vx vy Q q)
  · exact .inr (vr_Ii (g := fun i j => i * j) hc h A B F H σ en er v u vx vy Q q)
/-! ### slices -/
abbrev sIxO (n d : Nat) (o : Option Int) : Nat := HT.sIx n d o
def cutP {α : Type} (xs : List α) (lo hi : Option Int) : List α := (xs.drop (HT.sIx xs.length 0 lo)).take (HT.sIx xs.length xs.length hi - HT.sIx xs.length 0 lo)
def VO (c : Cn) (ρ : Slots) (S : Store) (to : TO) (Φ : Option Int → Store → Prop) : Prop :=
  ∀ A B F H σ, EnvOK c.K A B F H ρ S σ → Er c B → ∀ Q : Option Int → Hp → Prop, (∀ o S' F' H', Φ o S' → EnvOK c.K A B F' H' ρ S' σ → Same F F' → Q o H') → to σ H Q
theorem vo_none {Φ : Option Int → Store → Prop} (h : Φ none S) : VO c ρ S tNoPart Φ := fun A B F H σ en er Q q => q none S F H h en (Same.refl F)
theorem vo_some {Φ : Option Int → Store → Prop} (h : VE c ρ S te fun x S1 => ∃ i, x = .dat (.int i) ∧ Φ (some i) S1) : VO c ρ S (tPart te) Φ := fun A B F H σ en er Q q => by
  refine h A B F H σ en er _ fun x v S1 F1 H1 h1 en1 f1 vx => ?_
  obtain ⟨i, rfl, h1⟩ := h1
  cases vx with
  | dat a => cases a; exact ⟨i, rfl, q _ S1 F1 H1 h1 en1 f1⟩
def rCut (K : PySem.W.Frag) : V → Option Int → Option Int → Hp → VK → Prop := fun x lo hi H Q => rSlL K x lo hi H Q ∨ rSlA K x lo hi H Q
theorem sl_cut {X : Cx} : SlR X (rCut X.K) := sl_list.or sl_tupA
def CutOK (S : Store) (x : Pv) (lo hi : Option Int) (Φ : Pv → Store → Prop) : Prop :=
  (∃ xs, Ls S x xs ∧ nobs (cutP xs lo hi) = true ∧ ∀ p, Φ (ptr p) ((p, .lst (cutP xs lo hi)) :: S)) ∨ ∃ ds, x = .dat (.tuple ds) ∧ Φ (.dat (.tuple (cutP ds lo hi))) S
theorem ve_cut {tl th : TO} (h : VE c ρ S te fun x S1 => VO c ρ S1 tl fun lo S2 => VO c ρ S2 th fun hi S3 => CutOK S3 x lo hi Φ) : VE c ρ S (tSl (rCut c.K) te tl th) Φ := fun A B F H σ en er Q q => by
  refine h A B F H σ en er _ fun x v S1 F1 H1 h1 en1 f1 vx => ?_
  refine h1 A B F1 H1 σ en1 er _ fun lo S2 F2 H2 h2 en2 f2 => ?_
  refine h2 A B F2 H2 σ en2 er _ fun hi S3 F3 H3 h3 en3 f3 => ?_
  have q3 := q.up ((f1.trans f2).trans f3)
  have vx3 := vx.up (f2.trans f3)
  rcases h3 with ⟨xs, hl, hn, h3⟩ | ⟨ds, rfl, h3⟩
  · obtain ⟨l, vs, rfl, k1, k2⟩ := hl.read en3 vx3
    refine .inl ⟨l, vs, rfl, k1, fun p np => ?_⟩
    have ec : cutV vs lo hi = (vs.drop (HT.sIx xs.length 0 lo)).take (HT.sIx xs.length xs.length hi - HT.sIx xs.length 0 lo) := by
      unfold cutV
      rw [k2.length]
    refine q3 _ _ _ _ _ (h3 p) (en3.own (o := .lst (cutV vs lo hi)) (c := .lst (cutP xs lo hi)) np ⟨_, upd_same, ?_⟩) (Same.refl F3) .val
    rw [ec]
    exact ((k2.drop _).take _).nob hn
  · cases vx3 with
    | dat a => cases a with
      | tup k1 k2 =>
        rename_i l vs
        have ec : cutV vs lo hi = (vs.drop (HT.sIx ds.length 0 lo)).take (HT.sIx ds.length ds.length hi - HT.sIx ds.length 0 lo) := by
          unfold cutV
          rw [k2.length]
        refine .inr ⟨l, vs, rfl, sqT_of (en3.exF _ _ k1), fun w => ?_, fun _ p np => ?_⟩
        · have e : cutP ds lo hi = ds := by
            unfold cutP
            rw [k2.length] at w
            rw [w.1, w.2]
            simp
          rw [e] at h3
          exact q3.dat en3 h3 (.tup k1 k2)
        · obtain ⟨en4, f4⟩ := en3.frz (o := .tup (cutV vs lo hi)) np
          have k4 : Dvs c.K F3 (cutV vs lo hi) (cutP ds lo hi) := by
            rw [ec]
            exact (k2.drop _).take _
          exact q3 _ _ S3 _ _ h3 en4 f4 (.dat (.tup upd_same (k4.up f4)))
/-! ### x in (a, b, ..) of ints; is None -/
theorem vr_inI {neg : Bool} {i : Int} {x : Pv} {is : List Int} (hx : Sq S x (is.map fun i => .dat (.int i))) (h : Φ (.dat (.bool (if neg then !(is.any fun j => decide (j = i)) else (is.any fun j => decide (j = i))))) S) : VR c ρ (rIn c.K neg) (.dat (.int i)) x S Φ := fun A B F H σ en er v u vx vy Q q => by
  cases vx with
  | dat a =>
    cases a
    have fin : ∀ (l : Addr) (vs : List V), (SqL c.K H l vs ∨ SqT c.K H l vs) → VsOK c.K B F (is.map fun i => .dat (.int i)) vs → rIn c.K neg (.int i) (.ref l) H Q := fun l vs hl hv => by
      have e : vs = is.map V.int := by
        have h1 := hv.dats (ds := is.map .int) (by rw [show (is.map fun b => Pv.dat (.int b)) = (is.map PyData.int).map .dat by rw [List.map_map]; rfl]; exact dats_map _)
        exact h1.ints
      subst e
      refine ⟨l, _, rfl, hl, rfl, ?_, ?_⟩
      · rw [List.all_eq_true]
        intro w hw
        obtain ⟨j, _, rfl⟩ := List.mem_map.mp hw
        exact rfl
      · have e2 : inV (.int i) (is.map V.int) = is.any fun j => decide (j = i) := by
          unfold inV
          rw [List.any_map]
          rfl
        rw [e2]
        exact q.dat en h (.bl _)
    rcases hx with hx | hx
    · obtain ⟨l, vs, rfl, hl, hv⟩ := hx.read en vy
      exact fin l vs (.inl hl) hv
    · obtain ⟨l, vs, rfl, hl, hv⟩ := hx.read vy
      exact fin l vs (.inr (hl H en.exB en.exF)) hv
/-- whether a slot holds None -/
def isNon : Pv → Bool
  | .dat .none => true
  | .rd .none => true
  | _ => false
theorem isNon_ok {K : PySem.W.Frag} {B F : Hp} {x : Pv} {v : V} (hv : ∀ w, x ≠ .val w) (h : VOK K B F x v) : decide (v = .non) = isNon x := by
  cases h with
  | dat a => cases a <;> simp [isNon]
  | bor _ _ => simp [isNon]
  | rd a => cases a <;> simp [isNon]
  | scr _ => simp [isNon]
  | val => exact absurd rfl (hv _)
  | tup _ _ => simp [isNon]
  | dic _ _ _ => simp [isNon]
theorem isNon_ref {l : Addr} : decide (V.ref l = .non) = isNon (ptr l) := by simp [isNon]
def NonOk : Pv → Prop
  | .val (.ref _) => True
  | .val _ => False
  | _ => True
theorem nonOk {K : PySem.W.Frag} {B F : Hp} {x : Pv} {v : V} (hv : NonOk x) (h : VOK K B F x v) : decide (v = .non) = isNon x := by
  cases h with
  | dat a => cases a <;> simp [isNon]
  | bor _ _ => simp [isNon]
  | rd a => cases a <;> simp [isNon]
  | scr _ => simp [isNon]
  | val =>
    cases v with
    | ref l => simp [isNon]
    | _ => exact hv.elim
  | tup _ _ => simp [isNon]
  | dic _ _ _ => simp [isNon]
theorem vr_isN {x : Pv} (hv : NonOk x) (h : Φ (.dat (.bool (isNon x))) S) : VR c ρ (fun x y H Q => y = V.non ∧ Q (.bl (decide (x = .non))) H) x (.dat .none) S Φ := fun A B F H σ en er v u vx vy Q q => by
  cases vy with
  | dat b => cases b; exact ⟨rfl, by rw [nonOk hv vx]; exact q.dat en h (.bl _)⟩
theorem vr_notN {x : Pv} (hv : NonOk x) (h : Φ (.dat (.bool (!isNon x))) S) : VR c ρ (fun x y H Q => y = V.non ∧ Q (.bl (!decide (x = .non))) H) x (.dat .none) S Φ := fun A B F H σ en er v u vx vy Q q => by
  cases vy with
  | dat b => cases b; exact ⟨rfl, by rw [nonOk hv vx]; exact q.dat en h (.bl _)⟩
end
theorem br_t {b : Bool} {P Q : Prop} (h : b = true) (hp : P) : (b = true → P) ∧ (b = false → Q) := ⟨fun _ => hp, fun z => by rw [h] at z; cases z⟩
theorem br_f {b : Bool} {P Q : Prop} (h : b = false) (hq : Q) : (b = true → P) ∧ (b = false → Q) := ⟨fun z => (by rw [h] at z; cases z), fun _ => hq⟩
theorem br_d {p : Prop} [Decidable p] {P Q : Prop} (h1 : p → P) (h2 : ¬ p → Q) : (decide p = true → P) ∧ (decide p = false → Q) := ⟨fun z => h1 (of_decide_eq_true z), fun z => h2 (of_decide_eq_false z)⟩
theorem br_n {p : Prop} [Decidable p] {P Q : Prop} (h1 : ¬ p → P) (h2 : p → Q) : ((!decide p) = true → P) ∧ ((!decide p) = false → Q) := ⟨fun z => h1 (of_decide_eq_false (by simpa using z)), fun z => h2 (of_decide_eq_true (by simpa using z))⟩
theorem ndt {p : Prop} [Decidable p] (h : ¬ p) : (!decide p) = true := by rw [decide_eq_false h]; rfl
theorem ndf {p : Prop} [Decidable p] (h : p) : (!decide p) = false := by rw [decide_eq_true h]; rfl
theorem tupP2 {a b : D} : tupP [.dat a, .dat b] = .dat (.tuple [a, b]) := rfl
theorem tupP_rd {a : D} {y : Pv} : tupP [.rd a, y] = .tup [.rd a, y] := rfl
theorem app_at {S : Store} (k : Nat) {l : Addr} {zs : List Pv} {p : Addr → Prop} (h : S[k]? = some (l, .lst zs)) (q : p l) : ∃ (k0 : Nat) (l' : Addr) (zs' : List Pv), ptr l = ptr l' ∧ S[k0]? = some (l', .lst zs') ∧ p l' := ⟨k, l, zs, rfl, h, q⟩
theorem atI_last_range {α : Type} (f : Nat → α) (i : Nat) : atI ((List.range (i + 1)).map f) (-1) = some (f i) := by
  rw [List.range_succ, List.map_append]
  exact atI_last _ _
theorem map_range_succ {α : Type} (f : Nat → α) (i : Nat) : (List.range (i + 1)).map f = (List.range i).map f ++ [f i] := by
  rw [List.range_succ, List.map_append]
  rfl
theorem rdP_none : rdP .none = .dat .none := rfl
theorem rdP_bool {b : Bool} : rdP (.bool b) = .dat (.bool b) := rfl
theorem rdP_int {i : Int} : rdP (.int i) = .dat (.int i) := rfl
theorem rdP_str {x : Str} : rdP (.str x) = .dat (.str x) := rfl
theorem rdP_list {ds : List D} : rdP (.list ds) = .rd (.list ds) := rfl
theorem rdP_tuple {ds : List D} : rdP (.tuple ds) = .rd (.tuple ds) := rfl
theorem le_and {n : Nat} {p : Prop} (h : n ≤ 100000) (hp : p) : n ≤ 100000 ∧ p := ⟨h, hp⟩
section
variable {c : Cn} {ρ : Slots} {S : Store} {Φ : Pv → Store → Prop} {tas : TA}
theorem ve_tupD (h : VA c ρ S tas fun xs S1 => xs.length ≤ 100000 ∧ ∃ ds, dats xs = some ds ∧ Φ (.dat (.tuple ds)) S1) : VE c ρ S (tTup tas) Φ := ve_tup fun A B F H σ en er Q q =>
  h A B F H σ en er Q fun xs vs S1 F1 H1 h1 en1 f1 vx => by
    obtain ⟨hl, ds, e, h1⟩ := h1
    refine q xs vs S1 F1 H1 ⟨hl, ?_⟩ en1 f1 vx
    unfold tupP
    rw [e]
    exact h1
theorem ve_lst0 (h : ∀ p, Φ (ptr p) ((p, .lst []) :: S)) : VE c ρ S (tLst tNil) Φ := ve_lst (va_nil ⟨rfl, Nat.zero_le _, h⟩)
theorem ve_lstE (h : VA c ρ S tas fun xs S1 => xs.length ≤ 100000 ∧ ∃ ds, dats xs = some ds ∧ Φ (.dat (.list ds)) S1) : VE c ρ S (tLst tas) Φ := ve_lstD fun A B F H σ en er Q q =>
  h A B F H σ en er Q fun xs vs S1 F1 H1 h1 en1 f1 vx => by
    obtain ⟨hl, ds, e, h1⟩ := h1
    exact q xs vs S1 F1 H1 ⟨ds, e, hl, h1⟩ en1 f1 vx
end
/-! ### the short words -/
/-- gives this data, makes no list -/
def Ret {α : Type} (f : α → D) : α → Pv → Store → Prop := fun p x S => x = .dat (f p) ∧ S = []
/-- raises nothing -/
abbrev nox {α : Type} : α → Value → Prop := fun _ _ => False
section
variable {c : Cn} {ρ : Slots} {S : Store} {Φ : Pv → Store → Prop} {α : Type} {args : α → List Ax} {pre : α → Prop} {E : XK} {xs : List Pv} {f : α → D}
theorem vc_ret (p : α) (ha : Paired (AxOf S) xs (args p)) (hp : pre p) (h : Φ (.dat (f p)) S) : VC c ρ (fun vs H Q => spW c.K args pre (Ret f) nox vs H Q E) xs S Φ :=
  vc_spW p ha hp (fun x S1 h1 => by obtain ⟨rfl, rfl⟩ := h1; exact h) (fun _ h => h.elim)
/-- a new list of new lists of frozen data -/
def NewLL {α : Type} (f : α → List (List D)) : α → Pv → Store → Prop := fun p x S => ∃ (l : Addr) (qs : List Addr), qs.length = (f p).length ∧ x = ptr l ∧ S = (l, Cell.lst (qs.map ptr)) :: qs.zip ((f p).map fun row => Cell.lst (row.map Pv.dat))
theorem vc_newLL {f : α → List (List D)} (p : α) (ha : Paired (AxOf S) xs (args p)) (hp : pre p) (h : ∀ (l : Addr) (qs : List Addr), qs.length = (f p).length → Φ (ptr l) ((l, Cell.lst (qs.map ptr)) :: qs.zip ((f p).map fun row => Cell.lst (row.map Pv.dat)) ++ S)) : VC c ρ (fun vs H Q => spW c.K args pre (NewLL f) nox vs H Q E) xs S Φ :=
  vc_spW p ha hp (fun x S1 h1 => by obtain ⟨l, qs, hl, rfl, rfl⟩ := h1; exact h l qs hl) (fun _ h => h.elim)
/-- a new list of frozen data -/
def NewL {α : Type} (f : α → List D) : α → Pv → Store → Prop := fun p x S => ∃ l, x = ptr l ∧ S = [(l, .lst ((f p).map .dat))]
theorem vc_new {f : α → List D} (p : α) (ha : Paired (AxOf S) xs (args p)) (hp : pre p) (h : ∀ l, Φ (ptr l) ((l, .lst ((f p).map .dat)) :: S)) : VC c ρ (fun vs H Q => spW c.K args pre (NewL f) nox vs H Q E) xs S Φ :=
  vc_spW p ha hp (fun x S1 h1 => by obtain ⟨l, rfl, rfl⟩ := h1; exact h l) (fun _ h => h.elim)
end
theorem fin_ret {α : Type} {f : α → D} {p : α} {d : D} {S : Store} (h : d = f p) : Fin (Ret f) p (.dat d) S := ⟨[], ⟨by rw [h], rfl⟩, rfl, .sub (List.nil_sublist S)⟩
theorem fin_new {α : Type} {f : α → List D} {p : α} {l : Addr} {xs : List Pv} {S : Store} (hk : (l, Cell.lst xs) ∈ S) (h : xs = (f p).map .dat) : Fin (NewL f) p (ptr l) S :=
  ⟨[(l, .lst xs)], ⟨l, rfl, by rw [h]⟩, rfl, .sub (List.singleton_sublist.mpr hk)⟩
/-! ### the rules that speak of the written part, with its name -/
section
variable {X : Cx} {K : PySem.W.Frag}
theorem ix_seqK (h : X.K = K) : IxR X (rIx K) := by subst h; exact ix_seq
theorem sl_cutK (h : X.K = K) : SlR X (rCut K) := by subst h; exact sl_cut
theorem op_plusK (h : X.K = K) : OpR X (binaryOp .Add) (rPlus K) := by subst h; exact op_plus
theorem op_eqK (h : X.K = K) (hu : X.A.units + 64 < cLine) : OpR X (compareOp .Eq) (rEqD K) := by subst h; exact op_eqD hu
theorem op_neK (h : X.K = K) (hu : X.A.units + 64 < cLine) : OpR X (compareOp .NotEq) (rNeD K) := by subst h; exact op_neD hu
theorem op_inK (h : X.K = K) : OpR X (compareOp .In) (rIn K false) := by subst h; exact op_in_seq
theorem op_notInK (h : X.K = K) : OpR X (compareOp .NotIn) (rIn K true) := by subst h; exact op_notIn_seq
theorem call_isiK (h : X.K = K) : CallR X (.builtin "isinstance") (rIsi K) := by subst h; exact call_isi
theorem call_lenK (h : X.K = K) : CallR X (.builtin "len") (fun xs H Q => ∃ p ys, xs = [V.ref p] ∧ (SqL K H p ys ∨ SqT K H p ys) ∧ Q (.int ys.length) H) := by subst h; exact call_len_seq
theorem call_listK (h : X.K = K) : CallR X (.type "list") (fun xs H Q => ∃ p ys, xs = [V.ref p] ∧ (SqL K H p ys ∨ SqT K H p ys) ∧ ∀ l, H l = none → Q (.ref l) (upd H l (.lst ys))) := by subst h; exact call_list_of
theorem call_tupleK (h : X.K = K) : CallR X (.type "tuple") (fun xs H Q => ∃ p ys, xs = [V.ref p] ∧ ((SqL K H p ys ∧ ∀ l, H l = none → Q (.ref l) (upd H l (.tup ys))) ∨ (SqT K H p ys ∧ Q (.ref p) H))) := by subst h; exact call_tuple_of
theorem cr_allK (h : X.K = K) (hc : X.calm = true) : CallR X (.builtin "all") (rAll K) := by subst h; exact cr_all hc
theorem cr_anyK (h : X.K = K) (hc : X.calm = true) : CallR X (.builtin "any") (rAny K) := by subst h; exact cr_any hc
theorem pe_revK (h : X.K = K) {e : Expr} {te : TE} {k : Nat} {p1 p2 p3 pos : Pos} (he : PE X e te) : PE X (.Subscript e (.Slice none none (some (.UnaryOp .USub (.Constant (.int 1) k p1) p2)) p3) pos) (tRevA K te) := by subst h; exact pe_revA he
theorem pe_bmK (h : X.K = K) {e : Expr} {T : String} {r : V → List V → Hp → VK → Prop} {to : TE} {t : TA} (he : PE X e (tBM X.K T r to t)) : PE X e (tBM K T r to t) := by subst h; exact he
theorem pe_bm0K (h : X.K = K) {e : Expr} {T : String} {r : V → List V → Hp → VK → Prop} {to : TE} (he : PE X e (tBM0 X.K T r to)) : PE X e (tBM0 K T r to) := by subst h; exact he
theorem pi_listK (h : X.K = K) {tg l : Expr} {tl : TE} (hl : PE X l tl) : PI X tg l (iList K tl) := by subst h; exact pi_list hl
theorem pi_tupK (h : X.K = K) {tg l : Expr} {tl : TE} (hl : PE X l tl) : PI X tg l (iTup K tl) := by subst h; exact pi_tup hl
theorem pi_zipK (h : X.K = K) {tg l : Expr} {ta : TA} (hl : PI X tg l (iZipA X.K ta)) : PI X tg l (iZipA K ta) := by subst h; exact hl
theorem pg_tupK (h : X.K = K) {e : Expr} {t : TGs} {n : Nat} (hg : PG X e (gTup X.K n t)) : PG X e (gTup K n t) := by subst h; exact hg
end
end Wt
/-! Data that may be compared; walking an own list of own lists. -/
namespace Wt
open PySem PySem.Spec PyProof.Rows L2 RZ
/-! ### data that may be compared -/
structure Fit (n : Nat) (d : D) : Prop where
  lay : d.canLay0 = true
  dep : d.depth ≤ n
mutual
theorem nod_lay : ∀ d : D, d.canLay0 = true → nod d = true
  | .none, _ => rfl
  | .bool _, _ => rfl
  | .int _, _ => rfl
  | .str _, _ => rfl
  | .list ds, h => nods_lay ds (by simpa [PyData.canLay0] using h)
  | .tuple ds, h => nods_lay ds (by simpa [PyData.canLay0] using h)
  | .dict _, h => by simp [PyData.canLay0] at h
theorem nods_lay : ∀ ds : List D, PyData.canLayAll0 ds = true → nods ds = true
  | [], _ => rfl
  | d :: ds, h => by
    have h' : d.canLay0 = true ∧ PyData.canLayAll0 ds = true := by simpa [PyData.canLayAll0] using h
    show (nod d && nods ds) = true
    rw [nod_lay d h'.1, nods_lay ds h'.2]
    rfl
end
theorem Fit.mono {n m : Nat} {d : D} (f : Fit n d) (h : n ≤ m) : Fit m d := ⟨f.lay, Nat.le_trans f.dep h⟩
theorem Fit.shaped {n : Nat} {d : D} (f : Fit n d) (h : n ≤ 64) : SeqAt.shaped d = true := by
  show (d.canLay0 && decide (d.depth ≤ 64)) = true
  rw [f.lay, decide_eq_true (Nat.le_trans f.dep h)]
  rfl
theorem fit_int {i : Int} : Fit 0 (.int i) := ⟨by simp [PyData.canLay0], by simp [PyData.depth]⟩
theorem fit_bool {i : Bool} : Fit 0 (.bool i) := ⟨by simp [PyData.canLay0], by simp [PyData.depth]⟩
theorem fit_all {n : Nat} : ∀ {ds : List D}, (∀ d ∈ ds, Fit n d) → PyData.canLayAll0 ds = true ∧ PyData.depthAll ds ≤ n
  | [], _ => ⟨by simp [PyData.canLayAll0], by simp [PyData.depthAll]⟩
  | d :: ds, h => by
    have h1 := h d List.mem_cons_self
    have h2 := fit_all (ds := ds) fun e he => h e (List.mem_cons_of_mem _ he)
    refine ⟨by simp [PyData.canLayAll0, h1.lay, h2.1], ?_⟩
    have := h1.dep
    simp only [PyData.depthAll]
    omega
theorem fit_list {n : Nat} {ds : List D} (h : ∀ d ∈ ds, Fit n d) : Fit (n + 1) (.list ds) := ⟨by simp [PyData.canLay0, (fit_all h).1], by have := (fit_all h).2; simp only [PyData.depth]; omega⟩
theorem fit_tup {n : Nat} {ds : List D} (h : ∀ d ∈ ds, Fit n d) : Fit (n + 1) (.tuple ds) := ⟨by simp [PyData.canLay0, (fit_all h).1], by have := (fit_all h).2; simp only [PyData.depth]; omega⟩
theorem fit_map {α : Type} {n : Nat} {f : α → D} (h : ∀ a, Fit n (f a)) (as : List α) : ∀ d ∈ as.map f, Fit n d := fun d hd => by
  obtain ⟨a, _, rfl⟩ := List.mem_map.mp hd
  exact h a
section
variable {c : Cn} {ρ : Slots} {S : Store} {Φ : Pv → Store → Prop} {te : TE} {P : Po} {t : TS} {g : TG}
theorem vr_eqF {x y : Pv} {d e : D} {n m : Nat} (hx : Da S x d) (hy : Da S y e) (f : Fit n d) (k : Fit m e) (h : Φ (.dat (.bool (PyData.eqv d e))) S) (hn : n ≤ 64 := by decide) (hm : m ≤ 64 := by decide) : VR c ρ (rEqD c.K) x y S Φ :=
  vr_eqX hx hy (nod_lay d f.lay) (nod_lay e k.lay) (f.shaped hn) (k.shaped hm) h
theorem vr_neF {x y : Pv} {d e : D} {n m : Nat} (hx : Da S x d) (hy : Da S y e) (f : Fit n d) (k : Fit m e) (h : Φ (.dat (.bool (!PyData.eqv d e))) S) (hn : n ≤ 64 := by decide) (hm : m ≤ 64 := by decide) : VR c ρ (rNeD c.K) x y S Φ :=
  vr_neX hx hy (nod_lay d f.lay) (nod_lay e k.lay) (f.shaped hn) (k.shaped hm) h
/-- alike -/
theorem vr_eqS {x y : Pv} {d : D} {n : Nat} (hx : Da S x d) (hy : Da S y d) (f : Fit n d) (h : Φ (.dat (.bool true)) S) (hn : n ≤ 64 := by decide) : VR c ρ (rEqD c.K) x y S Φ :=
  vr_eqF hx hy f f (by rw [SeqAt.eqv_refl d f.lay]; exact h) hn hn
theorem vr_neS {x y : Pv} {d : D} {n : Nat} (hx : Da S x d) (hy : Da S y d) (f : Fit n d) (h : Φ (.dat (.bool false)) S) (hn : n ≤ 64 := by decide) : VR c ρ (rNeD c.K) x y S Φ :=
  vr_neF hx hy f f (by rw [SeqAt.eqv_refl d f.lay]; exact h) hn hn
/-! ### an own list lent to an expression, which only reads it -/
theorem ve_lend (k i : Nat) {l : Addr} {xs : List Pv} (hk : S[k]? = some (l, Cell.lst xs)) (hi : ρ[i]? = some (some (ptr l))) (h : VE c (ρ.set i (some (.bor xs))) (S.eraseIdx k) te fun x S1 => nob x = true ∧ Φ x ((l, Cell.lst xs) :: S1)) : VE c ρ S te Φ := fun A B F H σ en er Q q => by
  obtain ⟨nB, nF, vs, hl, hv⟩ := en.st _ (List.mem_of_getElem? hk)
  have b2 : Same B (upd B l (.lst vs)) := same_new nB
  have hne : ∀ p ∈ S.eraseIdx k, p.1 ≠ l := fun p hp z => by
    obtain ⟨j, hjk, hj⟩ := List.mem_eraseIdx_iff_getElem?.mp hp
    exact hjk (nodup_idx en.nd (show S[j]? = some (l, p.2) by rw [hj, ← z]) hk)
  obtain ⟨v, e, hv0⟩ := en.get hi
  cases hv0
  have hlt : i < σ.length := (List.getElem?_eq_some_iff.mp e).1
  have es : σ.set i (some (.ref l)) = σ := by
    apply List.ext_getElem?
    intro j
    by_cases hj : i = j
    · subst hj
      rw [List.getElem?_set_self hlt, e]
    · rw [List.getElem?_set_ne hj]
  have en2 : EnvOK c.K A (upd B l (.lst vs)) F H ρ (S.eraseIdx k) σ := by
    refine ⟨fun a o e => ?_, en.exF, en.af, fun a o e => ?_, paired_mono (fun _ _ h => h.mono b2 (Same.refl F)) en.sl, fun p hp => ?_, ((List.eraseIdx_sublist S k).map (·.1)).nodup en.nd, en.fk⟩
    · by_cases z : a = l
      · subst z; rw [upd_same] at e; rw [hl]; exact e
      · rw [upd_ne z] at e; exact en.exB _ _ e
    · have z : a ≠ l := ne_of_none e nF
      rw [upd_ne z]
      exact en.fr _ _ e
    · obtain ⟨z1, z2, z3⟩ := en.st p (List.mem_of_mem_eraseIdx hp)
      exact ⟨by rw [upd_ne (hne p hp)]; exact z1, z2, z3⟩
  have en3 := en2.set (i := i) (.bor (upd_same) (hv.hp (B := upd B l (.lst vs))))
  rw [es] at en3
  refine h A _ F H σ en3 (fun C Hx hx s => er C Hx hx (b2.trans s)) _ fun x v S1 F1 H1 h1 en4 f1 vx => ?_
  have nF1 : F1 l = none := by
    cases z : F1 l with
    | none => rfl
    | some o =>
      rcases en4.fr _ _ z with z1 | z1 | ⟨zs, z1⟩
      · rw [en.af _ _ z1] at nF; cases nF
      · rw [upd_same] at z1; cases z1
      · have z2 := en4.exF _ _ z
        rw [en4.exB _ _ upd_same, z1] at z2
        cases z2
  refine q x v _ F1 H1 h1.2 ⟨b2.trans en4.exB, en4.exF, en4.af, fun a o e => ?_, paired_mono (fun _ _ h => h.mono (Same.refl B) f1) en.sl, fun p hp => ?_, ?_, en4.fk⟩ f1 (vx.nob h1.1).hp
  · rcases en4.fr _ _ e with z | z | z
    · exact .inl z
    · by_cases za : a = l
      · subst za; exact .inr (.inl nB)
      · rw [upd_ne za] at z; exact .inr (.inl z)
    · exact .inr (.inr z)
  · rcases List.mem_cons.mp hp with z | hp
    · subst z
      exact ⟨nB, nF1, vs, en4.exB _ _ upd_same, hv.up f1⟩
    · obtain ⟨z1, z2, z3⟩ := en4.st p hp
      refine ⟨?_, z2, z3⟩
      by_cases za : p.1 = l
      · rw [za]; exact nB
      · rw [upd_ne za] at z1; exact z1
  · rw [List.map_cons, List.nodup_cons]
    refine ⟨fun hm => ?_, en4.nd⟩
    obtain ⟨p, hp, z⟩ := List.mem_map.mp hm
    obtain ⟨z1, _⟩ := en4.st p hp
    rw [show p.1 = l from z, upd_same] at z1
    cases z1
/-! ### own lists of own lists -/
theorem das_zip : ∀ {qs : List Addr} {rows : List (List D)}, qs.length = rows.length → (∀ p ∈ qs.zip (rows.map fun r => Cell.lst (r.map Pv.dat)), p ∈ S) → Das S (qs.map ptr) (rows.map .list)
  | [], [], _, _ => .nil
  | [], _ :: _, h, _ => by cases h
  | _ :: _, [], h, _ => by cases h
  | q :: qs, r :: rs, h, hs => .cons (.own (hs _ List.mem_cons_self) (Das.dats r)) (das_zip (Nat.succ.inj h) fun p hp => hs p (List.mem_cons_of_mem _ hp))
theorem da_LL {l : Addr} {qs : List Addr} {rows : List (List D)} (hl : (l, Cell.lst (qs.map ptr)) ∈ S) (hq : qs.length = rows.length) (hs : ∀ p ∈ qs.zip (rows.map fun r => Cell.lst (r.map Pv.dat)), p ∈ S) : Da S (ptr l) (.list (rows.map .list)) := .own hl (das_zip hq hs)
theorem vs_ptrs {K : PySem.W.Frag} {B F : Hp} : ∀ {qs : List Addr} {vs : List V}, VsOK K B F (qs.map ptr) vs → vs = qs.map V.ref
  | [], _, h => by cases h; rfl
  | q :: qs, _, h => by
    cases h with
    | cons h1 h2 =>
      cases h1
      rw [vs_ptrs h2]
      rfl
/-- over an own list of own lists: it stays as it is -/
theorem vs_forP (h : VE c ρ S te fun x S1 => ∃ (l : Addr) (qs : List Addr), x = ptr l ∧ ∃ I : Nat → Slots → Store → Prop, I 0 ρ S1 ∧ (∀ i ρ1 S2, I i ρ1 S2 → (l, Cell.lst (qs.map ptr)) ∈ S2) ∧
      (∀ i q ρ1 S2, qs[i]? = some q → I i ρ1 S2 → VG c g (ptr q) ρ1 S2 fun ρ2 S3 => VS c ρ2 S3 t { n := I (i + 1), r := P.r, b := P.n, k := I (i + 1) }) ∧ (∀ ρ1 S2, I qs.length ρ1 S2 → P.n ρ1 S2)) :
    VS c ρ S (tFor (iList c.K te) g t) P := fun A B F H σ en er D d => by
  refine h A B F H σ en er _ fun x v S1 F1 H1 h1 en1 f1 vx => ?_
  obtain ⟨l, qs, rfl, I, h0, hm, hs, hd⟩ := h1
  cases vx
  have look : ∀ {i ρ' S' F' H' σ'}, I i ρ' S' → EnvOK c.K A B F' H' ρ' S' σ' → SqL c.K H' l (qs.map V.ref) := fun {i ρ' S' F' H' σ'} hI en' => by
    obtain ⟨_, _, vs, e1, e2⟩ := en'.st _ (hm _ _ _ hI)
    rw [vs_ptrs e2] at e1
    exact sqL_of e1
  refine ⟨l, rfl, ⟨_, look h0 en1⟩, ?_⟩
  have el : (qs.map V.ref).length = qs.length := List.length_map _
  refine for_it (walk_list (K := c.K) (a := l) (xs := qs.map V.ref)) (fun i σ' H' => ∃ ρ' S' F', I i ρ' S' ∧ EnvOK c.K A B F' H' ρ' S' σ' ∧ Same F1 F') ⟨ρ, S1, F1, h0, en1, Same.refl F1⟩ (fun i σ' H' _ ⟨_, _, F', hI, en', f'⟩ => look hI en') ?_ ?_
  · rintro i v σ' H' H'' hi ⟨ρ', S', F', hI, en', f'⟩ ⟨rfl, e⟩
    rw [List.getElem?_map] at e
    cases e2 : qs[i]? with
    | none => rw [e2] at e; cases e
    | some q =>
      rw [e2] at e
      cases e
      refine hs i q ρ' S' e2 hI A B F' _ σ' _ en' er .val _ fun ρ3 S3 F3 H3 σ3 p en3 f3 => ?_
      refine p A B F3 H3 σ3 en3 er _ ⟨?_, ?_, ?_, ?_⟩
      · exact fun ρ4 S4 F4 H4 σ4 p4 en4 f4 => ⟨ρ4, S4, F4, p4, en4, f'.trans (f3.trans f4)⟩
      · exact fun x v ρ4 S4 F4 H4 σ4 p4 en4 f4 vx => d.rt x v ρ4 S4 F4 H4 σ4 p4 en4 ((f1.trans f').trans (f3.trans f4)) vx
      · exact fun ρ4 S4 F4 H4 σ4 p4 en4 f4 => d.nx ρ4 S4 F4 H4 σ4 p4 en4 ((f1.trans f').trans (f3.trans f4))
      · exact fun ρ4 S4 F4 H4 σ4 p4 en4 f4 => ⟨ρ4, S4, F4, p4, en4, f'.trans (f3.trans f4)⟩
  · rintro σ' H' ⟨ρ', S', F', hI, en', f'⟩
    rw [el] at hI
    exact d.nx ρ' S' F' H' σ' (hd ρ' S' hI) en' (f1.trans f')
end
end Wt
set_option maxHeartbeats 4000000
/-! Within an except suite: a comprehension over a range; isinstance of the caught error in a def that is called there. -/
namespace Wt
open PySem PySem.Spec PyProof.Rows L2 L2H RZ
/-- the comprehension's block, with the handled error pinned -/
abbrev HotB (X : Cx) (s : Shared) (H : Hp) (sc : Scope) (C : Addr) (cl : List (Str × Addr)) (fp : List Addr) (p : Addr × Obj) : Cx :=
  (X.blk s H sc (compEnvC sc cl C X.env) fp).tr ([] ++ [p]) fun _ _ => False
section
variable {X : Cx} {elt tg src : Expr} {sc : Scope} {own : List (Str × Nat)} {at0 : Pos} {wi : TI} {g : TG} {te : TE}
theorem pe_lcH (hot : HotC X) (nd : X.N.Nodup) (hi : PIH X tg src wi) (bk : BlkOk X.N X.env.scope sc own)
    (hg : ∀ (s : Shared) (H : Hp) (C : Addr) (cl : List (Str × Addr)) (fp : List Addr) (p : Addr × Obj), PG (HotB X s H sc C cl fp p) tg g)
    (he : ∀ (s : Shared) (H : Hp) (C : Addr) (cl : List (Str × Addr)) (fp : List Addr) (p : Addr × Obj), PE (HotB X s H sc C cl fp p) elt te)
    (hfold : ∀ x, foldedSetIterable src X.env x = pure x := by intro _; rfl) :
    PE X (.ListComp elt [⟨tg, src, [], 0⟩] sc at0) (tLc wi g tYes te (own.map (·.2))) := by
  constructor
  intro pins s σ H Q inv want
  obtain ⟨p, isHot, inPn⟩ := hot
  have caps : ∀ y ∈ sc.names, y.2 = .free → ∃ c, X.env.cells.lookup y.1 = some c := by
    intro y hy e
    exact (bk.free y hy e).elim (fun k => inv.ok.has _ (.inl k)) fun k => inv.ok.has _ (.inr k)
  rw [eval_ListComp]
  apply wpAny_comprehension_free (use := none) rfl hfold (closure_ok caps) bk.kind
  · intro y hy e
    rw [bk.uniq y hy, e]
  apply thn (hi.run pins s σ H _ inv want)
  intro _ sA got
  apply thn got
  rintro _ sB ⟨itr, fp, tn, J, HB, rfl, invB, turns, atB, okB, runs⟩
  apply wpAny_newObj_type
  · apply newEnv_comp
    obtain ⟨L, eL⟩ : ∃ L, L = sB.heap.objs.size := ⟨_, rfl⟩
    have freeL : HB L = none := invB.hok.fresh (by omega)
    rw [← eL]
    obtain ⟨Go, ⟨m0, go0⟩, step⟩ := runs L freeL
    -- the list is there
    suffices key : ∀ sC : Shared, sC = { sB with heap := sB.heap.push { cls := .type "list", data := .seq ([] : List Value).toArray } } →
        codeAny (model X.prog X.w) X.A (.compStart (.ListComp elt [⟨tg, src, [], 0⟩] sc at0) 0 (.ref itr) (.ref L) (compEnvC sc (cellsFrom (sC.heap.objs.size + 1) sc.names (cloFrom X.env.cells sc.names [])) sC.heap.objs.size X.env))
          (compPost (model X.prog X.w) X.A X.xe none (EP X pins σ Q) (.ref L) sC.heap.objs.size) { sC with heap := pushCells (sC.heap.push { cls := .type "dict", data := .dict #[] }) sc.names } from key _ rfl
    intro sC eC
    have keepC : ∀ b o, sB.heap.get? b = some o → sC.heap.get? b = some o := by
      intro b o e
      rw [eC]
      exact Heap.get?_push_of_some _ e
    have sizeC : sC.heap.objs.size = sB.heap.objs.size + 1 := by
      rw [eC]
      exact Heap.size_push _ _
    have invC : Inv X pins σ (upd HB L (.lst [])) sC := by
      rw [eC]
      apply invB.laid (t' := sB.toks) (fun b o e => Heap.get?_push_of_some _ e) (Nat.le_of_eq eL.symm)
      refine ⟨Nat.zero_le _, [], 0, .nil, ?_⟩
      rw [eL]
      exact Heap.get?_push_size _ rfl
    have under : ∀ b ∈ fp, b < sB.heap.objs.size := by
      intro b hb
      obtain ⟨_, e, _⟩ := turns.obj _ _ atB b hb
      exact Heap.lt_size e
    have okC : ∀ b ∈ fp, FpOk X pins (upd HB L (.lst [])) b ∧ b < sC.heap.objs.size := by
      intro b hb
      have lt := under b hb
      obtain ⟨z0, z⟩ := okB b hb
      refine ⟨⟨?_, z⟩, by rw [sizeC]; exact Nat.lt_succ_of_lt lt⟩
      rw [upd_ne fun e => absurd lt (by rw [e, eL]; exact Nat.lt_irrefl _)]
      exact z0
    have atC : tn 0 sC.heap := turns.keep _ _ _ atB fun b _ o e => keepC b o e
    have inv0 := block_start invC bk nd okC
    have pg := fun cl => hg sC (upd HB L (.lst [])) sC.heap.objs.size cl fp p
    have pe := fun cl => he sC (upd HB L (.lst [])) sC.heap.objs.size cl fp p
    have freeC : ∀ b ∈ fp, (upd HB L (.lst [])) b = none := fun b hb => (okC b hb).1.1
    have pinC := invC.pin p (List.mem_append_left _ inPn)
    generalize eE : compEnvC sc (cellsFrom (sC.heap.objs.size + 1) sc.names (cloFrom X.env.cells sc.names [])) sC.heap.objs.size X.env = cE at inv0 ⊢
    have atE : cE.locals = sC.heap.objs.size := by rw [← eE]; rfl
    have pg1 := pg (cellsFrom (sC.heap.objs.size + 1) sc.names (cloFrom X.env.cells sc.names []))
    have pe1 := pe (cellsFrom (sC.heap.objs.size + 1) sc.names (cloFrom X.env.cells sc.names []))
    unfold HotB at pg1 pe1
    rw [eE] at pg1 pe1
    generalize eH : upd HB L (.lst []) = HC at invC inv0 pg1 pe1 go0 freeC okC pinC
    generalize eD : ({ sC with heap := pushCells (sC.heap.push { cls := .type "dict", data := .dict #[] }) sc.names } : Shared) = sD at inv0 ⊢
    have keepD : ∀ b o, sC.heap.get? b = some o → sD.heap.get? b = some o := by
      intro b o e
      rw [← eD]
      exact pushCells_keeps _ _ _ _ (Heap.get?_push_of_some _ e)
    have atD : tn 0 sD.heap := turns.keep _ _ _ atC fun b _ o e => keepD b o e
    have inv1 : Inv ((X.blk sC HC sc cE fp).tr ([] ++ [p]) fun _ _ => False) [] (wipe σ (own.map (·.2))) HC sD := by
      have q : Inv (X.blk sC HC sc cE fp) [p] (wipe σ (own.map (·.2))) HC sD := by
        apply inv0.pins_of
        intro q hq
        rw [List.mem_singleton.mp hq]
        refine ⟨keepD _ _ pinC.1, pinC.2.1, ?_, fun hm => ?_, pinC.2.2.2.2⟩
        · show p.1 ≠ cE.locals
          rw [atE]
          exact Nat.ne_of_lt (Heap.lt_size pinC.1)
        · exact (List.mem_cons.mp (invC.stkSub p.1 hm)).elim pinC.2.2.1 pinC.2.2.2.1
      exact q.toTry _
    have isHotY : HotC ((X.blk sC HC sc cE fp).tr ([] ++ [p]) fun _ _ => False) := ⟨p, isHot, List.mem_singleton_self p⟩
    have fine : ∀ {σ' : L2.St} {H' : Hp} {s' : Shared}, Inv ((X.blk sC HC sc cE fp).tr ([] ++ [p]) fun _ _ => False) [] σ' H' s' → (∀ b ∈ fp, H' b = none) → ∀ b ∈ fp, FpOk ((X.blk sC HC sc cE fp).tr ([] ++ [p]) fun _ _ => False) [] H' b := by
      intro σ' H' s' I hn b hb
      refine ⟨hn b hb, (I.ok.exf b hb).1, I.ok.exfs b hb, .inl hb, fun x c e => (I.ok.exf b hb).2 x c e, fun q hq => ?_⟩
      rw [List.mem_singleton.mp (show q ∈ [p] from by simpa using hq)]
      exact (okC b hb).1.2.2.2.2.2 p (List.mem_append_left _ inPn)
    suffices loop : codeAny (model X.prog X.w) X.A (.compLoop (.ListComp elt [⟨tg, src, [], 0⟩] sc at0) 0 (.ref itr) (.ref L) cE) (compPost (model X.prog X.w) X.A X.xe none (EP X pins σ Q) (.ref L) sC.heap.objs.size) sD from
      codeAny_compStart_list loop (turns.self _ 0 _ _ _ atD loop)
    apply compLoop_any (fun n s' => ∃ i H', Inv ((X.blk sC HC sc cE fp).tr ([] ++ [p]) fun _ _ => False) [] (wipe σ (own.map (·.2))) H' s' ∧ tn i s'.heap ∧ (∀ b ∈ fp, H' b = none) ∧ Go i n H') ?_ m0 ⟨0, HC, inv1, atD, freeC, go0⟩
    rintro n sE ⟨i, HE, invE, tE, nE, goE⟩
    cases step i n HE goE with
    | inl over =>
      apply thnF (turns.done ((X.blk sC HC sc cE fp).tr ([] ++ [p]) fun _ _ => False) rfl rfl rfl isHotY i [] sE _ HE (fun _ _ => False) invE (fine invE nE) tE over.1)
      rintro _ sF ⟨rfl, invF⟩
      have back : Inv X pins σ HE sF := by
        apply invC.call' (ch := fp) invF.os invF.base invF.hok invF.bare
        intro b hb
        obtain ⟨_, z1, _, z3, z4, z5⟩ := (okC b hb).1
        exact ⟨z3, z1, z4, z5⟩
      have gone : HE sC.heap.objs.size = none := by
        rw [← atE]
        exact invF.free
      obtain ⟨names, ns, _⟩ := invF.loc
      obtain ⟨k0, k1, _, k3, k4, k5⟩ := invC.fpOk (Nat.le_refl _) gone
      refine ⟨names, by rw [← atE]; exact ns, ?_⟩
      intro heap' same
      exact ⟨.ref L, HE, back.turned (t' := sF.toks) (fun b o hb e => (same.2 b hb).trans e) k0 k1 k3 k4 k5, rfl, over.2⟩
    | inr more =>
      obtain ⟨goes, Nx, less, take⟩ := more
      apply thnF (turns.item ((X.blk sC HC sc cE fp).tr ([] ++ [p]) fun _ _ => False) rfl rfl rfl isHotY i [] sE _ HE (fun _ _ => False) invE (fine invE nE) tE goes)
      rintro _ sF ⟨u, rfl, itemF⟩
      apply thnF itemF
      rintro _ sG ⟨x, HG, invG, rx, yx, tG, nG⟩
      apply thnF (pg1.run _ sG _ HG x u _ (invG.pinned (fine invG nG) (turns.obj _ _ tG)) rx (take x HG yx))
      rintro _ sK ⟨σK, HK, invK, hid, afterK⟩
      apply thnF ((pts_nil (X := (X.blk sC HC sc cE fp).tr ([] ++ [p]) fun _ _ => False)).run _ sK σK HK _ invK afterK)
      rintro b sM ⟨HM, invM, afterM⟩
      have close : ∀ {sZ : Shared} {HZ : Hp}, Inv ((X.blk sC HC sc cE fp).tr ([] ++ [p]) fun _ _ => False) ([] ++ pinsAt fp sG.heap) σK HZ sZ → Nx HZ →
          ∃ m, m < n ∧ ∃ i H', Inv ((X.blk sC HC sc cE fp).tr ([] ++ [p]) fun _ _ => False) [] (wipe σ (own.map (·.2))) H' sZ ∧ tn i sZ.heap ∧ (∀ b ∈ fp, H' b = none) ∧ Go i m H' := by
        intro sZ HZ invZ nx
        obtain ⟨m, lt, goZ⟩ := less HZ nx
        have stay : ∀ b ∈ fp, ∀ o, sG.heap.get? b = some o → sZ.heap.get? b = some o ∧ HZ b = none := by
          intro b hb o e
          have z := invZ.pin (b, o) (List.mem_append_right _ (List.mem_append_right _ (mem_pinsAt hb e)))
          exact ⟨z.1, z.2.1⟩
        refine ⟨m, lt, i + 1, HZ, ?_, turns.keep _ _ _ tG fun b hb o e => (stay b hb o e).1, ?_, goZ⟩
        · apply (invZ.unpinned (pins := [])).weak
          · rw [← hid, wipe_length]
          · intro j v e
            rw [← hid] at e
            exact (L2.wipe_some e).1
        · intro b hb
          obtain ⟨o, e, _⟩ := turns.obj _ _ tG b hb
          exact (stay b hb o e).2
      cases b with
      | false =>
        rw [if_neg Bool.false_ne_true] at afterM ⊢
        exact close invM afterM
      | true =>
        rw [if_pos rfl] at afterM ⊢
        apply thnF (pe1.run _ sM σK HM _ invM afterM)
        rintro _ sN ⟨y, HN, invN, ry, sofar, atL, few, nx⟩
        exact app_ok (X := (X.blk sC HC sc cE fp).tr ([] ++ [p]) fun _ _ => False) invN atL few ry fun sZ invZ => close invZ nx
  · show 0 ≤ sizeLine
    decide
/-! ### a def that is called there, p the handled error -/
structure FnP (P : Program) (w : World) (K : PySem.W.Frag) (mg : Str → Option Value) (base : Heap) (k : Nat) (f : Addr) (fd : FuncData) (ps : List Str) (sp : Sp) (p : Addr × Obj) : Prop where
  len : ∀ vs H Q E, sp vs H Q E → vs.length = ps.length
  run : ∀ (A : Around) (outer : List Env) (s : Shared) (H : Hp) (args : Args) (us : List Value) (vs : List V) (Q : VK) (E : XK),
    RoomH k A → Hot1 A p → PinOk outer H s p → Env0 P w K mg base A outer s H → BindsTo s fd args (ps.zip us) → Vals vs us → sp vs H Q E →
      codeAny (model P w) A (.call (.ref f) args) (CR CX0 outer P w H s Q E) s
end
section
variable {P : Program} {w : World} {K : PySem.W.Frag} {mg : Str → Option Value} {base : Heap} {k : Nat} {f : Addr} {name qual : Str} {ar : Arguments} {body : List Stmt} {sc : Scope} {x1 x2 x3 x4 x5 cdv cT : Value} {x6 x7 : Option Addr} {osl : Array (Option Value)}
  {N ps : List Str} {sp : Sp} {p : Addr × Obj}
theorem fn_ofP (lk : K.lookup f = some ⟨x1, x6, .func (PySem.W.fnOf name qual ar body sc x2 x3 x4 x5 x7 cdv cT), osl⟩) (hcd : PySem.W.codeIn K cdv qual = true) (S : FnScope N ps sc) (len : ∀ vs H Q E, sp vs H Q E → vs.length = ps.length)
    (made : ∀ (A : Around) (outer : List Env) (s : Shared) (H : Hp) (vs : List V) (Q : VK) (E : XK), Hot1 A p → RoomH k (A.deeper (envOfC qual sc s.heap.objs.size f cdv)) → sp vs H Q E →
      ∃ t, PSs (cxH CX0 P w K mg base N qual sc f cdv A outer s H E p) body t ∧ t { nx := fun _ H' => Q .non H', rt := Q } (L2.start N vs) H) :
    FnP P w K mg base (k + 1) f (PySem.W.fnOf name qual ar body sc x2 x3 x4 x5 x7 cdv cT) ps sp p := by
  constructor
  · exact len
  intro A outer s H args us vs Q E room isHot pinned around binds vals asks
  have there : K.In s.heap := around.mod.kin.keeps fun b o e => (around.bs b o e).1
  have wide : s.heap.NoLimit := around.mod.nolimit.keeps fun b o e => (around.bs b o e).1
  apply codeAny_call_function room.depth (there _ _ lk) rfl S.co S.gen rfl (PySem.W.codeRec_of there hcd)
  apply binds
  apply wpAny_newFunctionEnv_cells S.kind
  · rintro ⟨n, v⟩ hy
    rcases S.par n (List.of_mem_zip hy).1 with q | q
    · exact .inl q
    · exact .inr ⟨q, PySem.W.cellsFrom_some _ _ _ (.inl q)⟩
  rintro _ rfl s1 called
  refine ⟨wide.keeps called.toInCall.keep, codeAny_func ?_⟩
  obtain ⟨t, derived, reads⟩ := made A outer s H vs Q E isHot (room.deeper _) asks
  have inv := inv_startH (CX := CX0) (P := P) (w := w) (K := K) (mg := mg) (base := base) (E := E) (cd := cdv) (f := f) S pinned around (len _ _ _ _ asks) vals called
  refine wpAny_mono (derived.run [] s1 (L2.start N vs) H _ inv reads) ?_ fun _ _ h => h
  intro how s2 h
  cases how with
  | next =>
    obtain ⟨_, H', J, q⟩ := h
    exact ⟨.non, H', J.os, J.bare, J.base, J.hok, rfl, q⟩
  | ret u =>
    obtain ⟨v, _, H', J, rv, q⟩ := h
    exact ⟨v, H', J.os, J.bare, J.base, J.hok, rv, q⟩
  | brk =>
    obtain ⟨_, _, _, q⟩ := h
    exact q.elim
  | cont =>
    obtain ⟨_, _, _, q⟩ := h
    exact q.elim
end
section
variable {X : Cx} {k : Nat} {f : Addr} {fd : FuncData} {ps : List Str} {sp : Sp} {x : Str} {q0 at0 : Pos} {e : Expr} {es : List Expr} {t : TA} {p : Addr × Obj} {D : Addr}
theorem pe_callP (F : FnP X.prog X.w X.K X.mg X.base k f fd ps sp p) (room : RoomH k X.A) (isHot : Hot1 X.A p) (inPn : p ∈ X.pn) (hg : Gl X x) (hm : X.mg x = some (.ref f)) (kp : PySem.W.keepIn X.K (.ref f) = true) (hb : Binds X.K fd ps []) (ha : PA X (e :: es) t)
    (hdb : (x == ("__debug__" : Str)) = false := by decide) (he : starEach (e :: es) X.env = (false, eval e X.env) :: starEach es X.env := by rfl) (hpl : (backTo at0 (starEach es X.env)).any (·.1) = false := by rfl) :
    PE X (.Call (.Name x q0) (e :: es) [] at0) (tCall sp [] E0 t) := by
  constructor
  intro pins s σ H Q inv want
  apply wpAny_Call_Name_kw
  apply ld_glob inv hg hm ?_ hdb
  apply PySem.W.callWith_K (h₀ := X.base) inv.ok.mod.kin kp ?_ he hpl
  apply thn (ha.run at0 pins s σ H _ inv want)
  rintro us s1 ⟨vs, H1, inv1, rel, asks⟩
  refine ⟨inv1.kIn, ?_⟩
  have asks : sp vs H1 Q E0 := by
    have z : sp (vs ++ []) H1 Q E0 := asks
    rw [List.append_nil] at z
    exact z
  have count : us.length = ps.length := by rw [← rel.length]; exact F.len _ _ _ _ asks
  have binds := hb s1 us inv1.kIn (by rw [List.append_nil]; exact count)
  rw [List.append_nil] at binds
  have stand := inv1.pin p (List.mem_append_left _ inPn)
  have pinned : PinOk X.stack H1 s1 p := ⟨stand.1, stand.2.1, fun hm => (List.mem_cons.mp (inv1.stkSub p.1 hm)).elim stand.2.2.1 stand.2.2.2.1, stand.2.2.2.2⟩
  apply wpAny_call
  apply codeAny_mono (F.run X.A X.stack s1 H1 ⟨us, []⟩ us vs Q E0 room isHot pinned inv1.env0 binds rel asks)
  intro r s2 hq
  cases r with
  | error e => exact hq.elim
  | ok how =>
    cases how with
    | ret u => exact inv1.after hq
    | next => exact hq.elim
    | brk => exact hq.elim
    | cont => exact hq.elim
/-- isinstance of the error that is pinned -/
theorem call_isP (C : ExcC X.K D) (inPn : p ∈ X.pn) (hc : p.2.cls = .ref D) (hd : p.2.dict = none) (hf : ∃ vs, p.2.data = .fields vs) : CallR X (.builtin "isinstance") (rIsE X.K D p.1) := by
  intro pins s σ H xs us Q inv rel asks
  obtain ⟨c, cv, b, rfl, one, yes, q⟩ := asks
  cases rel with
  | cons rx rr =>
    cases rr with
    | cons rt rr =>
      cases rr
      cases rx
      obtain rfl := one _ rt
      have stand := (inv.pin p (List.mem_append_left _ inPn)).1
      obtain ⟨vs, hv⟩ := hf
      have inst : PySem.W.InstAt s.heap p.1 p.2 D none := by
        rcases p with ⟨a, ⟨k1, k2, k3, k4⟩⟩
        dsimp only at hc hd hv stand
        subst hc hd hv
        exact ⟨stand, rfl, rfl, trivial⟩
      exact PySem.W.kia_one (PySem.W.handS_kitx_exc C.hg C.hk C.hs C.hd C.ha C.hn C.ht C.hm) inv.kIn inst yes (fun z => nomatch z) fun tk => ⟨.bl b, H, inv.kept (t' := tk) fun _ _ z => z, rfl, q⟩
end
section
variable {c : Cn} {ρ : Slots} {S : Store} {Φ : Pv → Store → Prop} {D a : Addr}
theorem vc_isE {C : Addr} {b : Bool} (hk : PySem.W.kitOne c.K (.ref D) (.ref C) = some b) (h : Φ (.dat (.bool b)) S) : VC c ρ (rIsE c.K D a) [ptr a, .val (.ref C)] S Φ := fun A B F H σ en er vs vx Q q => by
  cases vx with
  | cons v1 v2 => cases v2 with
    | cons v2 v3 =>
      cases v3; cases v1; cases v2
      exact ⟨.ref C, .ref C, b, rfl, fun u r => r, hk, q.dat en h (.bl _)⟩
theorem vc_isEb {n : String} {b : Bool} (hk : PySem.W.kitOne c.K (.ref D) (.type n) = some b) (h : Φ (.dat (.bool b)) S) : VC c ρ (rIsE c.K D a) [ptr a, .val (.ty n)] S Φ := fun A B F H σ en er vs vx Q q => by
  cases vx with
  | cons v1 v2 => cases v2 with
    | cons v2 v3 =>
      cases v3; cases v1; cases v2
      exact ⟨.ty n, .type n, b, rfl, fun u r => r, hk, q.dat en h (.bl _)⟩
end
end Wt
set_option maxHeartbeats 4000000
/-! What is raised, and caught. -/
namespace Wt
open PySem PySem.Spec PyProof.Rows L2 L2H RZ
/-! ### classes of the program's own -/
section
variable {K : PySem.W.Frag} {D C : Addr} {b : Bool}
theorem kit_ref (hself : PySem.W.subIn K (.ref D) (.ref D) = some true) (hi : PySem.W.isClsIn K C = true) (ht : PySem.W.typeIn K (.ref C) = some (.type "type")) (hs : PySem.W.subIn K (.ref D) (.ref C) = some b) : PySem.W.kitOne K (.ref D) (.ref C) = some b := by
  unfold PySem.W.kitOne
  by_cases e : D = C
  · subst e
    rw [hself] at hs
    rw [if_pos (beq_self_eq_true _)]
    exact hs
  · have ne : ¬ ((Value.ref D == Value.ref C) = true) := fun z => e (Value.ref.inj (beq_iff_eq.mp z))
    rw [if_neg ne]
    have both : ((PySem.W.clsIn K C).isSome && PySem.W.typeIn K (.ref C) == some (.type "type")) = true := by
      rw [ht]
      have z : (PySem.W.clsIn K C).isSome = true := hi
      rw [z]
      rfl
    show (if ((PySem.W.clsIn K C).isSome && PySem.W.typeIn K (.ref C) == some (.type "type")) = true then _ else _) = _
    rw [if_pos both]
    exact hs
theorem kit_val (hs : PySem.W.subIn K (.ref D) (.type "ValueError") = some b) : PySem.W.kitOne K (.ref D) (.type "ValueError") = some b := by
  unfold PySem.W.kitOne
  have ne : ¬ ((Value.ref D == Value.type "ValueError") = true) := fun z => nomatch (beq_iff_eq.mp z)
  rw [if_neg ne]
  have z : PySem.W.kitMeta "ValueError" = true := by decide +kernel
  show (if PySem.W.kitMeta "ValueError" = true then PySem.W.subIn K (.ref D) (.type "ValueError") else none) = some b
  rw [if_pos z]
  exact hs
theorem exm_own (hb : PySem.W.subIn K (.ref C) (.type "BaseException") = some true) (hi : PySem.W.isClsIn K C = true) (ht : PySem.W.typeIn K (.ref C) = some (.type "type")) (hs : PySem.W.subIn K (.ref D) (.ref C) = some b) : PySem.W.exmOne K (.ref D) (.ref C) = some b := by
  unfold PySem.W.exmOne
  rw [if_pos (by rw [hb]; rfl)]
  have both : ((PySem.W.clsIn K C).isSome && PySem.W.typeIn K (.ref C) == some (.type "type")) = true := by
    rw [ht]
    have z : (PySem.W.clsIn K C).isSome = true := hi
    rw [z]
    rfl
  show (if ((PySem.W.clsIn K C).isSome && PySem.W.typeIn K (.ref C) == some (.type "type")) = true then _ else _) = _
  rw [if_pos both]
  exact hs
end
/-! ### defs -/
section
variable {P : Program} {w : World} {K : PySem.W.Frag} {mg : Str → Option Value} {base : Heap} {x qual : Str} {st : Stmt} {f : Addr} {fd : FuncData} {N ps : List Str} {k : Nat} {sp : Sp}
/-- a def that may raise -/
theorem okN (F : Fun K x qual st f fd) (S : FnScope N ps (defScope st)) (len : ∀ vs H Q E, sp vs H Q E → vs.length = ps.length)
    (made : ∀ (cdv : Value) (A : Around) (outer : List Env) (s : Shared) (H : Hp) (vs : List V) (Q : VK) (E : XK), Room k (A.deeper (envOfC qual (defScope st) s.heap.objs.size f cdv)) → sp vs H Q E →
      ∃ t, PSs (cxOf (L2N.CX P w) P w K mg base N qual (defScope st) f cdv A outer s H E) (defBody st) t ∧ t { nx := fun _ H' => Q .non H', rt := Q } (L2.start N vs) H) : FnOk P w K mg base (L2N.CX P w) (k + 1) f fd ps sp := by
  obtain ⟨_, _, _, _, _, _, cdv, _, _, rfl, lk, hcd⟩ := F.ex
  exact fn_of lk hcd S len fun A outer s H vs Q E hr hsp => made cdv A outer s H vs Q E hr hsp
/-- one that is called in an except suite -/
theorem okP {p : Addr × Obj} (F : Fun K x qual st f fd) (S : FnScope N ps (defScope st)) (len : ∀ vs H Q E, sp vs H Q E → vs.length = ps.length)
    (made : ∀ (cdv : Value) (A : Around) (outer : List Env) (s : Shared) (H : Hp) (vs : List V) (Q : VK) (E : XK), Hot1 A p → RoomH k (A.deeper (envOfC qual (defScope st) s.heap.objs.size f cdv)) → sp vs H Q E →
      ∃ t, PSs (cxH CX0 P w K mg base N qual (defScope st) f cdv A outer s H E p) (defBody st) t ∧ t { nx := fun _ H' => Q .non H', rt := Q } (L2.start N vs) H) : FnP P w K mg base (k + 1) f fd ps sp p := by
  obtain ⟨_, _, _, _, _, _, cdv, _, _, rfl, lk, hcd⟩ := F.ex
  exact fn_ofP lk hcd S len fun A outer s H vs Q E hot hr hsp => made cdv A outer s H vs Q E hot hr hsp
end
theorem takesN {X : Cx} : L2N.Takes X (fun _ _ _ _ => False) := fun _ _ x => by
  obtain ⟨_, _, _, _, _, _, _, _, _, _, _, _, _, _, _, _, z⟩ := x
  exact z.elim
theorem passN {X : Cx} : Passes (L2N.CX X.prog X.w) X E0 := fun _ _ _ _ _ _ _ h => by
  obtain ⟨_, _, _, _, _, _, _, _, _, _, _, _, z⟩ := h
  exact z.elim
theorem call_isPK {X : Cx} {K : PySem.W.Frag} {D a : Addr} {oe : Obj} (h : X.K = K) (C : ExcC K D) (inPn : (a, oe) ∈ X.pn) (hc : oe.cls = .ref D) (hd : oe.dict = none) (hf : ∃ vs, oe.data = .fields vs) : CallR X (.builtin "isinstance") (rIsE K D a) := by
  subst h
  exact call_isP (p := (a, oe)) C inPn hc hd hf
theorem hot_suite {X : Cx} {cls : Value} {d : Option Addr} {oe : Obj} {a : Addr} {pn : List (Addr × Obj)} (hz : L2N.Zn cls d oe) (hf : ∃ vs, oe.data = .fields vs) : Hot1 (X.suite a pn).A (a, oe) := by
  obtain ⟨vs, hv⟩ := hf
  exact ⟨rfl, vs, hv, hz.2.2 vs hv⟩
theorem room_suite {X : Cx} {k : Nat} {a : Addr} {pn : List (Addr × Obj)} (r : Room k X.A) : RoomH k (X.suite a pn).A := ⟨r.dp, r.un⟩
/-! ### the reading -/
section
variable {K : PySem.W.Frag} {A B F H H' F' : Hp} {σ : L2.St} {ρ : Slots} {S S' : Store} {x : Pv} {v : V}
theorem EnvOK.grow (en : EnvOK K A B F H ρ S σ) (s : Same H H') : EnvOK K A B F H' ρ S σ := by
  refine ⟨en.exB.trans s, en.exF.trans s, en.af, en.fr, en.sl, fun p hp => ?_, en.nd, en.fk⟩
  obtain ⟨z1, z2, z3⟩ := en.st p hp
  obtain ⟨o, ho⟩ := z3.some
  exact ⟨z1, z2, z3.mono (Same.refl F) ((s _ _ ho).trans ho.symm)⟩
theorem EnvOK.res (en : EnvOK K A B F H ρ S σ) (res : Res K F H F' H' x v S') : EnvOK K A B F' H' ρ (S' ++ S) σ := by
  refine ⟨en.exB.trans res.hh, res.fh, en.af.trans res.ff, fun a o e => ?_, paired_mono (fun _ _ h => h.mono (Same.refl B) res.ff) en.sl, fun p hp => ?_, ?_, res.fk⟩
  · rcases res.fr a o e with z | z | z
    · exact en.fr a o z
    · exact .inr (.inl (en.exB.free z))
    · exact .inr (.inr z)
  · rcases List.mem_append.mp hp with hp | hp
    · obtain ⟨z1, z2, z3⟩ := res.st p hp
      exact ⟨en.exB.free z1, z2, z3⟩
    · obtain ⟨z1, z2, z3⟩ := en.st p hp
      obtain ⟨o, ho, nt⟩ := z3.some2
      refine ⟨z1, ?_, z3.mono res.ff ((res.hh _ _ ho).trans ho.symm)⟩
      cases e : F' p.1 with
      | none => rfl
      | some o' =>
        rcases res.fr _ _ e with z | z | z
        · rw [z] at z2; cases z2
        · rw [ho] at z; cases z
        · have z4 := res.fh _ _ e
          rw [res.hh _ _ ho] at z4
          exact absurd ((Option.some.inj z4) ▸ z) nt
  · rw [List.map_append, List.nodup_append]
    refine ⟨res.nd, en.nd, fun a h1 b h2 e => ?_⟩
    subst e
    obtain ⟨p1, hp1, e1⟩ := List.mem_map.mp h1
    obtain ⟨p2, hp2, e2⟩ := List.mem_map.mp h2
    obtain ⟨o, ho⟩ := (en.st p2 hp2).2.2.some
    have z := (res.st p1 hp1).1
    rw [e1, ← e2, ho] at z
    cases z
end
section
variable {c : Cn} {ρ : Slots} {S : Store} {Φ : Pv → Store → Prop} {tas : TA} {P : Po} {α : Type} {args : α → List Ax} {pre : α → Prop} {R : α → Pv → Store → Prop} {X : α → Value → Prop} {W : WX}
theorem vs_raise (C : Addr) {t : TS} (hx : c.X (.ref C)) (ht : ∀ D σ H, c.E (.ref C) none H → t D σ H := by exact fun _ _ _ h => h) : VS c ρ S t P := fun A B F H σ en er D d => ht D σ H (er _ H hx en.exB)
/-- what a call in a try statement comes to -/
def TryA (c : Cn) (ρ : Slots) (S : Store) (tas : TA) (args : α → List Ax) (pre : α → Prop) (R : α → Pv → Store → Prop) (X : α → Value → Prop) (Φ : Pv → Store → Prop) (Ψ : Value → Store → Prop) : Prop :=
  VA c ρ S tas fun xs S1 => ∃ as, Paired (AxOf S1) xs (args as) ∧ pre as ∧ (∀ x S2, R as x S2 → Φ x (S2 ++ S1)) ∧ ∀ C, X as C → Ψ C S1
theorem try_core {Ψ : Value → Store → Prop} {A B F H : Hp} {σ : L2.St} {Q : VK} (h : TryA c ρ S tas args pre R X Φ Ψ) (en : EnvOK c.K A B F H ρ S σ) (er : Er c B) (q : Go c ρ Φ A B F σ Q)
    (qx : ∀ C S1 F1 H1, Ψ C S1 → EnvOK c.K A B F1 H1 ρ S1 σ → Same F F1 → W C none σ H1) : tCallS (spW c.K args pre R X) (WE W) tas σ H Q := by
  refine h A B F H σ en er _ fun xs vs S1 F1 H1 h1 en1 f1 vx => ?_
  obtain ⟨as, ha, hp, hR, hX⟩ := h1
  exact ⟨F1, as, en1.fk, en1.exF, axs_of en1 ha vx, hp, fun x v S2 F' H' hr res => q x v (S2 ++ S1) F' H' (hR x S2 hr) (en1.res res) (f1.trans res.ff) res.ok.hp, fun C H' hx s => qx C S1 F1 H' (hX C hx) (en1.grow s) f1⟩
/-- the suite of the clause: the error is in slot i -/
def SuiteOK (c : Cn) (ρ : Slots) (cv : Value) (i : Nat) (ts : Addr → Value → Option Addr → TS) (P : Po) (C : Value) (S1 : Store) : Prop :=
  PySem.W.exmOne c.K C cv = some true ∧ ∀ a, VS c (ρ.set i (some (ptr a))) S1 (ts a C none) { n := fun ρ2 S2 => P.n (ρ2.set i none) S2, r := P.r, b := fun ρ2 S2 => P.b (ρ2.set i none) S2, k := fun ρ2 S2 => P.k (ρ2.set i none) S2 }
theorem suite_core {cv : Value} {i : Nat} {ts : Addr → Value → Option Addr → TS} {Wout : WX} {A B F : Hp} {σ : L2.St} {D : Ends} (er : Er c B) (d : EndOK c P A B F D) {C : Value} {S1 : Store} {F1 H1 : Hp} (h : SuiteOK c ρ cv i ts P C S1) (en : EnvOK c.K A B F1 H1 ρ S1 σ) (f : Same F F1) :
    wAs c.K cv i ts Wout D C none σ H1 := by
  refine ⟨true, h.1, fun _ a _ => ?_, fun z => by cases z⟩
  refine h.2 a A B F1 H1 _ (en.set .val) er _ ⟨?_, ?_, ?_, ?_⟩
  · exact fun ρ2 S2 F2 H2 σ2 p en2 f2 => d.nx _ S2 F2 H2 _ p en2.unset (f.trans f2)
  · exact fun x v ρ2 S2 F2 H2 σ2 p en2 f2 vx => d.rt x v ρ2 S2 F2 H2 σ2 p en2 (f.trans f2) vx
  · exact fun ρ2 S2 F2 H2 σ2 p en2 f2 => d.bk _ S2 F2 H2 _ p en2.unset (f.trans f2)
  · exact fun ρ2 S2 F2 H2 σ2 p en2 f2 => d.ct _ S2 F2 H2 _ p en2.unset (f.trans f2)
theorem vs_tryDrop {cv : Value} {i : Nat} {ts : Addr → Value → Option Addr → TS} {Wout : WX} (h : TryA c ρ S tas args pre R X (fun _ S1 => P.n ρ S1) (SuiteOK c ρ cv i ts P)) :
    VS c ρ S (fun D σ H => tDrop (tCallS (spW c.K args pre R X) (WE (wAs c.K cv i ts Wout D)) tas) D σ H) P := fun A B F H σ en er D d =>
  try_core (W := wAs c.K cv i ts Wout D) h en er (fun x v S1 F1 H1 h1 en1 f1 vx => d.nx ρ S1 F1 H1 σ h1 en1 f1) fun C S1 F1 H1 hs en1 f1 => suite_core er d hs en1 f1
theorem vs_tryRet {cv : Value} {i : Nat} {ts : Addr → Value → Option Addr → TS} {Wout : WX} (h : TryA c ρ S tas args pre R X P.r (SuiteOK c ρ cv i ts P)) :
    VS c ρ S (fun D σ H => tRet (tCallS (spW c.K args pre R X) (WE (wAs c.K cv i ts Wout D)) tas) D σ H) P := fun A B F H σ en er D d =>
  try_core (W := wAs c.K cv i ts Wout D) h en er (fun x v S1 F1 H1 h1 en1 f1 vx => d.rt x v ρ S1 F1 H1 σ h1 en1 f1 vx) fun C S1 F1 H1 hs en1 f1 => suite_core er d hs en1 f1
/-- xs[i] = y, the list an own one -/
theorem vg_sub {to ti : TE} {y : Pv} {Φ : Slots → Store → Prop} (h : VE c ρ S to fun x S1 => VE c ρ S1 ti fun i S2 => ∃ (k0 : Nat) (l : Addr) (zs : List Pv) (j : Int) (k : Nat), x = ptr l ∧ i = .dat (.int j) ∧ S2[k0]? = some (l, .lst zs) ∧ ixN zs.length j = some k ∧ nob y = true ∧ Φ ρ (S2.set k0 (l, .lst (zs.set k y)))) :
    VG c (gSub to ti rSetL) y ρ S Φ := fun A B F H σ v en er vy Q q => by
  refine h A B F H σ en er _ fun x u S1 F1 H1 h1 en1 f1 vx => ?_
  refine h1 A B F1 H1 σ en1 er _ fun i z S2 F2 H2 h2 en2 f2 vi => ?_
  obtain ⟨k0, l, zs, j, k, rfl, rfl, hk0, hk, hn, h2⟩ := h2
  cases vx
  cases vi with
  | dat hd =>
    cases hd
    obtain ⟨_, _, vs, e1, e2⟩ := en2.st _ (List.mem_of_getElem? hk0)
    have vy2 := (vy.up (f1.trans f2)).nob hn
    refine ⟨l, vs, j, k, rfl, rfl, e1, by rw [e2.length]; exact hk, ?_⟩
    exact q ρ _ F2 _ σ h2 (en2.put hk0 ⟨vs.set k v, upd_same, e2.set vy2 k⟩) (f1.trans f2)
end
end Wt
set_option maxHeartbeats 4000000
/-! lcm; list(range(..)); a comprehension that makes own lists. -/
namespace Wt
open PySem PySem.Spec PyProof.Rows L2 RZ
/-! ### lcm -/
def rLcm : List V → Hp → VK → Prop := fun vs H Q => ∃ a b : Int, vs = [.int a, .int b] ∧ a.natAbs < 2 ^ 9000 ∧ b.natAbs < 2 ^ 9000 ∧ Q (.int ((Nat.lcm a.natAbs b.natAbs : Nat) : Int)) H
theorem cr_lcm {X : Cx} : CallR X (.builtin "math.lcm") rLcm := by
  intro pins s σ H vs us Q I r h
  obtain ⟨a, b, rfl, ha, hb, q⟩ := h
  obtain ⟨t, u, rfl⟩ := Vals.int2 r
  have l1 : (max 1 a.natAbs).log2 < 9000 := PySem.Flt.log2_lt_of (by decide) (Nat.max_lt.mpr ⟨Nat.lt_of_lt_of_le (by decide : 1 < 2 ^ 1) (Nat.pow_le_pow_right (by decide) (by decide)), ha⟩)
  have l2 : (max a.natAbs b.natAbs).log2 < 9000 := PySem.Flt.log2_lt_of (by decide) (Nat.max_lt.mpr ⟨ha, hb⟩)
  have hl : a.natAbs.lcm b.natAbs < 2 ^ 18000 := Nat.lt_of_le_of_lt (PySem.W.mc_lcm_le _ _) (by
    rw [show (18000 : Nat) = 9000 + 9000 from rfl, Nat.pow_add]
    exact Nat.mul_lt_mul'' ha hb)
  have hsz : ((((Nat.lcm 1 a.natAbs).lcm b.natAbs : Nat) : Int)).natAbs.log2 < bitsLine := by
    rw [PySem.W.mc_lcm_one]
    exact Nat.lt_of_lt_of_le (PySem.Flt.log2_lt_of (by decide) hl) (by decide)
  have g := PySem.W.mg_run_lcm a t b u (by omega) (by omega) hsz
  rw [PySem.W.mc_lcm_one] at g
  exact PySem.call_function_meets PySem.W.MGF.kind_lcm PySem.W.MGF.plain_lcm PySem.W.MGF.entry_lcm (PySem.W.MGF.args_lcm _ _) g.meets ⟨.int _, H, I.tok _, ⟨_, rfl⟩, q⟩
section
variable {c : Cn} {ρ : Slots} {S : Store} {Φ : Pv → Store → Prop} {ta tb te : TE} {tas : TA} {r : R2} {g : TG} {tt : TT}
theorem vc_lcm {i j : Int} (h1 : i.natAbs < 2 ^ 9000) (h2 : j.natAbs < 2 ^ 9000) (hp : Φ (.dat (.int ((Nat.lcm i.natAbs j.natAbs : Nat) : Int))) S) : VC c ρ rLcm [.dat (.int i), .dat (.int j)] S Φ := fun A B F H σ en er vs vx Q q => by
  cases vx with
  | cons v1 v2 => cases v2 with
    | cons v2 v3 => cases v3; cases v1 with
      | dat a => cases v2 with
        | dat b => cases a; cases b; exact ⟨i, j, rfl, h1, h2, q.dat en hp (.int _)⟩
theorem vc_lenO {l : Addr} {xs : List Pv} (hm : (l, Cell.lst xs) ∈ S) (hp : Φ (.dat (.int xs.length)) S) :
    VC c ρ (fun xs H Q => ∃ p ys, xs = [V.ref p] ∧ (SqL c.K H p ys ∨ SqT c.K H p ys) ∧ Q (.int ys.length) H) [ptr l] S Φ := vc_len (.inl (.own hm)) hp
theorem vc_isListO {l : Addr} {xs : List Pv} (hm : (l, Cell.lst xs) ∈ S) (hp : Φ (.dat (.bool true)) S) : VC c ρ (rIsi c.K) [ptr l, .val (.ty "list")] S Φ := vc_isListL (.own hm) hp
theorem vr_ixO {l : Addr} {xs : List Pv} {i : Int} {y : Pv} (hm : (l, Cell.lst xs) ∈ S) (hi : atI xs i = some y) (h : Φ y S) : VR c ρ (rIx c.K) (ptr l) (.dat (.int i)) S Φ := vr_ix (.inl (.own hm)) hi h
/-! ### list(range(a, b)) -/
/-- a range's ends -/
def VRg (c : Cn) (ρ : Slots) (S : Store) (t : L2.St → Hp → (Int → Int → Hp → Prop) → Prop) (Φ : Int → Int → Store → Prop) : Prop :=
  ∀ A B F H σ, EnvOK c.K A B F H ρ S σ → Er c B → ∀ Q : Int → Int → Hp → Prop, (∀ i j S' F' H', Φ i j S' → EnvOK c.K A B F' H' ρ S' σ → Same F F' → Q i j H') → t σ H Q
theorem vrg_2 {Φ : Int → Int → Store → Prop} (h : VE c ρ S ta fun x S1 => VE c ρ S1 tb fun y S2 => ∃ i j, x = .dat (.int i) ∧ y = .dat (.int j) ∧ Φ i j S2) : VRg c ρ S (tRg2 ta tb) Φ := fun A B F H σ en er Q q => by
  refine h A B F H σ en er _ fun x v S1 F1 H1 h1 en1 f1 vx => ?_
  refine h1 A B F1 H1 σ en1 er _ fun y u S2 F2 H2 h2 en2 f2 vy => ?_
  obtain ⟨i, j, rfl, rfl, h2⟩ := h2
  cases vx with
  | dat a => cases vy with
    | dat b => cases a; cases b; exact ⟨i, j, rfl, rfl, q i j S2 F2 H2 h2 en2 (f1.trans f2)⟩
def rngD (lo : Int) (n : Nat) : List D := (List.range n).map fun (i : Nat) => .int (lo + (i : Int))
theorem ve_listRg {t : L2.St → Hp → (Int → Int → Hp → Prop) → Prop} (h : VRg c ρ S t fun i j S1 => 0 ≤ i ∧ i ≤ 100000 ∧ 0 ≤ j ∧ j ≤ 100000 ∧ ∀ l, Φ (ptr l) ((l, .lst ((rngD i (j - i).toNat).map .dat)) :: S1)) : VE c ρ S (tLstRg t) Φ := fun A B F H σ en er Q q => by
  refine h A B F H σ en er _ fun i j S1 F1 H1 ⟨i0, i1, j0, j1, h1⟩ en1 f1 => ?_
  refine ⟨RgOk.of_le i0 (by omega) (by omega) j0, fun p np => ?_⟩
  refine q _ _ _ F1 _ (h1 p) (en1.own (o := .lst (rgV i j)) (c := .lst ((rngD i (j - i).toNat).map .dat)) np ⟨_, upd_same, ?_⟩) f1 .val
  have e : rgV i j = ((List.range (j - i).toNat).map fun (k : Nat) => i + (k : Int)).map V.int := by
    unfold rgV
    rw [List.map_map]
    rfl
  have e2 : rngD i (j - i).toNat = ((List.range (j - i).toNat).map fun (k : Nat) => i + (k : Int)).map PyData.int := by
    unfold rngD
    rw [List.map_map]
    rfl
  rw [e, e2]
  exact .of_dvs (Dvs.of_ints _)
/-! ### a comprehension that makes own lists -/
theorem ve_lcN {wi : TI} {j : Nat} {vs : List Nat} (hj : j ∈ vs) (h : VI c ρ S wi fun xs S1 => ∃ rows : List (List Pv), rows.length = xs.length ∧ rows.length < 100000 ∧
      (∀ (i : Nat) (x : Pv) (row : List Pv) (S2 : Store), xs[i]? = some x → rows[i]? = some row → VE c ((wipeS ρ vs).set j (some x)) (S2 ++ S1) te fun y S4 => ∃ q, y = ptr q ∧ S4 = (q, .lst row) :: (S2 ++ S1)) ∧
      ∀ (p : Addr) (qs : List Addr), qs.length = rows.length → Φ (ptr p) ((p, .lst (qs.map ptr)) :: qs.zip (rows.map Cell.lst) ++ S1)) :
    VE c ρ S (tLc wi (gName j) tYes te vs) Φ := ve_wk (ve_lcI (own_name hj) fun A B F H σ en er R q => by
  refine h A B F H σ en er R fun J xs S1 F1 H1 h1 en1 f1 wk => q J xs S1 F1 H1 ?_ en1 f1 wk
  obtain ⟨rows, hl, hz, turn, hd⟩ := h1
  refine ⟨fun i acc S => ∃ qs : List Addr, qs.length = i ∧ acc = qs.map ptr ∧ S = (qs.zip ((rows.take i).map Cell.lst)).reverse ++ S1, ⟨[], rfl, rfl, rfl⟩, ?_, ?_⟩
  · rintro i x acc S2 e ⟨qs, hq, rfl, rfl⟩
    have hi : i < rows.length := by rw [hl]; exact (List.getElem?_eq_some_iff.mp e).1
    refine vg_name (vt_yes ⟨fun _ => ?_, fun z => by cases z⟩)
    refine ve_mono (turn i x rows[i] _ e (List.getElem?_eq_getElem hi)) ?_
    rintro y S4 ⟨q, rfl, rfl⟩
    refine ⟨rfl, by rw [List.length_map]; omega, qs ++ [q], by rw [List.length_append, hq]; rfl, by rw [List.map_append]; rfl, ?_⟩
    rw [List.take_add_one, List.getElem?_eq_getElem hi, List.map_append, List.zip_append (by rw [List.length_map, List.length_take]; omega), List.reverse_append]
    rfl
  · rintro p acc S2 ⟨qs, hq, rfl, rfl⟩
    rw [← hl] at hq
    have e : rows.take xs.length = rows := List.take_of_length_le (by omega)
    rw [e]
    exact ⟨_, .perm (List.Perm.cons _ ((List.reverse_perm _).symm.append_right _)), hd p qs hq⟩)
/-- a pair as target -/
theorem ve_lcm2 {wi : TI} {j k : Nat} {vs : List Nat} (hj : j ∈ vs) (hk : k ∈ vs) (h : VI c ρ S wi fun xs S1 => ∃ ys : List Pv, ys.length = xs.length ∧ ys.length < 100000 ∧
      (∀ (i : Nat) (x : Pv), xs[i]? = some x → ∃ a b, Tu x [a, b] ∧ VE c (((wipeS ρ vs).set j (some a)).set k (some b)) S1 te fun y S4 => S4 = S1 ∧ nob y = true ∧ ys[i]? = some y) ∧ ∀ p, Φ (ptr p) ((p, .lst ys) :: S1)) :
    VE c ρ S (tLc wi (gTup c.K 2 (gCons (gName j) (gCons (gName k) gNil))) tYes te vs) Φ := ve_lc (own_pair hj hk) fun A B F H σ en er R q => by
  refine h A B F H σ en er R fun J xs S1 F1 H1 h1 en1 f1 wk => q J xs S1 F1 H1 ?_ en1 f1 wk
  obtain ⟨ys, hl, hz, turn, hd⟩ := h1
  refine ⟨fun i => ys.take i, rfl, fun i x e => ?_, fun p => ?_⟩
  · obtain ⟨a, b, ht, hv⟩ := turn i x e
    refine vg_tup ht rfl (vgs_cons (vg_name (vgs_cons (vg_name (vgs_nil ⟨rfl, vt_yes ⟨rfl, fun _ => ?_, fun z => by cases z⟩⟩)))))
    refine ve_mono hv fun y S4 ⟨h1, h2, h3⟩ => ⟨h1, h2, ?_, ?_⟩
    · rw [List.length_take]
      omega
    · show ys.take (i + 1) = ys.take i ++ [y]
      rw [List.take_add_one, h3]
      rfl
  · have e : ys.take xs.length = ys := List.take_of_length_le (by omega)
    show Φ (ptr p) ((p, .lst (ys.take xs.length)) :: S1)
    rw [e]
    exact hd p
/-- with tests -/
theorem ve_lcf {wi : TI} {j : Nat} {vs : List Nat} (hj : j ∈ vs) (h : VI c ρ S wi fun xs S1 => ∃ (keep : Nat → Bool) (ys : Nat → List Pv), ys 0 = [] ∧
      (∀ (i : Nat) (x : Pv), xs[i]? = some x → VT c ((wipeS ρ vs).set j (some x)) S1 tt fun b S2 => S2 = S1 ∧ b = keep i) ∧
      (∀ (i : Nat) (x : Pv), xs[i]? = some x → keep i = true → VE c ((wipeS ρ vs).set j (some x)) S1 te fun y S4 => S4 = S1 ∧ nob y = true ∧ (ys i).length < 100000 ∧ ys (i + 1) = ys i ++ [y]) ∧
      (∀ i, keep i = false → ys (i + 1) = ys i) ∧ ∀ p, Φ (ptr p) ((p, .lst (ys xs.length)) :: S1)) :
    VE c ρ S (tLc wi (gName j) tt te vs) Φ := ve_lc (own_name hj) fun A B F H σ en er R q => by
  refine h A B F H σ en er R fun J xs S1 F1 H1 h1 en1 f1 wk => q J xs S1 F1 H1 ?_ en1 f1 wk
  obtain ⟨keep, ys, h0, ht, he, hf, hd⟩ := h1
  refine ⟨ys, h0, fun i x e => vg_name ⟨rfl, vt_mono (ht i x e) ?_⟩, hd⟩
  rintro b S2 ⟨rfl, rfl⟩
  exact ⟨rfl, fun hb => he i x e hb, fun hb => hf i hb⟩
end
/-! ### an own list of own lists is frozen -/
section
variable {K : PySem.W.Frag} {A B F H : Hp} {ρ : Slots} {S : Store} {σ : L2.St}
theorem EnvOK.freezeRows {a : Addr × Cell} : ∀ {qs : List Addr} {rows : List (List D)} {F : Hp}, qs.length = rows.length → EnvOK K A B F H ρ (a :: (qs.zip (rows.map fun r => Cell.lst (r.map Pv.dat)) ++ S)) σ →
    ∃ F', EnvOK K A B F' H ρ (a :: S) σ ∧ Same F F' ∧ Dvs K F' (qs.map V.ref) (rows.map .list)
  | [], [], F, _, en => ⟨F, en, Same.refl F, .nil⟩
  | [], _ :: _, _, h, _ => by cases h
  | _ :: _, [], _, h, _ => by cases h
  | q :: qs, r :: rows, F, h, en => by
    obtain ⟨F1, en1, f1, d1⟩ := en.freeze (k := 1) (l := q) (xs := r.map Pv.dat) (ds := r) rfl (dats_map _)
    obtain ⟨F2, en2, f2, d2⟩ := EnvOK.freezeRows (Nat.succ.inj h) en1
    exact ⟨F2, en2, f1.trans f2, .cons (d1.up f2) d2⟩
theorem EnvOK.freezeLL {l : Addr} {qs : List Addr} {rows : List (List D)} (hq : qs.length = rows.length) (en : EnvOK K A B F H ρ ((l, Cell.lst (qs.map ptr)) :: (qs.zip (rows.map fun r => Cell.lst (r.map Pv.dat)) ++ S)) σ) :
    ∃ F', EnvOK K A B F' H ρ S σ ∧ Same F F' ∧ Dv K F' (.ref l) (.list (rows.map .list)) := by
  obtain ⟨F1, en1, f1, d1⟩ := EnvOK.freezeRows hq en
  obtain ⟨nB, nF, vs, hl, hv⟩ := en1.st _ List.mem_cons_self
  obtain rfl := vs_ptrs hv
  have sF : Same F1 (upd F1 l (.lst (qs.map V.ref))) := same_new nF
  refine ⟨upd F1 l (.lst (qs.map V.ref)), ⟨en1.exB, fun a x e => ?_, en1.af.trans sF, fun a x e => ?_, paired_mono (fun _ _ h => h.mono (Same.refl B) sF) en1.sl, fun q hq => ?_, (List.nodup_cons.mp en1.nd).2, en1.fk.upd (fun _ z => nomatch z)⟩, f1.trans sF, .lst upd_same (d1.up sF)⟩
  · by_cases h : a = l
    · subst h
      rw [upd_same] at e
      rw [hl]
      exact e
    · rw [upd_ne h] at e
      exact en1.exF _ _ e
  · by_cases h : a = l
    · subst h
      exact .inr (.inl nB)
    · rw [upd_ne h] at e
      exact en1.fr _ _ e
  · obtain ⟨h1, h2, h3⟩ := en1.st q (List.mem_cons_of_mem _ hq)
    have hne : q.1 ≠ l := fun z => (List.nodup_cons.mp en1.nd).1 (List.mem_map.mpr ⟨q, hq, z⟩)
    exact ⟨h1, by rw [upd_ne hne]; exact h2, h3.mono sF rfl⟩
end
section
variable {c : Cn} {ρ : Slots} {S : Store} {Φ : Pv → Store → Prop} {te : TE} {P : Po} {t : TS}
theorem ve_freezeLL (h : VE c ρ S te fun x S1 => ∃ (l : Addr) (qs : List Addr) (rows : List (List D)) (S2 : Store), x = ptr l ∧ S1 = (l, Cell.lst (qs.map ptr)) :: (qs.zip (rows.map fun r => Cell.lst (r.map Pv.dat)) ++ S2) ∧ qs.length = rows.length ∧ Φ (.dat (.list (rows.map .list))) S2) : VE c ρ S te Φ := fun A B F H σ en er Q q => by
  refine h A B F H σ en er _ fun x v S1 F1 H1 h1 en1 f1 vx => ?_
  obtain ⟨l, qs, rows, S2, rfl, rfl, hq, h1⟩ := h1
  obtain ⟨F2, en2, f2, d2⟩ := en1.freezeLL hq
  cases vx
  exact q _ _ _ F2 H1 h1 en2 (f1.trans f2) (.dat d2)
/-- the same of a pair with it -/
theorem ve_freezeTL (h : VE c ρ S te fun x S1 => ∃ (d : D) (l : Addr) (qs : List Addr) (rows : List (List D)) (S2 : Store), x = .tup [.dat d, ptr l] ∧ S1 = (l, Cell.lst (qs.map ptr)) :: (qs.zip (rows.map fun r => Cell.lst (r.map Pv.dat)) ++ S2) ∧ qs.length = rows.length ∧ Φ (.dat (.tuple [d, .list (rows.map .list)])) S2) : VE c ρ S te Φ := fun A B F H σ en er Q q => by
  refine h A B F H σ en er _ fun x v S1 F1 H1 h1 en1 f1 vx => ?_
  obtain ⟨d, l, qs, rows, S2, rfl, rfl, hq, h1⟩ := h1
  obtain ⟨F2, en2, f2, d2⟩ := en1.freezeLL hq
  cases vx with
  | tup ht hv =>
    cases hv with
    | cons v1 v2 => cases v2 with
      | cons v2 v3 =>
        cases v3; cases v2
        cases v1 with
        | dat v1 => exact q _ _ _ F2 H1 h1 en2 (f1.trans f2) (.dat (.tup (f2 _ _ ht) (.cons (v1.up f2) (.cons d2 .nil))))
end
end Wt
set_option maxHeartbeats 4000000
/-! Dicts with tuple keys: a display of one entry; d.items() walked; dict(pairs). -/
namespace Wt
open PySem PySem.Spec PyProof.Rows L2
abbrev KndT (X : Cx) := tupleKind (mixKind X.prog X.w)
section
variable {X : Cx}
/-- {k: v}, k a tuple; the new dict stands empty while both are made -/
def tDispT (tk tv : TE) : TE := fun σ H Q => ∀ p, H p = none → tk σ (upd H p (.dT [])) fun x H1 => tv σ H1 fun y H2 => ∃ (k : List L2.Key) (b : Addr), H2 p = some (.dT []) ∧ x = .ref b ∧ H2 b = some (.tup (k.map kV)) ∧ Q (.ref p) (upd H2 p (.dT [(k, y)]))
theorem pe_dispT {pos : Pos} {k v : Expr} {tk tv : TE} (hu : X.A.units + 1 < cLine) (hk : PE X k tk) (hv : PE X v tv) : PE X (.Dict [some k] [v] pos) (tDispT tk tv) := by
  refine ⟨fun pins s σ H Q I q => ?_⟩
  have hn := I.hok.fresh (Nat.le_refl s.heap.objs.size)
  have I1 := I.laid (a := s.heap.objs.size) (o := .dT []) (h' := s.heap.push { cls := .type "dict", data := .dict #[] }) (t' := s.toks) (fun _ _ q => Heap.get?_push_of_some _ q) (Nat.le_refl _) (dt_empty s.heap I.big)
  refine wpAny_Dict_any (by rfl) rfl (by simp) (by simp) ?_
  refine pairTrees_cons_walk (thn (hk.run pins _ σ _ _ I1 (q _ hn)) fun u s1 ⟨x, H1, I2, rx, q1⟩ => thn (hv.run pins s1 σ H1 _ I2 q1) fun w2 s2 ⟨y, H2, I3, ry, q2⟩ => pairTrees_nil_walk ?_)
  obtain ⟨kk, b, e, rfl, eb, q2⟩ := q2
  obtain rfl : u = Value.ref b := rx
  obtain ⟨z, hd, xs, rel, dd⟩ := dt_of I3.hok e
  cases rel
  unfold storeAll
  refine wpAny_storeAllH (knd := KndT X) (A := X.A) (show X.A.units < cLine by omega) [(Value.ref b, w2)] [(kk, b, w2)] [] s2 _ ⟨rfl, rfl, key_of I3.hok eb, True.intro⟩ dd (by show 0 + 1 ≤ sizeLine; decide) fun h' tk dd' hs => ?_
  have dd2 : h'.DictOfH (KndT X) s.heap.objs.size [(kk, b, w2)] := dd'
  obtain ⟨qo, es, ep, hq, h2, h3, h4, _, h5⟩ := dd2
  refine ⟨.ref s.heap.objs.size, _, d_write I3 (t' := tk) (ob := .dT [(kk, y)]) (by rw [e]; exact True.intro) hs ⟨qo, hq⟩ ⟨by show 1 ≤ sizeLine; decide, hd, [(kk, b, w2)], .cons ⟨rfl, ?_, ry⟩ .nil, qo, es, ep, hq, h2, h3, h4, h5⟩, rfl, q2⟩
  rw [upd_ne (ne_of eb e (fun z => nomatch z))]
  exact eb
end
/-! ### d.items() -/
section
variable {X : Cx} {pins : List (Addr × Obj)} {σ : L2.St} {H : Hp} {s : Shared} {d : Addr} {o : Obj}
theorem frzT2 {kvs : List (List L2.Key × V)} (I : Inv X pins σ H s) (h : H d = some (.frz o (.dT kvs))) :
    (d == sysModules) = false ∧ s.heap.get? d = some o ∧ o.ExactDict ∧ ∃ (es : Array DictEntry) (ep : Nat), o.data = .dict es ep ∧ es.size = kvs.length ∧
      ∀ (i : Nat) (k : List L2.Key) (v : V), kvs[i]? = some (k, v) → ∃ (en : DictEntry) (q : Addr), es[i]? = some en ∧ en.key = .ref q ∧ H q = some (.tup (k.map kV)) ∧ RelV v en.val := by
  obtain ⟨hd, z, hs, xs, pr, o', es, ep, ho, hx, hdt, he, _⟩ := I.hok d _ h
  rw [hd] at ho
  cases ho
  refine ⟨hs, hd, hx, es, ep, hdt, ?_, fun i k v e => ?_⟩
  · have l1 : es.size = xs.length := size_of_entries he
    have l2 : kvs.length = xs.length := Paired.length pr
    omega
  · obtain ⟨b, hb, e1, e2, e3⟩ := paired_get pr e
    have q := entry_at he i
    rw [hb] at q
    exact ⟨_, b.2.1, q, rfl, e2, e3⟩
end
/-- the pairs of a locked dict with tuple keys, each a new tuple -/
def Itit (d : Addr) (o : Obj) (kvs : List (List L2.Key × V)) : It :=
  ⟨fun i H => H d = some (.frz o (.dT kvs)) ∧ i < kvs.length, fun i H x H' => ∃ (T : Addr) (k : List L2.Key) (v : V) (q : Addr), kvs[i]? = some (k, v) ∧ x = .ref T ∧ H T = none ∧ H q = some (.tup (k.map kV)) ∧ H' = upd H T (.tup [.ref q, v]), fun i H => H d = some (.frz o (.dT kvs)) ∧ kvs.length ≤ i⟩
theorem turn_itemsT {P : Program} {w : World} {K : PySem.W.Frag} {d : Addr} {o : Obj} {es : Array DictEntry} {ep : Nat} {kvs : List (List L2.Key × V)} {elts : List Expr} {kk : Nat} {tpos : Pos} (it : Addr) (hod : o.data = .dict es ep) :
    Turn P w K (.Tuple elts kk tpos) (Itit d o kvs) [it] it (fun i h => ∃ ok ov, IsItemIter h it d i kvs.length ep ok ov) where
  mem := by simp
  obj := fun i h st b hb => by
    have e : b = it := by simpa using hb
    subst e
    obtain ⟨ok, ov, e⟩ := st
    exact ⟨_, e, fun v z => nomatch z⟩
  keep := fun i h h' st k => let ⟨ok, ov, e⟩ := st; ⟨ok, ov, k it (by simp) _ e⟩
  item := by
    intro X hP hw hK hc i pins s σ H E I hf st hg
    subst hP hw hK
    obtain ⟨hd, hi⟩ := hg
    obtain ⟨hs, hgd, hx, es', ep', hdt, hsz, ent⟩ := frzT2 I hd
    obtain ⟨rfl, rfl⟩ := dict_ep hod hdt
    obtain ⟨⟨k, v⟩, hkv⟩ : ∃ p, kvs[i]? = some p := ⟨kvs[i], List.getElem?_eq_getElem hi⟩
    obtain ⟨en, q, hen, hkey, hq, ru⟩ := ent i k v hkv
    obtain ⟨ok, ov, he⟩ := st
    rw [← hsz] at he
    have hlt : it < s.heap.objs.size := Heap.lt_size he
    have hie : i < es'.size := by omega
    have een : es'[i] = en := by
      rw [Array.getElem?_eq_getElem hie] at hen
      exact Option.some.inj hen
    refine wpAny_pyNext_items_item_raw he ⟨o, hgd, hx, hod⟩ hie fun h' ho hT hz hk => ?_
    rw [een, hkey] at hT ho
    refine ⟨_, rfl, wpAny_letOwnedTupleGo_items (s := { s with heap := h' }) ho fun h'' he' sb => ?_⟩
    have hT2 : h''.get? s.heap.objs.size = some { cls := .type "tuple", data := .seq #[.ref q, en.val] } := (sb.2 _ (Nat.ne_of_gt hlt)).trans hT
    have new : ObjOk X.prog X.w (upd H s.heap.objs.size (.tup [.ref q, v])) h'' s.heap.objs.size (.tup [.ref q, v]) :=
      ⟨by show 2 ≤ sizeLine; decide, [.ref q, en.val], .cons rfl (.cons ru .nil), ⟨_, hT2, rfl, _, rfl⟩⟩
    have I1 : Inv X pins σ (upd H s.heap.objs.size (.tup [.ref q, v])) { s with heap := h'' } :=
      I.turnedNew (t' := s.toks) (ch := [it]) (fun b ob hb e => (sb.2 b (by simpa using hb)).trans (hk b ob (by simpa using hb) e)) hf (Nat.le_refl _) new
    refine ⟨.ref s.heap.objs.size, _, I1, rfl, ⟨_, k, v, q, hkv, rfl, I.hok.fresh (Nat.le_refl _), hq, rfl⟩, ⟨.ref q, en.val, ?_⟩, fun b hb => ?_⟩
    · rw [← hsz]; exact he'
    · have e : b = it := by simpa using hb
      rw [e, upd_ne (Nat.ne_of_lt hlt)]
      exact (hf it (by simp)).1
  done := by
    intro X hP hw hK hc i pins s σ H E I hf st hg
    subst hP hw hK
    obtain ⟨hd, hi⟩ := hg
    obtain ⟨f0, f1, f2, f3, f4, f5⟩ := hf it (by simp)
    obtain ⟨hs, hgd, hx, es', ep', hdt, hsz, ent⟩ := frzT2 I hd
    obtain ⟨rfl, rfl⟩ := dict_ep hod hdt
    obtain ⟨ok, ov, he⟩ := st
    rw [← hsz] at he
    exact wpAny_pyNext_items_end_raw (I.ok.hd hc) he ⟨o, hgd, hx, hod⟩ (by omega) fun h' eb => ⟨rfl, I.turned (t' := s.toks) (fun b ob hb e => eb b ob hb e) f0 f1 f3 f4 f5⟩
  self := fun A i s Q E st h => let ⟨_, _, e⟩ := st; PySem.W.kcp_self e h
def iItemsT (td : TE) : TI := fun σ H R => td σ H fun x H1 => ∃ d o kvs, x = .ref d ∧ H1 d = some (.frz o (.dT kvs)) ∧ R (Itit d o kvs) H1
theorem pi_itemsT {X : Cx} {e : Expr} {td : TE} {apos cpos : Pos} {elts : List Expr} {kk : Nat} {tpos : Pos} (he : PE X e td) (hbase : attributeBase e "items" X.env (eval e X.env) = eval e X.env := by rfl) (hline : (apos.endLine == cpos.line) = true := by rfl) :
    PI X (.Tuple elts kk tpos) (.Call (.Attribute e "items" apos) [] [] cpos) (iItemsT td) := by
  refine ⟨fun pins s σ H R I h => ?_⟩
  refine wpAny_Call_method (T := "dict") (id := "dict.items") hbase rfl hline F.plainAttrs_dict F.slot_dict_items F.type_dict_items (thn (he.run pins s σ H _ I h) fun u s1 ⟨x, H1, I1, rx, d, o, kvs, ex, hd, q⟩ => ?_)
  subst ex
  obtain rfl : u = Value.ref d := rx
  obtain ⟨hs, hgd, hx, es, ep, hdt, hsz, ent⟩ := frzT2 I1 hd
  have raw : DT.Raw s1.heap d es ep := ⟨o, hgd, hx, hdt⟩
  refine ⟨raw.typeIs, (fun b q => by cases q; exact ⟨o, hgd, hx.2.1⟩), ?_⟩
  have I2 : Inv X pins σ H1 { s1 with heap := s1.heap.push { cls := .type "dict_items", data := .fields #[.ref d] } } := I1.kept (t' := s1.toks) fun b ob q => Heap.get?_push_of_some _ q
  have fin : wpAny (model X.prog X.w) X.A (pyIter (.ref s1.heap.objs.size)) (PIE X pins σ (.Tuple elts kk tpos) R) X.xe { s1 with heap := s1.heap.push { cls := .type "dict_items", data := .fields #[.ref d] } } := by
    refine DT.iterI (d := d) (es := es) (ep := ep) ⟨_, Heap.get?_push_size _ rfl, rfl, rfl⟩ (raw.push _) (pi_one (tk := s1.toks) I2 _ (turn_itemsT _ hdt) ⟨.none, .none, ?_⟩ q)
    rw [← hsz]
    exact Heap.get?_push_size _ rfl
  show wpAny _ _ (callWith cpos (.builtin "dict.items") [.ref d] [] []) _ X.xe s1
  exact method_meetsIn F.slot_dict_items F.entry_dict_items rfl (PySem.evalArgs_none ⟨rfl, raw.typeIs, F.args_dict_items_1 _, _, DT.meetsItems (es := es) (ep := ep) hs, ⟨raw, fin⟩⟩)
theorem walk_itemsT {d : Addr} {o : Obj} {kvs : List (List L2.Key × V)} : Walk (Itit d o kvs) kvs.length (fun H => H d = some (.frz o (.dT kvs)))
    (fun i H x H' => ∃ (T : Addr) (k : List L2.Key) (v : V) (q : Addr), kvs[i]? = some (k, v) ∧ x = .ref T ∧ H T = none ∧ H q = some (.tup (k.map kV)) ∧ H' = upd H T (.tup [.ref q, v])) :=
  ⟨fun i H hi h => ⟨h, hi⟩, fun H h => ⟨h, Nat.le_refl _⟩, fun i H x H' hi h y => y⟩
/-! ### dict(pairs) -/
theorem storedAllH_nodup {κ : Type} [DecidableEq κ] : ∀ (ps acc : List (κ × Addr × Value)), ((acc ++ ps).map (·.1)).Nodup → PySem.storedAllH acc ps = acc ++ ps
  | [], acc, _ => by rw [List.append_nil]; rfl
  | p :: ps, acc, h => by
    have hno : atKey acc p.1 = none := by
      unfold atKey
      rw [List.find?_eq_none.mpr]
      · rfl
      · intro x hx e
        have e1 : x.1 = p.1 := of_decide_eq_true e
        rw [List.map_append, List.nodup_append] at h
        exact h.2.2 x.1 (List.mem_map.mpr ⟨x, hx, rfl⟩) p.1 (by rw [List.map_cons]; exact List.mem_cons_self) e1
    show PySem.storedAllH (storedH acc p.1 p.2.1 p.2.2) ps = acc ++ p :: ps
    rw [storedH_new hno]
    have e2 : acc ++ p :: ps = (acc ++ [p]) ++ ps := by rw [List.append_assoc]; rfl
    rw [e2] at h ⊢
    exact storedAllH_nodup ps (acc ++ [p]) h
theorem isTupleKey_keeps {P : Program} {w : World} {h h' : Heap} {ks : List L2.Key} {a : Addr} (x : (tupleKind (mixKind P w)).is h ks a) (e : ∀ o, h.get? a = some o → h'.get? a = some o) : (tupleKind (mixKind P w)).is h' ks a := by
  obtain ⟨o, its, n, h1, h2, h3, h4⟩ := x
  exact ⟨o, its, n, e _ h1, h2, h3, h4⟩
section
variable {X : Cx} {pins : List (Addr × Obj)} {σ : L2.St} {H : Hp} {s : Shared}
theorem pairsT_of (I : Inv X pins σ H s) : ∀ {ts : List Addr} {kvs : List (List L2.Key × Addr × V)}, Paired (fun t kv => H t = some (.tup [.ref kv.2.1, kv.2.2]) ∧ H kv.2.1 = some (.tup (kv.1.map kV))) ts kvs →
    ∃ us : List (List L2.Key × Addr × Value), Paired (fun kv u => kv.1 = u.1 ∧ kv.2.1 = u.2.1 ∧ RelV kv.2.2 u.2.2) kvs us ∧ us.length = ts.length ∧
      ∀ (j : Nat) (u : List L2.Key × Addr × Value), us[j]? = some u → ∃ t, ts[j]? = some t ∧ IsTup s.heap t #[.ref u.2.1, u.2.2] ∧ H u.2.1 = some (.tup (u.1.map kV))
  | _, _, .nil => ⟨[], .nil, rfl, fun j u e => by simp at e⟩
  | _, _, .cons (a := t) (b := kv) h r => by
    obtain ⟨us, r1, hl, hp⟩ := pairsT_of I r
    obtain ⟨_, its, rv, ht⟩ := (show ObjOk X.prog X.w H s.heap t (.tup [.ref kv.2.1, kv.2.2]) from I.hok t _ h.1)
    obtain ⟨u, y, ei, ru, ry⟩ := vals2 rv
    subst ei
    obtain rfl : u = Value.ref kv.2.1 := ru
    refine ⟨(kv.1, kv.2.1, y) :: us, .cons ⟨rfl, rfl, ry⟩ r1, by rw [List.length_cons, List.length_cons, hl], fun j q e => ?_⟩
    cases j with
    | zero =>
      have e' : (kv.1, kv.2.1, y) = q := Option.some.inj e
      subst e'
      exact ⟨t, rfl, ht, h.2⟩
    | succ j =>
      obtain ⟨t2, e1, e2, e3⟩ := hp j q (by simpa using e)
      exact ⟨t2, by simpa using e1, e2, e3⟩
def rDictT (K : PySem.W.Frag) : List V → Hp → VK → Prop := fun xs H Q => ∃ (a : Addr) (ts : List Addr) (kvs : List (List L2.Key × Addr × V)), xs = [.ref a] ∧ SqL K H a (ts.map V.ref) ∧
  Paired (fun t kv => H t = some (.tup [.ref kv.2.1, kv.2.2]) ∧ H kv.2.1 = some (.tup (kv.1.map kV))) ts kvs ∧ (kvs.map (·.1)).Nodup ∧ ∀ p, H p = none → Q (.ref p) (upd H p (.dT (kvs.map fun kv => (kv.1, kv.2.2))))
theorem paired_keys {kvs : List (List L2.Key × Addr × V)} {us : List (List L2.Key × Addr × Value)} (r : Paired (fun kv u => kv.1 = u.1 ∧ kv.2.1 = u.2.1 ∧ RelV kv.2.2 u.2.2) kvs us) : us.map (·.1) = kvs.map (·.1) := by
  induction r with
  | nil => rfl
  | cons h t ih => rw [List.map_cons, List.map_cons, ih, h.1]
theorem paired_objs {H' : Hp} {kvs : List (List L2.Key × Addr × V)} {us : List (List L2.Key × Addr × Value)} (r : Paired (fun kv u => kv.1 = u.1 ∧ kv.2.1 = u.2.1 ∧ RelV kv.2.2 u.2.2) kvs us) (h : ∀ u ∈ us, H' u.2.1 = some (.tup (u.1.map kV))) :
    Paired (fun (p : List L2.Key × V) (q : List L2.Key × Addr × Value) => p.1 = q.1 ∧ H' q.2.1 = some (.tup (p.1.map kV)) ∧ RelV p.2 q.2.2) (kvs.map fun kv => (kv.1, kv.2.2)) us := by
  induction r with
  | nil => exact .nil
  | cons hh t ih => exact .cons ⟨hh.1, by have := h _ List.mem_cons_self; rw [← hh.1] at this; exact this, hh.2.2⟩ (ih fun u hu => h u (List.mem_cons_of_mem _ hu))
theorem call_dictT (hcalm : X.calm = true) (hu : X.A.units + 64 < cLine) : CallR X (.type "dict") (rDictT X.K) := by
  intro pins s σ H xs us Q I r q
  obtain ⟨a, ts, kvs, ex, hq, hp, hn, q⟩ := q
  subst ex
  obtain ⟨u, eu, rx⟩ := vals1 r
  subst eu
  cases rx
  obtain ⟨its, rv, pl, hz⟩ := I.list hq
  have ei := refs_at rv
  subst ei
  rw [List.length_map] at hz
  obtain ⟨zs, rel, hl, hzs⟩ := pairsT_of I hp
  obtain ⟨o, n, ho, hc, hd, hdat⟩ := pl
  have hlp : (zs.map fun z => (Value.ref z.2.1, z.2.2)).length = ts.length := by rw [List.length_map, hl]
  have lt : ∀ z ∈ zs, z.2.1 < s.heap.objs.size ∧ H z.2.1 = some (.tup (z.1.map kV)) := fun z hm => by
    obtain ⟨j, hj⟩ := List.mem_iff_getElem?.mp hm
    obtain ⟨_, _, _, e3⟩ := hzs j z hj
    refine ⟨?_, e3⟩
    obtain ⟨_, its2, _, ht⟩ := (show ObjOk X.prog X.w H s.heap z.2.1 (.tup (z.1.map kV)) from I.hok _ _ e3)
    exact ht.lt
  refine PySem.call_dict_pairsH (knd := KndT X) (ps := zs) (PairArg.list a (ts.map Value.ref).toArray (fun j => ts.getD j 0) (zs.map fun z => (Value.ref z.2.1, z.2.2))) (I.ok.hd hcalm) (show X.A.in1.in1.units < cLine from by show X.A.units + 1 + 1 < cLine; omega)
    ⟨⟨o, n, ho, hc, hd, hdat⟩, by rw [hlp, List.size_toArray, List.length_map], fun j k v e => ?_⟩ ⟨by rw [List.length_map], fun i key v e => ?_⟩ (fun h' hk z hm => ?_) (by rw [hlp]; exact hz) fun h' tk dd k => ?_
  · rw [List.getElem?_map] at e
    cases e1 : zs[j]? with
    | none => rw [e1] at e; cases e
    | some z =>
      rw [e1] at e
      cases e
      obtain ⟨t, e2, e3, _⟩ := hzs j z e1
      have e4 : ts.getD j 0 = t := by rw [List.getD_eq_getElem?_getD, e2]; rfl
      dsimp only
      rw [e4]
      refine ⟨by simp [e2], .inl ?_⟩
      obtain ⟨o2, ho2, hc2, n2, hd2⟩ := e3
      exact ⟨o2, ho2, hc2, n2, hd2⟩
  · have e : (zs.map fun z => (Value.ref z.2.1, z.2.2))[i]? = some (key, v) := e
    rw [List.getElem?_map] at e
    cases e1 : zs[i]? with
    | none => rw [e1] at e; cases e
    | some z =>
      rw [e1] at e
      cases e
      exact ⟨z.1, z.2.1, rfl, rfl⟩
  · obtain ⟨l1, l2⟩ := lt z hm
    exact isTupleKey_keeps (key_of I.hok l2) fun o e => hk _ o (Nat.ne_of_lt l1) (fun h => nomatch h) e
  · have hm : (s.heap.objs.size == sysModules) = false := beq_eq_false_iff_ne.mpr (Nat.ne_of_gt I.big)
    rw [storedAllH_nodup zs [] (by rw [List.nil_append, paired_keys rel]; exact hn), List.nil_append] at dd
    obtain ⟨qo, es, ep, h1, h2, h3, h4, _, h6⟩ := dd
    have hlen : (kvs.map fun kv => (kv.1, kv.2.2)).length ≤ sizeLine := by
      rw [List.length_map, Paired.length rel, hl]
      exact hz
    refine ⟨.ref s.heap.objs.size, upd H s.heap.objs.size (.dT (kvs.map fun kv => (kv.1, kv.2.2))), I.laid (t' := tk) (fun b o e => k b o (fun h => nomatch h) e) (Nat.le_refl _) ⟨hlen, hm, zs, paired_objs rel fun z hz2 => ?_, qo, es, ep, h1, h2, h3, h4, h6⟩, rfl, q _ (I.hok.fresh (Nat.le_refl _))⟩
    obtain ⟨l1, l2⟩ := lt z hz2
    rw [upd_ne (Nat.ne_of_lt l1)]
    exact l2
end
end Wt
set_option maxHeartbeats 4000000
/-! Dicts whose keys are pairs of ints, with the heap out of sight. -/
namespace Wt
open PySem PySem.Spec PyProof.Rows L2 RZ
/-! ### what is held at a key -/
def look {α : Type} (ks : List (Int × Int)) (xs : List α) (k : Int × Int) : Option α := ((ks.zip xs).find? fun p => decide (p.1 = k)).map (·.2)
def putKs (ks : List (Int × Int)) (k : Int × Int) : List (Int × Int) := if k ∈ ks then ks else ks ++ [k]
def putXs {α : Type} (ks : List (Int × Int)) (xs : List α) (k : Int × Int) (y : α) : List α := if k ∈ ks then (ks.zip xs).map (fun p => if p.1 = k then y else p.2) else xs ++ [y]
theorem kp_inj {a b : Int × Int} (h : kp a = kp b) : a = b := by
  unfold kp at h
  obtain ⟨a1, a2⟩ := a
  obtain ⟨b1, b2⟩ := b
  simp only [List.cons.injEq, Sum.inl.injEq, and_true] at h
  rw [h.1, h.2]
theorem kp_eq {a b : Int × Int} : decide (kp a = kp b) = decide (a = b) := by
  by_cases h : a = b
  · subst h; simp
  · rw [decide_eq_false h, decide_eq_false fun z => h (kp_inj z)]
theorem kp_map (k : Int × Int) : (kp k).map kV = [.int k.1, .int k.2] := rfl
theorem valV_dkv : ∀ (ks : List (Int × Int)) (vs : List V) (k : Int × Int), valV (dkv ks vs) (kp k) = look ks vs k
  | [], _, _ => rfl
  | _ :: _, [], _ => rfl
  | k0 :: ks, v :: vs, k => by
    have ih := valV_dkv ks vs k
    show valV ((kp k0, v) :: dkv ks vs) (kp k) = _
    unfold look
    rw [List.zip_cons_cons, List.find?_cons]
    by_cases h : k0 = k
    · subst h
      rw [valV_pos rfl]
      simp
    · rw [valV_neg (fun z => h (kp_inj z)), ih]
      simp only [decide_eq_false h]
      rfl
theorem dkv_any {ks : List (Int × Int)} {vs : List V} (hl : ks.length = vs.length) (k : Int × Int) : ((dkv ks vs).any fun kv => decide (kv.1 = kp k)) = decide (k ∈ ks) := by
  unfold dkv
  induction ks generalizing vs with
  | nil => simp
  | cons k0 ks ih =>
    cases vs with
    | nil => cases hl
    | cons v vs =>
      rw [List.map_cons, List.zip_cons_cons, List.any_cons, ih (Nat.succ.inj hl)]
      show (decide (kp k0 = kp k) || _) = _
      rw [kp_eq]
      by_cases h : k0 = k
      · subst h; simp
      · simp [h, Ne.symm h, List.mem_cons]
theorem look_some {α : Type} {ks : List (Int × Int)} {xs : List α} (hl : ks.length = xs.length) (k : Int × Int) : (look ks xs k).isSome = decide (k ∈ ks) := by
  induction ks generalizing xs with
  | nil => simp [look]
  | cons k0 ks ih =>
    cases xs with
    | nil => cases hl
    | cons x xs =>
      have ih := ih (Nat.succ.inj hl)
      unfold look at ih ⊢
      rw [List.zip_cons_cons, List.find?_cons]
      by_cases h : k0 = k
      · subst h; simp
      · simp only [decide_eq_false h]
        rw [ih]
        simp [List.mem_cons, Ne.symm h]
theorem putK_dkv {ks : List (Int × Int)} {vs : List V} (hl : ks.length = vs.length) (k : Int × Int) (v : V) : putK (dkv ks vs) (kp k) v = dkv (putKs ks k) (putXs ks vs k v) := by
  unfold putK putKs putXs
  rw [dkv_any hl]
  by_cases h : k ∈ ks
  · rw [if_pos (decide_eq_true h), if_pos h, if_pos h]
    clear h
    unfold dkv
    induction ks generalizing vs with
    | nil => rfl
    | cons k0 ks ih =>
      cases vs with
      | nil => cases hl
      | cons v0 vs =>
        have ih := ih (Nat.succ.inj hl)
        rw [List.map_cons, List.zip_cons_cons, List.map_cons, ih, List.zip_cons_cons, List.map_cons, List.zip_cons_cons]
        congr 1
        by_cases h2 : k0 = k
        · subst h2; simp
        · simp [h2]
          intro z
          exact absurd (kp_inj z) h2
  · rw [if_neg (by rw [decide_eq_false h]; exact Bool.false_ne_true), if_neg h, if_neg h]
    unfold dkv
    rw [List.map_append, List.zip_append (by rw [List.length_map]; exact hl)]
    rfl
theorem putXs_length {α : Type} {ks : List (Int × Int)} {xs : List α} (hl : ks.length = xs.length) (k : Int × Int) (y : α) : (putKs ks k).length = (putXs ks xs k y).length := by
  unfold putKs putXs
  by_cases h : k ∈ ks
  · rw [if_pos h, if_pos h, List.length_map, List.length_zip, ← hl, Nat.min_self]
  · rw [if_neg h, if_neg h, List.length_append, List.length_append, hl]
    rfl
section
variable {K : PySem.W.Frag} {A B F H : Hp} {ρ : Slots} {S : Store} {σ : L2.St}
theorem VsOK.look : ∀ {ks : List (Int × Int)} {xs : List Pv} {vs : List V} {k : Int × Int} {y : Pv}, VsOK K B F xs vs → Wt.look ks xs k = some y → ∃ u, Wt.look ks vs k = some u ∧ VOK K B F y u
  | [], _, _, _, _, _, h => by simp [Wt.look] at h
  | _ :: _, _, _, _, _, .nil, h => by simp [Wt.look] at h
  | k0 :: ks, _, _, k, y, .cons (x := x) (v := v) h1 t, h => by
    unfold Wt.look at h ⊢
    rw [List.zip_cons_cons, List.find?_cons] at h ⊢
    by_cases e : k0 = k
    · subst e
      simp only [decide_true] at h ⊢
      have e2 : x = y := Option.some.inj h
      subst e2
      exact ⟨v, rfl, h1⟩
    · simp only [decide_eq_false e] at h ⊢
      exact VsOK.look (ks := ks) t h
theorem VsOK.putXs {x : Pv} {v : V} (r : VOK K B F x v) : ∀ {ks : List (Int × Int)} {xs : List Pv} {vs : List V} (k : Int × Int), ks.length = xs.length → VsOK K B F xs vs → VsOK K B F (Wt.putXs ks xs k x) (Wt.putXs ks vs k v) := fun {ks xs vs} k hl h => by
  unfold Wt.putXs
  by_cases hk : k ∈ ks
  · rw [if_pos hk, if_pos hk]
    clear hk
    induction ks generalizing xs vs with
    | nil => exact .nil
    | cons k0 ks ih =>
      cases h with
      | nil => cases hl
      | cons h1 t =>
        rw [List.zip_cons_cons, List.zip_cons_cons, List.map_cons, List.map_cons]
        refine .cons ?_ (ih (Nat.succ.inj hl) t)
        by_cases e : k0 = k
        · simp only [if_pos e]; exact r
        · simp only [if_neg e]; exact h1
  · rw [if_neg hk, if_neg hk]
    exact h.snoc r
end
/-- x is a dict to be read -/
inductive DicOf (S : Store) : Pv → List (Int × Int) → List Pv → Prop
  | bor {lk : Option Addr} {ks : List (Int × Int)} {xs : List Pv} : DicOf S (.dic lk ks xs) ks xs
  | own {l : Addr} {ks : List (Int × Int)} {xs : List Pv} : (l, Cell.dct ks xs) ∈ S → DicOf S (ptr l) ks xs
theorem rdx_mono {H H' : Hp} {a : Addr} {o : HO} (b : Same H H') (h : Rd H a o) : Rd H' a o := rd_mono b h
theorem DicOf.read {K : PySem.W.Frag} {A B F H : Hp} {ρ : Slots} {S : Store} {σ : L2.St} {x : Pv} {ks : List (Int × Int)} {xs : List Pv} {v : V} (h : DicOf S x ks xs) (en : EnvOK K A B F H ρ S σ) (vx : VOK K B F x v) :
    ∃ a vs, v = .ref a ∧ Rd H a (.dT (dkv ks vs)) ∧ ks.length = xs.length ∧ VsOK K B F xs vs := by
  cases h with
  | bor =>
    cases vx with
    | dic h1 h2 h3 => exact ⟨_, _, rfl, rd_mono en.exB h1.rd, h2, h3⟩
  | own hk =>
    cases vx with
    | val =>
      obtain ⟨_, _, vs, h1, h2, h3⟩ := en.st _ hk
      exact ⟨_, vs, rfl, .inl h1, h2, h3.hp⟩
theorem key_at {K : PySem.W.Frag} {A B F H : Hp} {ρ : Slots} {S : Store} {σ : L2.St} (en : EnvOK K A B F H ρ S σ) {a b : Int} {v : V} (vx : VOK K B F (.dat (.tuple [.int a, .int b])) v) : ∃ p, v = .ref p ∧ H p = some (.tup ((kp (a, b)).map kV)) := by
  cases vx with
  | dat h =>
    cases h with
    | tup h1 h2 =>
      have e := Dvs.ints (is := [a, b]) h2
      subst e
      exact ⟨_, rfl, en.exF _ _ h1⟩
section
variable {c : Cn} {ρ : Slots} {S : Store} {Φ : Pv → Store → Prop} {td tk tv te : TE} {P : Po} {t : TS}
/-- d[k] -/
theorem ve_dget (h : VE c ρ S td fun x S1 => VE c ρ S1 tk fun z S2 => ∃ ks xs a b y, DicOf S2 x ks xs ∧ z = .dat (.tuple [.int a, .int b]) ∧ look ks xs (a, b) = some y ∧ Φ y S2) : VE c ρ S (tDGet td tk) Φ := fun A B F H σ en er Q q => by
  refine h A B F H σ en er _ fun x v S1 F1 H1 h1 en1 f1 vx => ?_
  refine h1 A B F1 H1 σ en1 er _ fun z w S2 F2 H2 h2 en2 f2 vz => ?_
  obtain ⟨ks, xs, a, b, y, hd, rfl, hl, h2⟩ := h2
  obtain ⟨l, vs, rfl, hr, _, hv⟩ := hd.read en2 (vx.up f2)
  obtain ⟨p, rfl, hp⟩ := key_at en2 vz
  obtain ⟨u, hu, vy⟩ := hv.look hl
  exact ⟨l, u, rfl, .inr ⟨_, _, p, hr, rfl, hp, by rw [valV_dkv, hu]⟩, q _ _ _ F2 H2 h2 en2 (f1.trans f2) vy⟩
/-- k in d, k not in d -/
theorem ve_din (h : VE c ρ S tk fun z S1 => VE c ρ S1 td fun x S2 => ∃ ks xs a b, DicOf S2 x ks xs ∧ z = .dat (.tuple [.int a, .int b]) ∧ Φ (.dat (.bool (decide ((a, b) ∈ ks)))) S2) : VE c ρ S (tDIn tk td) Φ := fun A B F H σ en er Q q => by
  refine h A B F H σ en er _ fun z w S1 F1 H1 h1 en1 f1 vz => ?_
  refine h1 A B F1 H1 σ en1 er _ fun x v S2 F2 H2 h2 en2 f2 vx => ?_
  obtain ⟨ks, xs, a, b, hd, rfl, h2⟩ := h2
  obtain ⟨l, vs, rfl, hr, hl, hv⟩ := hd.read en2 vx
  obtain ⟨p, rfl, hp⟩ := key_at en2 (vz.up f2)
  refine ⟨l, valV (dkv ks vs) (kp (a, b)), rfl, .inr ⟨_, _, p, hr, rfl, hp, rfl⟩, ?_⟩
  rw [valV_dkv, look_some (by rw [hl, hv.length])]
  exact q _ _ _ F2 H2 h2 en2 (f1.trans f2) (.dat (.bl _))
theorem ve_dnotin (h : VE c ρ S tk fun z S1 => VE c ρ S1 td fun x S2 => ∃ ks xs a b, DicOf S2 x ks xs ∧ z = .dat (.tuple [.int a, .int b]) ∧ Φ (.dat (.bool (!decide ((a, b) ∈ ks)))) S2) : VE c ρ S (tDNotIn tk td) Φ := fun A B F H σ en er Q q => by
  refine h A B F H σ en er _ fun z w S1 F1 H1 h1 en1 f1 vz => ?_
  refine h1 A B F1 H1 σ en1 er _ fun x v S2 F2 H2 h2 en2 f2 vx => ?_
  obtain ⟨ks, xs, a, b, hd, rfl, h2⟩ := h2
  obtain ⟨l, vs, rfl, hr, hl, hv⟩ := hd.read en2 vx
  obtain ⟨p, rfl, hp⟩ := key_at en2 (vz.up f2)
  refine ⟨l, valV (dkv ks vs) (kp (a, b)), rfl, .inr ⟨_, _, p, hr, rfl, hp, rfl⟩, ?_⟩
  rw [valV_dkv, look_some (by rw [hl, hv.length])]
  exact q _ _ _ F2 H2 h2 en2 (f1.trans f2) (.dat (.bl _))
/-- d[k] = v -/
theorem vs_dput (h : VE c ρ S tv fun y S1 => VE c ρ S1 td fun x S2 => VE c ρ S2 tk fun z S3 => ∃ (k : Nat) (l : Addr) (ks : List (Int × Int)) (xs : List Pv) (a b : Int), x = ptr l ∧ z = .dat (.tuple [.int a, .int b]) ∧ S3[k]? = some (l, .dct ks xs) ∧ nob y = true ∧ ks.length < 100000 ∧
      P.n ρ (S3.set k (l, .dct (putKs ks (a, b)) (putXs ks xs (a, b) y)))) : VS c ρ S (sDPut td tk tv) P := fun A B F H σ en er D d => by
  refine h A B F H σ en er _ fun y u S1 F1 H1 h1 en1 f1 vy => ?_
  refine h1 A B F1 H1 σ en1 er _ fun x v S2 F2 H2 h2 en2 f2 vx => ?_
  refine h2 A B F2 H2 σ en2 er _ fun z w S3 F3 H3 h3 en3 f3 vz => ?_
  obtain ⟨k, l, ks, xs, a, b, rfl, rfl, hk, hn, hz, h3⟩ := h3
  obtain ⟨p, rfl, hp⟩ := key_at en3 vz
  cases vx
  obtain ⟨_, _, vs, e1, e2, e3⟩ := en3.st _ (List.mem_of_getElem? hk)
  have el : ks.length = vs.length := by rw [e2, e3.length]
  have hd := putK_dkv el (a, b) u
  refine ⟨l, _, rfl, DPut.t e1 hp (by unfold dkv; rw [List.length_zip, List.length_map]; exact Nat.lt_of_le_of_lt (Nat.min_le_left _ _) (Nat.lt_of_lt_of_le hz (by decide))), ?_⟩
  rw [hd]
  refine d.nx ρ _ F3 _ σ h3 (en3.put hk ⟨Wt.putXs ks vs (a, b) u, upd_same, putXs_length e2 _ _, ?_⟩) ((f1.trans f2).trans f3)
  exact VsOK.putXs ((vy.up (f2.trans f3)).nob hn) (a, b) e2 e3
/-- {} -/
theorem ve_dnewT (h : ∀ p, Φ (ptr p) ((p, .dct [] []) :: S)) : VE c ρ S tDNewT Φ := fun A B F H σ en er Q q p np =>
  q _ _ _ _ _ (h p) (en.own (o := .dT []) (c := .dct [] []) np ⟨[], upd_same, rfl, .nil⟩) (Same.refl F) .val
/-- {k: v} -/
theorem ve_dispT (h : ∀ p, VE c ρ ((p, .dct [] []) :: S) tk fun z S1 => VE c ρ S1 tv fun y S2 => ∃ (k : Nat) (a b : Int), S2[k]? = some (p, .dct [] []) ∧ z = .dat (.tuple [.int a, .int b]) ∧ nob y = true ∧ Φ (ptr p) (S2.set k (p, .dct [(a, b)] [y]))) : VE c ρ S (tDispT tk tv) Φ := fun A B F H σ en er Q q p np => by
  have en0 := en.own (o := .dT []) (c := .dct [] []) np ⟨[], upd_same, rfl, .nil⟩
  refine h p A B F _ σ en0 er _ fun z w S1 F1 H1 h1 en1 f1 vz => ?_
  refine h1 A B F1 H1 σ en1 er _ fun y u S2 F2 H2 h2 en2 f2 vy => ?_
  obtain ⟨k, a, b, hk, rfl, hn, h2⟩ := h2
  obtain ⟨b', rfl, hb⟩ := key_at en2 (vz.up f2)
  obtain ⟨_, _, vs, e1, e2, e3⟩ := en2.st _ (List.mem_of_getElem? hk)
  cases e3
  refine ⟨kp (a, b), b', e1, rfl, hb, ?_⟩
  exact q _ _ _ F2 _ h2 (en2.put hk ⟨[u], upd_same, rfl, .cons (vy.nob hn) .nil⟩) (f1.trans f2) .val
/-- list(d) -/
theorem isKeys_frz {K : PySem.W.Frag} {A B H : Hp} {ρ : Slots} {S : Store} {σ : L2.St} : ∀ {ks : List (Int × Int)} {vs : List V} {bs : List Addr} {F : Hp}, ks.length = vs.length → IsKeys H (dkv ks vs) bs → EnvOK K A B F H ρ S σ →
    ∃ F', EnvOK K A B F' H ρ S σ ∧ Same F F' ∧ Dvs K F' (bs.map V.ref) (ks.map fun k => .tuple [.int k.1, .int k.2])
  | [], [], bs, F, _, h, en => by
    cases h
    exact ⟨F, en, Same.refl F, .nil⟩
  | [], _ :: _, _, _, h, _, _ => by cases h
  | _ :: _, [], _, _, h, _, _ => by cases h
  | k :: ks, v :: vs, bs, F, hl, h, en => by
    have h : IsKeys H ((kp k, v) :: dkv ks vs) bs := h
    cases h with
    | cons h1 t =>
      obtain ⟨en1, f1⟩ := en.frzT h1
      obtain ⟨F2, en2, f2, d2⟩ := isKeys_frz (Nat.succ.inj hl) t en1
      exact ⟨F2, en2, f1.trans f2, .cons (.tup (f2 _ _ upd_same) (.cons (.int _) (.cons (.int _) .nil))) d2⟩
abbrev keyD (k : Int × Int) : D := .tuple [.int k.1, .int k.2]
theorem vc_listT {x : Pv} {ks : List (Int × Int)} {xs : List Pv} (hx : DicOf S x ks xs) (hp : ∀ p, Φ (ptr p) ((p, .lst ((ks.map keyD).map .dat)) :: S)) :
    VC c ρ (fun xs H Q => ∃ d kvs, xs = [V.ref d] ∧ Rd H d (.dT kvs) ∧ ∀ p bs, H p = none → IsKeys H kvs bs → Q (.ref p) (upd H p (.lst (bs.map V.ref)))) [x] S Φ := fun A B F H σ en er vs vx Q q => by
  cases vx with
  | cons v1 v2 =>
    cases v2
    obtain ⟨a, ws, rfl, hr, hl, hv⟩ := hx.read en v1
    refine ⟨a, _, rfl, hr, fun p bs np hb => ?_⟩
    obtain ⟨F1, en1, f1, d1⟩ := isKeys_frz (by rw [hl, hv.length]) hb en
    exact q _ _ _ F1 _ (hp p) (en1.own (o := .lst (bs.map V.ref)) (c := .lst ((ks.map keyD).map .dat)) np ⟨_, upd_same, .of_dvs d1⟩) f1 .val
/-- dict(pairs), the values True -/
theorem vc_dictT {x : Pv} {ks : List (Int × Int)} (hx : LsS S x ((ks.map fun k => PyData.tuple [keyD k, .bool true]).map .dat)) (hn : ks.Nodup) (hp : ∀ p, Φ (ptr p) ((p, .dct ks (ks.map fun _ => .dat (.bool true))) :: S)) :
    VC c ρ (rDictT c.K) [x] S Φ := fun A B F H σ en er vs vx Q q => by
  cases vx with
  | cons v1 v2 =>
    cases v2
    obtain ⟨a, ws, rfl, hl, hv⟩ := hx.read en v1
    have hd := hv.dats (dats_map _)
    have key : ∀ {ks : List (Int × Int)} {ws : List V}, Dvs c.K F ws (ks.map fun k => PyData.tuple [keyD k, .bool true]) → ∃ (ts bs : List Addr), ws = ts.map V.ref ∧ bs.length = ks.length ∧ Paired (fun t kv => H t = some (.tup [.ref kv.2.1, kv.2.2]) ∧ H kv.2.1 = some (.tup (kv.1.map kV))) ts ((ks.zip bs).map fun p => (kp p.1, p.2, V.bl true)) := by
      intro ks
      induction ks with
      | nil => intro ws h; cases h; exact ⟨[], [], rfl, rfl, .nil⟩
      | cons k ks ih =>
        intro ws h
        cases h with
        | cons h1 t =>
          obtain ⟨ts, bs, rfl, e2, e3⟩ := ih t
          cases h1 with
          | tup g1 g2 =>
            rename_i T us
            cases g2 with
            | cons g2 g3 =>
              cases g3 with
              | cons g3 g4 =>
                cases g4
                cases g3
                cases g2 with
                | tup g5 g6 =>
                  rename_i b us2
                  have e := Dvs.ints (is := [k.1, k.2]) g6
                  subst e
                  exact ⟨T :: ts, b :: bs, rfl, by rw [List.length_cons, List.length_cons, e2], .cons ⟨en.exF _ _ g1, en.exF _ _ g5⟩ e3⟩
    obtain ⟨ts, bs, rfl, e2, e3⟩ := key hd
    have em : (((ks.zip bs).map fun p => (kp p.1, p.2, V.bl true)).map fun kv => (kv.1, kv.2.2)) = dkv ks (ks.map fun _ => V.bl true) := by
      unfold dkv
      clear hn hp hx hd e3 key hl hv
      induction ks generalizing bs with
      | nil => rfl
      | cons k ks ih =>
        cases bs with
        | nil => cases e2
        | cons b bs =>
          have := ih bs (Nat.succ.inj e2)
          rw [List.zip_cons_cons, List.map_cons, List.map_cons, this]
          rfl
    have ek : (((ks.zip bs).map fun p => (kp p.1, p.2, V.bl true)).map (·.1)).Nodup := by
      have e4 : (((ks.zip bs).map fun p => (kp p.1, p.2, V.bl true)).map (·.1)) = ks.map kp := by
        rw [List.map_map]
        have : ((fun x => x.1) ∘ fun (p : (Int × Int) × Addr) => (kp p.1, p.2, V.bl true)) = kp ∘ Prod.fst := rfl
        rw [this, ← List.map_map, List.map_fst_zip (by omega)]
      rw [e4]
      exact List.pairwise_map.mpr (hn.imp fun h z => h (kp_inj z))
    refine ⟨a, ts, _, rfl, sqL_of hl, e3, ek, fun p np => ?_⟩
    rw [em]
    refine q _ _ _ F _ (hp p) (en.own (o := .dT (dkv ks (ks.map fun _ => V.bl true))) (c := .dct ks (ks.map fun _ => .dat (.bool true))) np ⟨_, upd_same, by rw [List.length_map], ?_⟩) (Same.refl F) .val
    clear hn hp hx hd e3 key hl hv e2 em ek
    induction ks with
    | nil => exact .nil
    | cons k ks ih => exact .cons (.dat (.bl true)) ih
end
end Wt
set_option maxHeartbeats 4000000
/-! A borrowed dict is walked: it is locked meanwhile. -/
namespace Wt
open PySem PySem.Spec PyProof.Rows L2 RZ
section
variable {c : Cn} {ρ : Slots} {S : Store} {td : TE}
theorem dkv_get {ks : List (Int × Int)} {vs : List V} {i : Nat} {k : List L2.Key} {v : V} (h : (dkv ks vs)[i]? = some (k, v)) : ∃ k0, ks[i]? = some k0 ∧ k = kp k0 ∧ vs[i]? = some v := by
  unfold dkv at h
  obtain ⟨h1, h2⟩ := List.getElem?_zip_eq_some.mp h
  rw [List.getElem?_map] at h1
  cases e : ks[i]? with
  | none => rw [e] at h1; cases h1
  | some k0 => rw [e] at h1; exact ⟨k0, rfl, (Option.some.inj h1).symm, h2⟩
theorem dkv_len {ks : List (Int × Int)} {vs : List V} (h : ks.length = vs.length) : (dkv ks vs).length = ks.length := by
  unfold dkv
  rw [List.length_zip, List.length_map, ← h, Nat.min_self]
/-- for k in d -/
theorem vi_keysT {Ψ : List Pv → Store → Prop} (h : VE c ρ S td fun x S1 => ∃ ks xs, (∃ a, x = .dic (some a) ks xs) ∧ Ψ (ks.map fun k => .dat (keyD k)) S1) : VI c ρ S (iKeys td) Ψ := fun A B F H σ en er R q => by
  refine h A B F H σ en er _ fun x v S1 F1 H1 h1 en1 f1 vx => ?_
  obtain ⟨ks, xs, ⟨a0, rfl⟩, h1⟩ := h1
  cases vx with
  | dic hd hl hv =>
    rename_i a vs
    obtain ⟨_, o, hd⟩ := hd
    have el : ks.length = vs.length := by rw [hl, hv.length]
    have w1 := walk_keysT (d := a) (o := o) (kvs := dkv ks vs)
    rw [dkv_len el, show ks.length = (ks.map fun k => Pv.dat (keyD k)).length by rw [List.length_map]] at w1
    refine ⟨_, o, rfl, .inr ⟨_, en1.exB _ _ hd, q _ _ S1 F1 H1 h1 en1 f1 ⟨⟨_, _, w1, fun H' b f => b _ _ hd, ?_⟩⟩⟩⟩
    · rintro i H' v H'' b f ⟨rfl, k, w, p, e1, rfl, e2⟩
      obtain ⟨k0, e3, rfl, e4⟩ := dkv_get e1
      refine .key e2 ?_
      rw [List.getElem?_map, e3]
      rfl
/-- for k, v in d.items() -/
theorem vi_itemsT {Ψ : List Pv → Store → Prop} (h : VE c ρ S td fun x S1 => ∃ ks xs, (∃ a, x = .dic (some a) ks xs) ∧ Ψ ((ks.zip xs).map fun p => .tup [.dat (keyD p.1), p.2]) S1) : VI c ρ S (iItemsT td) Ψ := fun A B F H σ en er R q => by
  refine h A B F H σ en er _ fun x v S1 F1 H1 h1 en1 f1 vx => ?_
  obtain ⟨ks, xs, ⟨a0, rfl⟩, h1⟩ := h1
  cases vx with
  | dic hd hl hv =>
    rename_i a vs
    obtain ⟨_, o, hd⟩ := hd
    have el : ks.length = vs.length := by rw [hl, hv.length]
    have w1 := walk_itemsT (d := a) (o := o) (kvs := dkv ks vs)
    rw [dkv_len el, show ks.length = ((ks.zip xs).map fun p => Pv.tup [.dat (keyD p.1), p.2]).length by rw [List.length_map, List.length_zip, ← hl, Nat.min_self]] at w1
    refine ⟨_, o, _, rfl, en1.exB _ _ hd, q _ _ S1 F1 H1 h1 en1 f1 ⟨⟨_, _, w1, fun H' b f => b _ _ hd, ?_⟩⟩⟩
    · rintro i H' v H'' b f ⟨T, k, w, p, e1, rfl, nT, e2, rfl⟩
      obtain ⟨k0, e3, rfl, e4⟩ := dkv_get e1
      obtain ⟨y, e5, vy⟩ := hv.get e4
      refine .item e2 nT ?_ vy
      have ez : (ks.zip xs)[i]? = some (k0, y) := List.getElem?_zip_eq_some.mpr ⟨e3, e5⟩
      rw [List.getElem?_map, ez]
      rfl
end
/-! ### the lock -/
mutual
def ndc : Pv → Bool
  | .dic _ _ _ => false
  | .bor xs => ndcs xs
  | .tup xs => ndcs xs
  | _ => true
def ndcs : List Pv → Bool
  | [] => true
  | x :: xs => ndc x && ndcs xs
end
def nds : Slots → Bool
  | [] => true
  | none :: ρ => nds ρ
  | some x :: ρ => ndc x && nds ρ
/-- all that is no dict of pairs stays -/
def Kp (B B' : Hp) : Prop := ∀ a o, B a = some o → (∀ kv, o ≠ .dT kv) → (∀ q kv, o ≠ .frz q (.dT kv)) → B' a = some o
section
variable {K : PySem.W.Frag} {F B B' : Hp}
mutual
theorem Dv.kp (e : Kp B B') : ∀ (d : D) (v : V), Dv K B v d → Dv K B' v d
  | .none, _, h => by cases h; exact .non
  | .bool b, _, h => by cases h; exact .bl b
  | .int i, _, h => by cases h; exact .int i
  | .str x, _, h => by cases h; exact .str x
  | .list ds, _, h => by
    cases h with
    | lst hs ha => exact .lst (e _ _ hs (fun _ z => nomatch z) (fun _ _ z => nomatch z)) (Dvs.kp e ds _ ha)
  | .tuple ds, _, h => by
    cases h with
    | tup hs ha => exact .tup (e _ _ hs (fun _ z => nomatch z) (fun _ _ z => nomatch z)) (Dvs.kp e ds _ ha)
  | .dict _, _, h => by
    cases h with
    | dct hs => exact .dct (e _ _ hs (fun _ z => nomatch z) (fun _ _ z => nomatch z))
theorem Dvs.kp (e : Kp B B') : ∀ (ds : List D) (vs : List V), Dvs K B vs ds → Dvs K B' vs ds
  | [], _, h => by cases h; exact .nil
  | d :: ds, _, h => by
    cases h with
    | cons h1 h2 => exact .cons (Dv.kp e d _ h1) (Dvs.kp e ds _ h2)
end
theorem sqL_kp {a : Addr} {xs : List V} (e : Kp B B') (h : SqL K B a xs) : SqL K B' a xs := by
  rcases h with (h | ⟨o, h⟩) | h
  · exact .inl (.inl (e _ _ h (fun _ z => nomatch z) (fun _ _ z => nomatch z)))
  · exact .inl (.inr ⟨o, e _ _ h (fun _ z => nomatch z) (fun _ _ z => nomatch z)⟩)
  · exact .inr h
mutual
theorem VOK.kp (e : Kp B B') : ∀ {x : Pv} {v : V}, ndc x = true → VOK K B F x v → VOK K B' F x v
  | _, _, _, .dat h => .dat h
  | _, _, n, .bor h t => .bor (e _ _ h (fun _ z => nomatch z) (fun _ _ z => nomatch z)) (VsOK.kp e n t)
  | _, _, _, .rd h => .rd (Dv.kp e _ _ h)
  | _, _, _, .scr h => .scr (sqL_kp e h)
  | _, _, _, .val => .val
  | _, _, n, .tup h t => .tup h (VsOK.kp e n t)
  | _, _, n, .dic h l t => by cases n
theorem VsOK.kp (e : Kp B B') : ∀ {xs : List Pv} {vs : List V}, ndcs xs = true → VsOK K B F xs vs → VsOK K B' F xs vs
  | [], _, _, .nil => .nil
  | x :: xs, _, n, .cons h t => by
    have n1 : (ndc x && ndcs xs) = true := n
    rw [Bool.and_eq_true] at n1
    exact .cons (VOK.kp e n1.1 h) (VsOK.kp e n1.2 t)
end
theorem slots_kp (e : Kp B B') : ∀ {ρ : Slots} {σ : L2.St}, nds ρ = true → Paired (SlOK K B F) ρ σ → Paired (SlOK K B' F) ρ σ
  | _, _, _, .nil => .nil
  | none :: ρ, _, n, .cons _ t => .cons trivial (slots_kp e (show nds ρ = true from n) t)
  | some x :: ρ, _, n, .cons h t => by
    have n1 : (ndc x && nds ρ) = true := n
    rw [Bool.and_eq_true] at n1
    obtain ⟨v, e1, h1⟩ := h
    exact .cons ⟨v, e1, h1.kp e n1.1⟩ (slots_kp e n1.2 t)
theorem kp_lock {d : Addr} {o : Obj} {kv : List (List L2.Key × V)} (h : B d = some (.dT kv)) : Kp B (upd B d (.frz o (.dT kv))) := fun a u e n1 _ => by
  have z : a ≠ d := fun z => by rw [z, h] at e; exact n1 _ (Option.some.inj e).symm
  rw [upd_ne z]
  exact e
theorem kp_unlock {d : Addr} {o : Obj} {kv : List (List L2.Key × V)} : Kp (upd B d (.frz o (.dT kv))) B := fun a u e _ n2 => by
  have z : a ≠ d := fun z => by rw [z, upd_same] at e; exact n2 _ _ (Option.some.inj e).symm
  rw [upd_ne z] at e
  exact e
theorem ndcs_dats : ∀ ds : List D, ndcs (ds.map .dat) = true
  | [] => rfl
  | d :: ds => by show (true && ndcs (ds.map .dat)) = true; rw [ndcs_dats ds]; rfl
theorem ndcs_bors : ∀ kts : List ((Int × Int) × List D), ndcs (kts.map fun p => .bor (p.2.map .dat)) = true
  | [] => rfl
  | p :: kts => by
    have h : ∀ ds : List D, ndcs (ds.map .dat) = true := fun ds => by
      induction ds with
      | nil => rfl
      | cons d ds ih => show (true && ndcs (ds.map .dat)) = true; rw [ih]; rfl
    show (ndcs (p.2.map .dat) && ndcs (kts.map fun p => .bor (p.2.map .dat))) = true
    rw [h, ndcs_bors kts]
    rfl
end
/-- some slots forgotten -/
def Fgt (ρ ρ' : Slots) : Prop := ∃ js : List Nat, ρ' = js.foldl (fun ρ j => ρ.set j none) ρ
theorem Fgt.refl (ρ : Slots) : Fgt ρ ρ := ⟨[], rfl⟩
theorem EnvOK.fgt {K : PySem.W.Frag} {A B F H : Hp} {ρ ρ' : Slots} {S : Store} {σ : L2.St} (en : EnvOK K A B F H ρ S σ) (h : Fgt ρ ρ') : EnvOK K A B F H ρ' S σ := by
  obtain ⟨js, rfl⟩ := h
  induction js generalizing ρ with
  | nil => exact en
  | cons j js ih =>
    refine ih ?_
    have e : σ = σ.set j (σ.getD j none) := by
      apply List.ext_getElem?
      intro i
      by_cases hi : j = i
      · subst hi
        by_cases hl : j < σ.length
        · rw [List.getElem?_set_self hl, List.getD_eq_getElem?_getD, List.getElem?_eq_getElem hl]
          rfl
        · rw [List.getElem?_eq_none (by omega), List.getElem?_eq_none (by rw [List.length_set]; omega)]
      · rw [List.getElem?_set_ne hi]
    have en2 := en.unset (i := j) (o := σ.getD j none)
    rw [← e] at en2
    exact en2
theorem set_set_id {α : Type} {l : List α} {i : Nat} {x : α} (h : l[i]? = some x) (y : α) : (l.set i y).set i x = l := by
  apply List.ext_getElem?
  intro j
  by_cases hj : i = j
  · subst hj
    have hl : i < l.length := (List.getElem?_eq_some_iff.mp h).1
    rw [List.getElem?_set_self (by rw [List.length_set]; exact hl), h]
  · rw [List.getElem?_set_ne hj, List.getElem?_set_ne hj]
section
variable {c : Cn} {ρ : Slots} {S : Store} {P : Po} {t : TS}
theorem vs_lock (i : Nat) {ks : List (Int × Int)} {xs : List Pv} (hx : ρ[i]? = some (some (.dic none ks xs))) (hn : nds (ρ.set i none) = true) (hxs : ndcs xs = true)
    (h : ∀ a, VS ⟨c.K, c.E, fun _ => False⟩ (ρ.set i (some (.dic (some a) ks xs))) S t {
      n := fun ρ1 S1 => ∃ ρ2, Fgt ρ1 ρ2 ∧ ρ2[i]? = some (some (.dic (some a) ks xs)) ∧ nds (ρ2.set i none) = true ∧ P.n (ρ2.set i (some (.dic none ks xs))) S1,
      r := fun x S1 => nob x = true ∧ P.r x S1 }) : VS c ρ S (tLock t) P := fun A B F H σ en er D d => by
  obtain ⟨v, e, hv⟩ := en.get hx
  cases hv with
  | dic hd hl hvs =>
    rename_i a vs
    have hd : B a = some (.dT (dkv ks vs)) := hd
    have hH := en.exB _ _ hd
    refine ⟨a, _, hH, True.intro, fun od => ?_⟩
    have nA : F a = none := by
      cases z : F a with
      | none => rfl
      | some o =>
        have z1 := en.exF _ _ z
        rw [hH] at z1
        cases z1
        exact absurd z (en.fk _ _)
    have hlt : i < σ.length := (List.getElem?_eq_some_iff.mp e).1
    have es : σ.set i (some (.ref a)) = σ := by
      apply List.ext_getElem?
      intro j
      by_cases hj : i = j
      · subst hj
        rw [List.getElem?_set_self hlt, e]
      · rw [List.getElem?_set_ne hj]
    have stne : ∀ p ∈ S, p.1 ≠ a := fun p hp z => by
      have := (en.st p hp).1
      rw [z, hd] at this
      cases this
    have en1 : EnvOK c.K A (upd B a (.frz od (.dT (dkv ks vs)))) F (upd H a (.frz od (.dT (dkv ks vs)))) (ρ.set i none) S σ := by
      have en0 := en.unset (i := i) (o := some (.ref a))
      rw [es] at en0
      refine ⟨fun x o z => ?_, fun x o z => ?_, en.af, fun x o z => ?_, slots_kp (kp_lock hd) hn en0.sl, fun p hp => ?_, en.nd, en.fk⟩
      · by_cases hxa : x = a
        · subst hxa; rw [upd_same] at z ⊢; exact z
        · rw [upd_ne hxa] at z ⊢; exact en.exB _ _ z
      · rw [upd_ne (ne_of_none z nA)]
        exact en.exF _ _ z
      · rw [upd_ne (ne_of_none z nA)]
        exact en.fr _ _ z
      · obtain ⟨z1, z2, z3⟩ := en.st p hp
        exact ⟨by rw [upd_ne (stne p hp)]; exact z1, z2, z3.mono (Same.refl F) (upd_ne (stne p hp))⟩
    have en2 := en1.set (i := i) (x := .dic (some a) ks xs) (v := .ref a) (.dic (show DcAt _ _ _ (some a) from ⟨rfl, od, upd_same⟩) hl (hvs.kp (kp_lock hd) hxs))
    rw [es, show (ρ.set i none).set i (some (Pv.dic (some a) ks xs)) = ρ.set i (some (.dic (some a) ks xs)) from List.set_set ..] at en2
    -- back behind it
    have back : ∀ {ρ1 ρ2 : Slots} {S1 : Store} {F1 H1 : Hp} {σ1 : L2.St}, EnvOK c.K A (upd B a (.frz od (.dT (dkv ks vs)))) F1 H1 ρ1 S1 σ1 → Fgt ρ1 ρ2 → nds (ρ2.set i none) = true →
        H1 a = some (.frz od (.dT (dkv ks vs))) ∧ EnvOK c.K A B F1 (upd H1 a (.dT (dkv ks vs))) (ρ2.set i none) S1 (σ1.set i (some (.ref a))) := fun {ρ1 ρ2 S1 F1 H1 σ1} en3 hf hn2 => by
      have h1 := en3.exB _ _ (upd_same (H := B) (a := a) (o := .frz od (.dT (dkv ks vs))))
      have nF1 : F1 a = none := by
        cases z : F1 a with
        | none => rfl
        | some o =>
          rcases en3.fr _ _ z with z1 | z1 | ⟨zs, z1⟩
          · rw [en.af _ _ z1] at nA; cases nA
          · rw [upd_same] at z1; cases z1
          · have z2 := en3.exF _ _ z
            rw [h1, z1] at z2
            cases z2
      refine ⟨h1, ?_⟩
      have en4 := (en3.fgt hf).unset (i := i) (o := some (.ref a))
      refine ⟨fun x o z => ?_, fun x o z => ?_, en3.af, fun x o z => ?_, slots_kp kp_unlock hn2 en4.sl, fun p hp => ?_, en3.nd, en3.fk⟩
      · by_cases hxa : x = a
        · subst hxa; rw [upd_same, ← hd]; exact z
        · rw [upd_ne hxa]; exact en3.exB _ _ (by rw [upd_ne hxa]; exact z)
      · rw [upd_ne (ne_of_none z nF1)]
        exact en3.exF _ _ z
      · have z1 := en3.fr _ _ z
        rw [upd_ne (ne_of_none z nF1)] at z1
        exact z1
      · obtain ⟨z1, z2, z3⟩ := en3.st p hp
        have hne : p.1 ≠ a := fun z => by rw [z, upd_same] at z1; cases z1
        exact ⟨by rw [upd_ne hne] at z1; exact z1, z2, z3.mono (Same.refl F1) (upd_ne hne)⟩
    refine h a A (upd B a (.frz od (.dT (dkv ks vs)))) F _ σ en2 (fun C _ z => z.elim) _ ⟨?_, ?_, fun _ _ _ _ _ z => z.elim, fun _ _ _ _ _ z => z.elim⟩
    · rintro ρ1 S1 F1 H1 σ1 ⟨ρ2, hf, h2, hn2, hp⟩ en3 f3
      obtain ⟨k1, en4⟩ := back en3 hf hn2
      refine ⟨k1, ?_⟩
      obtain ⟨w, ew, vw⟩ := (en3.fgt hf).get h2
      have ew2 : w = .ref a := by
        cases vw with
        | dic q1 _ _ => rw [q1.1]
      subst ew2
      have hl1 : i < σ1.length := (List.getElem?_eq_some_iff.mp ew).1
      have es1 : σ1.set i (some (.ref a)) = σ1 := by
        apply List.ext_getElem?
        intro j
        by_cases hj : i = j
        · subst hj
          rw [List.getElem?_set_self hl1, ew]
        · rw [List.getElem?_set_ne hj]
      rw [es1] at en4
      have en5 := en4.set (i := i) (x := .dic none ks xs) (v := .ref a) (.dic (show DcAt _ _ _ none from hd) hl (hvs.up f3))
      rw [es1, List.set_set] at en5
      exact d.nx _ S1 F1 _ σ1 hp en5 f3
    · rintro x w ρ1 S1 F1 H1 σ1 ⟨hnx, hr⟩ en3 f3 vx
      have hall : ∀ ρ1 : Slots, ∃ ρ2, Fgt ρ1 ρ2 ∧ nds (ρ2.set i none) = true := fun ρ1 => by
        refine ⟨(List.range ρ1.length).foldl (fun ρ j => ρ.set j none) ρ1, ⟨_, rfl⟩, ?_⟩
        have hz : ∀ (n : Nat) (ρ : Slots), ((List.range n).foldl (fun ρ j => ρ.set j none) ρ).length = ρ.length ∧ ∀ j, (j < n → j < ρ.length → ((List.range n).foldl (fun ρ j => ρ.set j none) ρ)[j]? = some none) := fun n ρ => by
          induction n with
          | zero => exact ⟨rfl, fun j h => by omega⟩
          | succ n ih =>
            rw [List.range_succ, List.foldl_append]
            refine ⟨by show (List.set _ n none).length = _; rw [List.length_set, ih.1], fun j hj hj2 => ?_⟩
            show (List.set _ n none)[j]? = some none
            by_cases e : n = j
            · subst e
              rw [List.getElem?_set_self (by rw [ih.1]; exact hj2)]
            · rw [List.getElem?_set_ne e]
              exact ih.2 j (by omega) hj2
        obtain ⟨z1, z2⟩ := hz ρ1.length ρ1
        have hnn : ∀ ρ : Slots, (∀ j, j < ρ.length → ρ[j]? = some none) → nds ρ = true := fun ρ => by
          induction ρ with
          | nil => intro _; rfl
          | cons x ρ ih =>
            intro h
            have h0 : some x = some none := h 0 (Nat.zero_lt_succ _)
            cases h0
            exact ih fun j hj => h (j + 1) (Nat.succ_lt_succ hj)
        refine hnn _ fun j hj => ?_
        rw [List.length_set, z1] at hj
        by_cases e : i = j
        · subst e
          rw [List.getElem?_set_self (by rw [z1]; exact hj)]
        · rw [List.getElem?_set_ne e]
          exact z2 j hj hj
      obtain ⟨ρ2, hf, hn2⟩ := hall ρ1
      obtain ⟨k1, en4⟩ := back en3 hf hn2
      exact ⟨k1, d.rt x w _ S1 F1 _ _ hr en4 f3 (vx.nob hnx).hp⟩
end
end Wt
set_option maxHeartbeats 4000000
namespace Wt
open PySem PySem.Spec PyProof.Rows L2 RZ
theorem call_dictTK {X : Cx} {K : PySem.W.Frag} (h : X.K = K) (hcalm : X.calm = true) (hu : X.A.units + 64 < cLine) : CallR X (.type "dict") (rDictT K) := by subst h; exact call_dictT hcalm hu
abbrev rInsert : V → List V → Hp → VK → Prop := fun x vs H Q => ∃ (l : Addr) (xs : List V) (i : Int) (y : V), x = .ref l ∧ vs = [.int i, y] ∧ H l = some (.lst xs) ∧ xs.length < sizeLine ∧ 0 ≤ i ∧ i < 2 ^ 63 ∧
    Q .non (upd H l (.lst (xs.take i.toNat ++ [y] ++ xs.drop i.toNat)))
section
variable {c : Cn} {ρ : Slots} {S : Store} {Φ : Pv → Store → Prop} {ta tb te ti : TE} {P : Po}
/-- xs.insert(i, e), the list an own one -/
theorem vs_ins (h : VE c ρ S ta fun x S1 => ∃ (k0 : Nat) (l : Addr) (zs : List Pv), x = ptr l ∧ S1[k0]? = some (l, .lst zs) ∧ VE c ρ S1 ti fun i S2 => VE c ρ S2 te fun y S3 => ∃ (k j : Nat) (xs : List Pv), i = .dat (.int (j : Int)) ∧ S3[k]? = some (l, .lst xs) ∧ nob y = true ∧ xs.length < 100000 ∧ j ≤ 100000 ∧
      P.n ρ (S3.set k (l, .lst (xs.take j ++ [y] ++ xs.drop j)))) :
    VS c ρ S (tDrop (tBM c.K "list" rInsert ta (tCons ti (tCons te tNil)))) P := fun A B F H σ en er D d => by
  refine h A B F H σ en er _ fun x v S1 F1 H1 h1 en1 f1 vx => ?_
  obtain ⟨k0, l, zs, rfl, hk0, h1⟩ := h1
  cases vx with
  | val =>
    obtain ⟨_, _, ws, w1, _⟩ := en1.st _ (List.mem_of_getElem? hk0)
    refine ⟨.inl ⟨rfl, ws, .inl (.inl w1)⟩, ?_⟩
    refine h1 A B F1 H1 σ en1 er _ fun i u S2 F2 H2 h2 en2 f2 vi => ?_
    refine h2 A B F2 H2 σ en2 er _ fun y w S3 F3 H3 h3 en3 f3 vy => ?_
    obtain ⟨k, j, xs, rfl, hk, hn, hz, hj, h3⟩ := h3
    obtain ⟨_, _, vs, e1, e2⟩ := en3.st _ (List.mem_of_getElem? hk)
    cases vi with
    | dat vi =>
      cases vi
      refine ⟨l, vs, (j : Int), w, rfl, rfl, e1, by rw [e2.length]; exact Nat.lt_of_lt_of_le hz (by decide), by omega, by omega, ?_⟩
      refine d.nx ρ _ F3 _ σ h3 (en3.put hk ⟨vs.take j ++ [w] ++ vs.drop j, upd_same, ?_⟩) ((f1.trans f2).trans f3)
      exact ((e2.take j).append (.cons (vy.nob hn) .nil)).append (e2.drop j)
end
end Wt
set_option maxHeartbeats 4000000
/-! The arithmetic of low ratios; rows; trains by their ratios. -/
namespace Wt
open PySem PySem.Spec PyProof.Rows L2
/-! ### lowest -/
def low (a b : Int) : Int × Int := (a / ((Nat.gcd a.natAbs b.natAbs : Nat) : Int), b / ((Nat.gcd a.natAbs b.natAbs : Nat) : Int))
abbrev rat (r : Int × Int) : D := .tuple [.int r.1, .int r.2]
theorem low_spec {a b : Int} (ha : a ≠ 0) (hb : 0 < b) : (low a b).1 ≠ 0 ∧ 0 < (low a b).2 ∧ Nat.gcd (low a b).1.natAbs (low a b).2.natAbs = 1 ∧ (low a b).1 * b = a * (low a b).2 ∧ (low a b).1.natAbs ≤ a.natAbs ∧ (low a b).2.natAbs ≤ b.natAbs := by
  have hg : 0 < Nat.gcd a.natAbs b.natAbs := Nat.gcd_pos_of_pos_right _ (by omega)
  obtain ⟨x, hx⟩ : ((Nat.gcd a.natAbs b.natAbs : Nat) : Int) ∣ a := Int.ofNat_dvd_left.mpr (Nat.gcd_dvd_left _ _)
  obtain ⟨y, hy⟩ : ((Nat.gcd a.natAbs b.natAbs : Nat) : Int) ∣ b := Int.ofNat_dvd_left.mpr (Nat.gcd_dvd_right _ _)
  have hg0 : ((Nat.gcd a.natAbs b.natAbs : Nat) : Int) ≠ 0 := by omega
  have e1 : (low a b).1 = x := by
    show a / ((Nat.gcd a.natAbs b.natAbs : Nat) : Int) = x
    have : a / ((Nat.gcd a.natAbs b.natAbs : Nat) : Int) = (((Nat.gcd a.natAbs b.natAbs : Nat) : Int) * x) / ((Nat.gcd a.natAbs b.natAbs : Nat) : Int) := by rw [← hx]
    rw [this, Int.mul_ediv_cancel_left _ hg0]
  have e2 : (low a b).2 = y := by
    show b / ((Nat.gcd a.natAbs b.natAbs : Nat) : Int) = y
    have : b / ((Nat.gcd a.natAbs b.natAbs : Nat) : Int) = (((Nat.gcd a.natAbs b.natAbs : Nat) : Int) * y) / ((Nat.gcd a.natAbs b.natAbs : Nat) : Int) := by rw [← hy]
    rw [this, Int.mul_ediv_cancel_left _ hg0]
  rw [e1, e2]
  generalize hG : Nat.gcd a.natAbs b.natAbs = g at *
  have na : a.natAbs = g * x.natAbs := by rw [hx, Int.natAbs_mul]; rfl
  have nb : b.natAbs = g * y.natAbs := by rw [hy, Int.natAbs_mul]; rfl
  refine ⟨fun z => ha (by rw [hx, z, Int.mul_zero]), ?_, ?_, ?_, ?_, ?_⟩
  · rcases Int.lt_trichotomy 0 y with z | z | z
    · exact z
    · rw [hy, ← z, Int.mul_zero] at hb; exact absurd hb (by decide)
    · have : (g : Int) * y < 0 := Int.mul_neg_of_pos_of_neg (by omega) z
      omega
  · have h1 : g * Nat.gcd x.natAbs y.natAbs = g := by rw [← Nat.gcd_mul_left, ← na, ← nb, hG]
    have h2 : g * Nat.gcd x.natAbs y.natAbs = g * 1 := by rw [h1, Nat.mul_one]
    exact Nat.eq_of_mul_eq_mul_left hg h2
  · rw [hx, hy, ← Int.mul_assoc, Int.mul_comm x]
  · rw [na]; exact Nat.le_mul_of_pos_left _ hg
  · rw [nb]; exact Nat.le_mul_of_pos_left _ hg
theorem mod_in (z : Int) {n : Int} (h : 0 < n) : 0 ≤ z % n ∧ z % n < n := ⟨Int.emod_nonneg z (by omega), Int.emod_lt_of_pos z h⟩
theorem cdw {z : Int} {n : Int} (h : 0 < n) (h2 : n.natAbs < 2 ^ 100) : CDivW z n := wide_div (b := 100) h h2 (by decide) (by decide)
/-- the sizes that the program's numbers keep to -/
def Sm (n : Nat) (a : Int) : Prop := a.natAbs < 2 ^ n
theorem Sm.mul {n m : Nat} {a b : Int} (ha : Sm n a) (hb : Sm m b) : Sm (n + m) (a * b) := by
  unfold Sm
  exact wide_lt ha hb
theorem Sm.mono {n m : Nat} {a : Int} (ha : Sm n a) (h : n ≤ m) : Sm m a := Nat.lt_of_lt_of_le ha (Nat.pow_le_pow_right (by decide) h)
theorem Sm.cmul {n m : Nat} {a b : Int} (ha : Sm n a) (hb : Sm m b) (h : n + m ≤ 900000 := by decide) : CMul a b ∨ CMulW a b := .inr (by
  have h1 := ha.mono (Nat.le_succ n)
  have h2 := hb.mono (Nat.le_succ m)
  exact wide_mul h1 h2 (Nat.succ_pos n) (Nat.succ_pos m) (by omega))
/-- such a ratio -/
structure Rt (n : Nat) (t b : Int) : Prop where
  t0 : t ≠ 0
  b0 : 0 < b
  st : Sm n t
  sb : Sm n b
/-! ### one low ratio for each size -/
theorem low_uniq {p q x y : Int} (hq : 0 < q) (hy : 0 < y) (g1 : Nat.gcd p.natAbs q.natAbs = 1) (g2 : Nat.gcd x.natAbs y.natAbs = 1) (e : p * y = x * q) : p = x ∧ q = y := by
  have h1 : q.natAbs ∣ y.natAbs := by
    have h : q.natAbs ∣ p.natAbs * y.natAbs := by rw [← Int.natAbs_mul, e, Int.natAbs_mul]; exact Nat.dvd_mul_left _ _
    exact Nat.Coprime.dvd_of_dvd_mul_left (show Nat.Coprime q.natAbs p.natAbs from by rw [Nat.coprime_comm]; exact g1) h
  have h2 : y.natAbs ∣ q.natAbs := by
    have h : y.natAbs ∣ x.natAbs * q.natAbs := by rw [← Int.natAbs_mul, ← e, Int.natAbs_mul]; exact Nat.dvd_mul_left _ _
    exact Nat.Coprime.dvd_of_dvd_mul_left (show Nat.Coprime y.natAbs x.natAbs from by rw [Nat.coprime_comm]; exact g2) h
  have h3 := Nat.dvd_antisymm h1 h2
  have h4 : q = y := by omega
  subst h4
  exact ⟨Int.eq_of_mul_eq_mul_right (by omega) e, rfl⟩
theorem low_eq {a b c d : Int} (ha : a ≠ 0) (hb : 0 < b) (hc : c ≠ 0) (hd : 0 < d) (e : a * d = c * b) : low a b = low c d := by
  obtain ⟨p0, q0, g1, e1, _, _⟩ := low_spec ha hb
  obtain ⟨x0, y0, g2, e2, _, _⟩ := low_spec hc hd
  have h := low_uniq q0 y0 g1 g2 (by
    refine Int.eq_of_mul_eq_mul_right (show b * d ≠ 0 from Int.mul_ne_zero (by omega) (by omega)) ?_
    generalize (low a b).1 = p at *
    generalize (low a b).2 = q at *
    generalize (low c d).1 = x at *
    generalize (low c d).2 = y at *
    clear g1 g2 p0 x0 q0 y0 ha hb hc hd
    have z1 : p * y * (b * d) = (p * b) * (y * d) := by ac_rfl
    have z2 : x * q * (b * d) = (x * d) * (q * b) := by ac_rfl
    rw [z1, z2, e1, e2]
    have z3 : a * q * (y * d) = (a * d) * (q * y) := by ac_rfl
    have z4 : c * y * (q * b) = (c * b) * (q * y) := by ac_rfl
    rw [z3, z4, e])
  exact Prod.ext h.1 h.2
theorem low_pos {a b : Int} (ha : 0 < a) (hb : 0 < b) : 0 < (low a b).1 := by
  obtain ⟨p0, q0, _, e, _, _⟩ := low_spec (show a ≠ 0 by omega) hb
  have h := Int.mul_pos ha q0
  rw [← e] at h
  rcases Int.lt_trichotomy 0 (low a b).1 with z | z | z
  · exact z
  · exact absurd z.symm p0
  · have := Int.mul_neg_of_neg_of_pos z hb
    omega
theorem low_mul {a b x y : Int} (ha : 0 < a) (hb : 0 < b) (hx : 0 < x) (hy : 0 < y) : low ((low a b).1 * x) ((low a b).2 * y) = low (a * x) (b * y) := by
  obtain ⟨p0, q0, _, e, _, _⟩ := low_spec (show a ≠ 0 by omega) hb
  refine low_eq (Int.mul_ne_zero p0 (by omega)) (Int.mul_pos q0 hy) (Int.mul_ne_zero (by omega) (by omega)) (Int.mul_pos hb hy) ?_
  have z1 : (low a b).1 * x * (b * y) = ((low a b).1 * b) * (x * y) := by ac_rfl
  rw [z1, e]
  ac_rfl
theorem low_mul2 {a b x y : Int} (ha : 0 < a) (hb : 0 < b) (hx : 0 < x) (hy : 0 < y) : low ((low a b).1 * (low x y).1) ((low a b).2 * (low x y).2) = low (a * x) (b * y) := by
  have p := low_pos hx hy
  have q := (low_spec (show x ≠ 0 by omega) hy).2.1
  have e := (low_spec (show x ≠ 0 by omega) hy).2.2.2.1
  rw [low_mul ha hb p q]
  refine low_eq (Int.mul_ne_zero (by omega) (by omega)) (Int.mul_pos hb q) (Int.mul_ne_zero (by omega) (by omega)) (Int.mul_pos hb hy) ?_
  have z1 : a * (low x y).1 * (b * y) = ((low x y).1 * y) * (a * b) := by ac_rfl
  rw [z1, e]
  ac_rfl
theorem low_inv {a b : Int} (ha : 0 < a) (hb : 0 < b) : low b a = ((low a b).2, (low a b).1) := by
  show (b / ((Nat.gcd b.natAbs a.natAbs : Nat) : Int), a / ((Nat.gcd b.natAbs a.natAbs : Nat) : Int)) = (b / ((Nat.gcd a.natAbs b.natAbs : Nat) : Int), a / ((Nat.gcd a.natAbs b.natAbs : Nat) : Int))
  rw [Nat.gcd_comm]
theorem low_one : low 1 1 = (1, 1) := by decide
/-- a low ratio, above nought -/
structure Lw (r : Int × Int) : Prop where
  p : 0 < r.1
  q : 0 < r.2
  g : Nat.gcd r.1.natAbs r.2.natAbs = 1
theorem lw_low {a b : Int} (ha : 0 < a) (hb : 0 < b) : Lw (low a b) := ⟨low_pos ha hb, (low_spec (by omega) hb).2.1, (low_spec (by omega) hb).2.2.1⟩
theorem Lw.eq {r s : Int × Int} (h : Lw r) (k : Lw s) (e : r.1 * s.2 = s.1 * r.2) : r = s := by
  have h2 := low_uniq h.q k.q h.g k.g e
  exact Prod.ext h2.1 h2.2
theorem Lw.low {r : Int × Int} (h : Lw r) : low r.1 r.2 = r := (lw_low h.p h.q).eq h (low_spec (by have := h.p; omega) h.q).2.2.2.1
/-! ### less -/
def lessB (o k : Int × Int) : Bool := decide (o.1 * k.2 < k.1 * o.2)
theorem lessB_iff {o k : Int × Int} : lessB o k = true ↔ o.1 * k.2 < k.1 * o.2 := by unfold lessB; exact decide_eq_true_iff
theorem lessB_trans {a b c : Int × Int} (ha : 0 < a.2) (hb : 0 < b.2) (hc : 0 < c.2) (h1 : lessB a b = true) (h2 : lessB b c = true) : lessB a c = true := by
  rw [lessB_iff] at *
  have k1 : a.1 * b.2 * c.2 < b.1 * a.2 * c.2 := Int.mul_lt_mul_of_pos_right h1 hc
  have k2 : b.1 * c.2 * a.2 < c.1 * b.2 * a.2 := Int.mul_lt_mul_of_pos_right h2 ha
  have e1 : b.1 * a.2 * c.2 = b.1 * c.2 * a.2 := by ac_rfl
  have k3 : (a.1 * c.2) * b.2 < (c.1 * a.2) * b.2 := by
    have e2 : (a.1 * c.2) * b.2 = a.1 * b.2 * c.2 := by ac_rfl
    have e3 : (c.1 * a.2) * b.2 = c.1 * b.2 * a.2 := by ac_rfl
    rw [e2, e3]
    omega
  exact Int.lt_of_mul_lt_mul_right k3 (by omega)
theorem lessB_total {a b : Int × Int} (ha : Lw a) (hb : Lw b) (ne : a ≠ b) (h : ¬ lessB a b = true) : lessB b a = true := by
  rw [lessB_iff] at *
  have : a.1 * b.2 ≠ b.1 * a.2 := fun e => ne (ha.eq hb e)
  omega
theorem lessB_irr (a : Int × Int) : lessB a a = false := by
  unfold lessB
  exact decide_eq_false (by omega)
/-! ### rows -/
def insAt (row : List (Int × Int)) (k : Int × Int) : List (Int × Int) := row.take (row.filter fun o => lessB o k).length ++ [k] ++ row.drop (row.filter fun o => lessB o k).length
def rise (ks : List (Int × Int)) : List (Int × Int) := ks.foldl insAt []
theorem insAt_perm (row : List (Int × Int)) (k : Int × Int) : (insAt row k).Perm (k :: row) := by
  unfold insAt
  generalize (row.filter fun o => lessB o k).length = n
  have h : (row.take n ++ [k] ++ row.drop n).Perm ([k] ++ row.take n ++ row.drop n) := (List.perm_append_comm (l₁ := row.take n) (l₂ := [k])).append_right _
  rw [List.append_assoc [k], List.take_append_drop] at h
  exact h
theorem foldl_perm : ∀ (ks row : List (Int × Int)), (ks.foldl insAt row).Perm (ks ++ row)
  | [], row => List.Perm.refl _
  | k :: ks, row => by
    have h1 := foldl_perm ks (insAt row k)
    have h2 : (ks ++ insAt row k).Perm (ks ++ k :: row) := (insAt_perm row k).append_left ks
    exact (h1.trans h2).trans (List.perm_middle)
theorem rise_perm (ks : List (Int × Int)) : (rise ks).Perm ks := by
  have h := foldl_perm ks []
  rw [List.append_nil] at h
  exact h
abbrev Srt (row : List (Int × Int)) : Prop := row.Pairwise fun o k => lessB o k = true
theorem insAt_cons {x k : Int × Int} {xs : List (Int × Int)} (h : lessB x k = true) : insAt (x :: xs) k = x :: insAt xs k := by
  unfold insAt
  rw [List.filter_cons_of_pos (p := fun o => lessB o k) (a := x) h]
  rfl
theorem insAt_first {row : List (Int × Int)} {k : Int × Int} (h : ∀ o ∈ row, lessB o k = false) : insAt row k = k :: row := by
  unfold insAt
  have e : (row.filter fun o => lessB o k) = [] := List.filter_eq_nil_iff.mpr fun o ho => by rw [h o ho]; exact Bool.false_ne_true
  rw [e]
  rfl
theorem lessB_not {a b : Int × Int} (h : lessB a b = true) : lessB b a = false := by
  rw [lessB_iff] at h
  unfold lessB
  exact decide_eq_false (by omega)
theorem insAt_srt {k : Int × Int} (hk : Lw k) : ∀ {row : List (Int × Int)}, Srt row → (∀ o ∈ row, Lw o) → k ∉ row → Srt (insAt row k)
  | [], _, _, _ => List.pairwise_singleton _ _
  | x :: xs, hs, hl, hn => by
    have hx := hl x List.mem_cons_self
    have hxs := List.pairwise_cons.mp hs
    by_cases h : lessB x k = true
    · rw [insAt_cons h]
      refine List.pairwise_cons.mpr ⟨fun y hy => ?_, insAt_srt hk hxs.2 (fun o ho => hl o (List.mem_cons_of_mem _ ho)) fun z => hn (List.mem_cons_of_mem _ z)⟩
      rcases List.mem_cons.mp ((insAt_perm xs k).mem_iff.mp hy) with rfl | hy
      · exact h
      · exact hxs.1 y hy
    · have hkx := lessB_total hx hk (fun z => hn (by rw [z]; exact List.mem_cons_self)) h
      have hall : ∀ o ∈ x :: xs, lessB k o = true := fun o ho => by
        rcases List.mem_cons.mp ho with rfl | ho
        · exact hkx
        · exact lessB_trans hk.q hx.q (hl o (List.mem_cons_of_mem _ ho)).q hkx (hxs.1 o ho)
      rw [insAt_first fun o ho => lessB_not (hall o ho)]
      exact List.pairwise_cons.mpr ⟨hall, hs⟩
theorem foldl_srt : ∀ {ks row : List (Int × Int)}, (∀ k ∈ ks, Lw k) → (∀ o ∈ row, Lw o) → Srt row → (ks ++ row).Nodup → Srt (ks.foldl insAt row)
  | [], _, _, _, h, _ => h
  | k :: ks, row, hk, hr, hs, hn => by
    have hn1 : (ks ++ insAt row k).Nodup := by
      have h2 : (ks ++ insAt row k).Perm (k :: (ks ++ row)) := ((insAt_perm row k).append_left ks).trans List.perm_middle
      exact h2.nodup_iff.mpr hn
    have hkr : k ∉ row := fun z => (List.nodup_cons.mp hn).1 (List.mem_append_right _ z)
    refine foldl_srt (ks := ks) (fun x hx => hk x (List.mem_cons_of_mem _ hx)) (fun o ho => ?_) (insAt_srt (hk k List.mem_cons_self) hs hr hkr) hn1
    rcases List.mem_cons.mp ((insAt_perm row k).mem_iff.mp ho) with rfl | ho
    · exact hk _ List.mem_cons_self
    · exact hr o ho
theorem rise_srt {ks : List (Int × Int)} (hk : ∀ k ∈ ks, Lw k) (hn : ks.Nodup) : Srt (rise ks) := foldl_srt hk (fun _ h => nomatch h) List.Pairwise.nil (by rw [List.append_nil]; exact hn)
/-! ### all trains of so many pairs -/
def prodN (ps : List (Int × Int)) : Int := ps.foldl (fun n p => n * p.1) 1
def prodD (ps : List (Int × Int)) : Int := ps.foldl (fun n p => n * p.2) 1
theorem prodN_snoc (ps : List (Int × Int)) (p : Int × Int) : prodN (ps ++ [p]) = prodN ps * p.1 := by unfold prodN; rw [List.foldl_append]; rfl
theorem prodD_snoc (ps : List (Int × Int)) (p : Int × Int) : prodD (ps ++ [p]) = prodD ps * p.2 := by unfold prodD; rw [List.foldl_append]; rfl
def InS (ts : List Int) (ps : List (Int × Int)) : Prop := ∀ p ∈ ps, p.1 ∈ ts ∧ p.2 ∈ ts
theorem foldl_pos {f : Int × Int → Int} : ∀ {ps : List (Int × Int)} {n : Int}, 0 < n → (∀ p ∈ ps, 0 < f p) → 0 < ps.foldl (fun n p => n * f p) n
  | [], _, h, _ => h
  | p :: ps, n, h, g => foldl_pos (ps := ps) (Int.mul_pos h (g p List.mem_cons_self)) fun x hx => g x (List.mem_cons_of_mem _ hx)
theorem prod_pos {ts : List Int} (ht : ∀ t ∈ ts, 0 < t) {ps : List (Int × Int)} (h : InS ts ps) : 0 < prodN ps ∧ 0 < prodD ps :=
  ⟨foldl_pos (by decide) fun p hp => ht _ (h p hp).1, foldl_pos (by decide) fun p hp => ht _ (h p hp).2⟩
def RatOf (ts : List Int) (n : Nat) (r : Int × Int) : Prop := ∃ ps, ps.length = n ∧ InS ts ps ∧ r = low (prodN ps) (prodD ps)
theorem RatOf.lw {ts : List Int} (ht : ∀ t ∈ ts, 0 < t) {n : Nat} {r : Int × Int} (h : RatOf ts n r) : Lw r := by
  obtain ⟨ps, _, hp, rfl⟩ := h
  exact lw_low (prod_pos ht hp).1 (prod_pos ht hp).2
theorem ratOf_zero {ts : List Int} {r : Int × Int} : RatOf ts 0 r ↔ r = (1, 1) := by
  constructor
  · rintro ⟨ps, h, _, rfl⟩
    obtain rfl := List.eq_nil_of_length_eq_zero h
    exact low_one
  · rintro rfl
    exact ⟨[], rfl, (fun _ h => nomatch h), low_one.symm⟩
theorem ratOf_succ {ts : List Int} (ht : ∀ t ∈ ts, 0 < t) {n : Nat} {r : Int × Int} : RatOf ts (n + 1) r ↔ ∃ q, RatOf ts n q ∧ ∃ a ∈ ts, ∃ b ∈ ts, r = low (q.1 * a) (q.2 * b) := by
  constructor
  · rintro ⟨ps, h, hp, rfl⟩
    have hne : ps ≠ [] := fun z => by rw [z] at h; cases h
    have e := (List.dropLast_concat_getLast hne).symm
    have hi : InS ts ps.dropLast := fun p hp2 => hp p ((List.dropLast_sublist ps).subset hp2)
    obtain ⟨h1, h2⟩ := prod_pos ht hi
    have hl := hp _ (List.getLast_mem hne)
    refine ⟨_, ⟨ps.dropLast, by rw [List.length_dropLast]; omega, hi, rfl⟩, _, hl.1, _, hl.2, ?_⟩
    rw [low_mul h1 h2 (ht _ hl.1) (ht _ hl.2)]
    conv => lhs; rw [e]
    rw [prodN_snoc, prodD_snoc]
  · rintro ⟨_, ⟨ps, h, hp, rfl⟩, a, ha, b, hb, rfl⟩
    obtain ⟨h1, h2⟩ := prod_pos ht hp
    refine ⟨ps ++ [(a, b)], by rw [List.length_append, h]; rfl, fun p hp2 => ?_, ?_⟩
    · rcases List.mem_append.mp hp2 with z | z
      · exact hp p z
      · obtain rfl := List.mem_singleton.mp z
        exact ⟨ha, hb⟩
    · rw [low_mul h1 h2 (ht _ ha) (ht _ hb), prodN_snoc, prodD_snoc]
theorem RatOf.more {ts : List Int} (ht : ∀ t ∈ ts, 0 < t) (hne : ts ≠ []) {n : Nat} {r : Int × Int} (h : RatOf ts n r) : RatOf ts (n + 1) r := by
  obtain ⟨t, hts⟩ : ∃ t, t ∈ ts := List.exists_mem_of_ne_nil ts hne
  have l := h.lw ht
  refine (ratOf_succ ht).mpr ⟨r, h, t, hts, t, hts, ?_⟩
  have t0 := ht t hts
  have e : low (r.1 * t) (r.2 * t) = low r.1 r.2 := low_eq (Int.mul_ne_zero (by have := l.p; omega) (by omega)) (Int.mul_pos l.q t0) (by have := l.p; omega) l.q (by ac_rfl)
  rw [e, l.low]
theorem prod_swap (ps : List (Int × Int)) : prodN (ps.map fun p => (p.2, p.1)) = prodD ps ∧ prodD (ps.map fun p => (p.2, p.1)) = prodN ps := by
  unfold prodN prodD
  rw [List.foldl_map, List.foldl_map]
  exact ⟨rfl, rfl⟩
theorem RatOf.inv {ts : List Int} (ht : ∀ t ∈ ts, 0 < t) {n : Nat} {r : Int × Int} (h : RatOf ts n r) : RatOf ts n (r.2, r.1) := by
  obtain ⟨ps, hl, hp, rfl⟩ := h
  obtain ⟨h1, h2⟩ := prod_pos ht hp
  refine ⟨ps.map fun p => (p.2, p.1), by rw [List.length_map]; exact hl, fun p hq => ?_, ?_⟩
  · obtain ⟨x, hx, rfl⟩ := List.mem_map.mp hq
    exact ⟨(hp x hx).2, (hp x hx).1⟩
  · rw [(prod_swap ps).1, (prod_swap ps).2, low_inv h1 h2]
/-! ### the dict of the trains -/
abbrev Kt := (Int × Int) × List D
def ins (acc : List Kt) (c : Kt) : List Kt := if c.1 ∈ acc.map (·.1) then acc else acc ++ [c]
def cnd (ts : List Int) (p : Kt) : List Kt := ts.flatMap fun a => ts.map fun b => (low (p.1.1 * a) (p.1.2 * b), p.2 ++ [rat (a, b)])
def wmore (kts : List Kt) (ts : List Int) : List Kt := (kts.flatMap (cnd ts)).foldl ins []
def trs (ts : List Int) : Nat → List Kt
  | 0 => [((1, 1), [])]
  | n + 1 => wmore (trs ts n) ts
theorem ins_keys (acc : List Kt) (c : Kt) : (ins acc c).map (·.1) = putKs (acc.map (·.1)) c.1 := by
  unfold ins putKs
  split
  · rfl
  · rw [List.map_append]; rfl
theorem putKs_nodup {ks : List (Int × Int)} {k : Int × Int} (h : ks.Nodup) : (putKs ks k).Nodup := by
  unfold putKs
  split
  · exact h
  · rename_i hk
    rw [List.nodup_append]
    refine ⟨h, by simp, fun a ha b hb e => ?_⟩
    obtain rfl := List.mem_singleton.mp hb
    subst e
    exact hk ha
theorem putKs_mem {ks : List (Int × Int)} {k x : Int × Int} : x ∈ putKs ks k ↔ x ∈ ks ∨ x = k := by
  unfold putKs
  split
  · rename_i hk
    exact ⟨.inl, fun h => h.elim id fun z => by rw [z]; exact hk⟩
  · rw [List.mem_append, List.mem_singleton]
theorem foldl_putKs_nodup : ∀ {cs ks : List (Int × Int)}, ks.Nodup → (cs.foldl putKs ks).Nodup
  | [], _, h => h
  | _ :: cs, _, h => foldl_putKs_nodup (cs := cs) (putKs_nodup h)
theorem foldl_putKs_mem {x : Int × Int} : ∀ {cs ks : List (Int × Int)}, x ∈ cs.foldl putKs ks ↔ x ∈ ks ∨ x ∈ cs
  | [], ks => ⟨.inl, fun h => h.elim id fun z => nomatch z⟩
  | c :: cs, ks => by
    show x ∈ cs.foldl putKs (putKs ks c) ↔ _
    rw [foldl_putKs_mem (cs := cs), putKs_mem, List.mem_cons, or_assoc]
theorem foldl_ins_keys : ∀ (cs acc : List Kt), (cs.foldl ins acc).map (·.1) = (cs.map (·.1)).foldl putKs (acc.map (·.1))
  | [], _ => rfl
  | c :: cs, acc => by
    show (cs.foldl ins (ins acc c)).map (·.1) = (cs.map (·.1)).foldl putKs (putKs (acc.map (·.1)) c.1)
    rw [foldl_ins_keys cs, ins_keys]
theorem foldl_ins_mem {x : Kt} : ∀ {cs acc : List Kt}, x ∈ cs.foldl ins acc → x ∈ acc ∨ x ∈ cs
  | [], _, h => .inl h
  | c :: cs, acc, h => by
    have h : x ∈ cs.foldl ins (ins acc c) := h
    rcases foldl_ins_mem h with h | h
    · unfold ins at h
      split at h
      · exact .inl h
      · rcases List.mem_append.mp h with h | h
        · exact .inl h
        · exact .inr (by rw [List.mem_singleton.mp h]; exact List.mem_cons_self)
    · exact .inr (List.mem_cons_of_mem _ h)
theorem ins_le (acc : List Kt) (c : Kt) : (ins acc c).length ≤ acc.length + 1 := by
  unfold ins
  split
  · omega
  · rw [List.length_append]; exact Nat.le_refl _
theorem foldl_ins_le : ∀ (cs acc : List Kt), (cs.foldl ins acc).length ≤ acc.length + cs.length
  | [], _ => Nat.le_refl _
  | c :: cs, acc => by
    have h1 := foldl_ins_le cs (ins acc c)
    have h2 := ins_le acc c
    show (cs.foldl ins (ins acc c)).length ≤ acc.length + (cs.length + 1)
    omega
/-- such an entry: its train has its ratio -/
def EOk (ts : List Int) (n : Nat) (c : Kt) : Prop := ∃ ps, ps.length = n ∧ InS ts ps ∧ c.2 = ps.map rat ∧ c.1 = low (prodN ps) (prodD ps)
theorem trs_nodup (ts : List Int) : ∀ n, ((trs ts n).map (·.1)).Nodup
  | 0 => by simp [trs]
  | n + 1 => by
    show (((((trs ts n).flatMap (cnd ts)).foldl ins []).map (·.1))).Nodup
    rw [foldl_ins_keys]
    exact foldl_putKs_nodup List.nodup_nil
theorem cnd_mem {ts : List Int} {p x : Kt} : x ∈ cnd ts p ↔ ∃ a ∈ ts, ∃ b ∈ ts, x = (low (p.1.1 * a) (p.1.2 * b), p.2 ++ [rat (a, b)]) := by
  unfold cnd
  rw [List.mem_flatMap]
  constructor
  · rintro ⟨a, ha, h⟩
    obtain ⟨b, hb, rfl⟩ := List.mem_map.mp h
    exact ⟨a, ha, b, hb, rfl⟩
  · rintro ⟨a, ha, b, hb, rfl⟩
    exact ⟨a, ha, List.mem_map.mpr ⟨b, hb, rfl⟩⟩
theorem trs_ok {ts : List Int} (ht : ∀ t ∈ ts, 0 < t) : ∀ n, ∀ c ∈ trs ts n, EOk ts n c
  | 0, c, h => by
    obtain rfl := List.mem_singleton.mp (show c ∈ [((1, 1), [])] from h)
    exact ⟨[], rfl, (fun _ h => nomatch h), rfl, low_one.symm⟩
  | n + 1, c, h => by
    have h : c ∈ ((trs ts n).flatMap (cnd ts)).foldl ins [] := h
    rcases foldl_ins_mem h with h | h
    · cases h
    · obtain ⟨p, hp, hc⟩ := List.mem_flatMap.mp h
      obtain ⟨a, ha, b, hb, rfl⟩ := cnd_mem.mp hc
      obtain ⟨ps, h1, h2, h3, h4⟩ := trs_ok ht n p hp
      obtain ⟨q1, q2⟩ := prod_pos ht h2
      refine ⟨ps ++ [(a, b)], by rw [List.length_append, h1]; rfl, fun x hx => ?_, by rw [List.map_append, h3]; rfl, ?_⟩
      · rcases List.mem_append.mp hx with z | z
        · exact h2 x z
        · obtain rfl := List.mem_singleton.mp z
          exact ⟨ha, hb⟩
      · rw [prodN_snoc, prodD_snoc, h4, low_mul q1 q2 (ht _ ha) (ht _ hb)]
theorem trs_keys {ts : List Int} (ht : ∀ t ∈ ts, 0 < t) : ∀ n r, r ∈ (trs ts n).map (·.1) ↔ RatOf ts n r
  | 0, r => by
    rw [ratOf_zero]
    show r ∈ [((1 : Int), (1 : Int))] ↔ _
    rw [List.mem_singleton]
  | n + 1, r => by
    show r ∈ (((trs ts n).flatMap (cnd ts)).foldl ins []).map (·.1) ↔ _
    rw [foldl_ins_keys, foldl_putKs_mem, ratOf_succ ht]
    constructor
    · rintro (h | h)
      · cases h
      · obtain ⟨x, hx, rfl⟩ := List.mem_map.mp h
        obtain ⟨p, hp, hc⟩ := List.mem_flatMap.mp hx
        obtain ⟨a, ha, b, hb, rfl⟩ := cnd_mem.mp hc
        exact ⟨p.1, (trs_keys ht n p.1).mp (List.mem_map.mpr ⟨p, hp, rfl⟩), a, ha, b, hb, rfl⟩
    · rintro ⟨q, hq, a, ha, b, hb, rfl⟩
      obtain ⟨p, hp, rfl⟩ := List.mem_map.mp ((trs_keys ht n q).mpr hq)
      exact .inr (List.mem_map.mpr ⟨_, List.mem_flatMap.mpr ⟨p, hp, cnd_mem.mpr ⟨a, ha, b, hb, rfl⟩⟩, rfl⟩)
theorem cnd_len (ts : List Int) (p : Kt) : (cnd ts p).length = ts.length * ts.length := by
  unfold cnd
  rw [List.length_flatMap]
  have : ∀ as : List Int, (as.map fun a => (ts.map fun b => ((low (p.1.1 * a) (p.1.2 * b), p.2 ++ [rat (a, b)]) : Kt)).length).sum = as.length * ts.length := fun as => by
    induction as with
    | nil => simp
    | cons a as ih => rw [List.map_cons, List.sum_cons, ih, List.length_map, List.length_cons, Nat.succ_mul, Nat.add_comm]
  exact this ts
theorem cnds_len (ts : List Int) : ∀ kts : List Kt, (kts.flatMap (cnd ts)).length = kts.length * (ts.length * ts.length)
  | [] => by simp
  | p :: kts => by
    rw [List.flatMap_cons, List.length_append, cnds_len ts kts, cnd_len, List.length_cons, Nat.succ_mul, Nat.add_comm]
theorem trs_len {ts : List Int} (h4 : ts.length ≤ 4) : ∀ n, (trs ts n).length ≤ 16 ^ n
  | 0 => Nat.le_refl _
  | n + 1 => by
    have h1 := foldl_ins_le ((trs ts n).flatMap (cnd ts)) []
    rw [cnds_len, List.length_nil, Nat.zero_add] at h1
    have h2 : ts.length * ts.length ≤ 16 := Nat.mul_le_mul h4 h4
    rw [Nat.pow_succ]
    exact Nat.le_trans h1 (Nat.mul_le_mul (trs_len h4 n) h2)
/-! ### such a dict in the store -/
def tcells (kts : List Kt) : List Cell := kts.map fun p => Cell.lst (p.2.map Pv.dat)
theorem pair_cells {S : Store} : ∀ {qs : List Addr} {kts : List Kt}, qs.length = kts.length → (∀ p ∈ qs.zip (tcells kts), p ∈ S) → Paired (fun q (p : Kt) => (q, Cell.lst (p.2.map Pv.dat)) ∈ S) qs kts
  | [], [], _, _ => .nil
  | [], _ :: _, h, _ => by cases h
  | _ :: _, [], h, _ => by cases h
  | q :: qs, p :: kts, h, hs => .cons (hs _ List.mem_cons_self) (pair_cells (Nat.succ.inj h) fun x hx => hs x (List.mem_cons_of_mem _ hx))
theorem axT {S : Store} {l : Addr} {qs : List Addr} {kts : List Kt} (hl : (l, Cell.dct (kts.map (·.1)) (qs.map ptr)) ∈ S) (hq : qs.length = kts.length) (hs : ∀ p ∈ qs.zip (tcells kts), p ∈ S) : AxOf S (ptr l) (.t kts) := .dct hl (pair_cells hq hs)
def NewT {α : Type} (f : α → List Kt) : α → Pv → Store → Prop := fun p x S => ∃ (l : Addr) (qs : List Addr), qs.length = (f p).length ∧ x = ptr l ∧ S = (l, Cell.dct ((f p).map (·.1)) (qs.map ptr)) :: qs.zip (tcells (f p))
section
variable {c : Cn} {ρ : Slots} {S : Store} {Φ : Pv → Store → Prop} {α : Type} {args : α → List Ax} {pre : α → Prop} {E : XK} {xs : List Pv}
theorem vc_newT {f : α → List Kt} (p : α) (ha : Paired (AxOf S) xs (args p)) (hp : pre p) (h : ∀ (l : Addr) (qs : List Addr), qs.length = (f p).length → Φ (ptr l) ((l, Cell.dct ((f p).map (·.1)) (qs.map ptr)) :: (qs.zip (tcells (f p)) ++ S))) : VC c ρ (fun vs H Q => spW c.K args pre (NewT f) nox vs H Q E) xs S Φ :=
  vc_spW p ha hp (fun x S1 h1 => by obtain ⟨l, qs, hl, rfl, rfl⟩ := h1; exact h l qs hl) (fun _ h => h.elim)
end
/-- while it is filled -/
def WS (l : Addr) (acc : List Kt) (S : Store) : Prop := ∃ qs : List Addr, qs.length = acc.length ∧ S = (l, Cell.dct (acc.map (·.1)) (qs.map ptr)) :: (qs.zip (tcells acc)).reverse
theorem WS.fin {l : Addr} {acc : List Kt} {S : Store} (h : WS l acc S) : ∃ qs : List Addr, qs.length = acc.length ∧ Wks S ((l, Cell.dct (acc.map (·.1)) (qs.map ptr)) :: qs.zip (tcells acc)) := by
  obtain ⟨qs, hq, rfl⟩ := h
  exact ⟨qs, hq, .perm (List.Perm.cons _ (List.reverse_perm _).symm)⟩
theorem law_inW {K : PySem.W.Frag} {H : Hp} {a : Addr} {ns : List Int} (hl : ns.length ≤ 63) (hS : SqL K H a (ns.map V.int)) : spW K (fun ns : List Int => [.s ns]) (fun ns => ns.length ≤ 63) (Ret fun _ => .bool true) nox [.ref a] H (fun v _ => v = .bl true) fun _ _ _ => False :=
  ⟨hp0, ns, (fun _ _ z => nomatch z), (fun _ _ z => nomatch z), .cons ⟨a, rfl, hS⟩ .nil, hl, fun x v S F' H' hr res => by
    obtain ⟨rfl, _⟩ := hr
    cases res.ok with
    | dat h => cases h; rfl, fun _ _ h => h.elim⟩
/-- the teeth of a shop -/
def tth (p : Int × Int) : List Int := (List.range (p.2 + 1 - p.1).toNat).map fun (i : Nat) => p.1 + (i : Int)
structure ShopOk (p : Int × Int) : Prop where
  lo : 2 ≤ p.1
  le : p.1 ≤ p.2
  hi : p.2 ≤ 60
  w : p.2 ≤ p.1 + 3
theorem tth_mem {p : Int × Int} {t : Int} (h : p.1 ≤ p.2) : t ∈ tth p ↔ p.1 ≤ t ∧ t ≤ p.2 := by
  unfold tth
  rw [List.mem_map]
  constructor
  · rintro ⟨i, hi, rfl⟩
    have := List.mem_range.mp hi
    omega
  · rintro ⟨h1, h2⟩
    exact ⟨(t - p.1).toNat, List.mem_range.mpr (by omega), by omega⟩
theorem tth_len {p : Int × Int} (h : ShopOk p) : (tth p).length ≤ 4 ∧ 1 ≤ (tth p).length := by
  unfold tth
  rw [List.length_map, List.length_range]
  have := h.le
  have := h.w
  omega
theorem tth_in {p : Int × Int} (h : ShopOk p) : ∀ t ∈ tth p, 2 ≤ t ∧ t ≤ 60 := fun t ht => by
  have h1 := (tth_mem h.le).mp ht
  have := h.lo
  have := h.hi
  omega
theorem tth_pos {p : Int × Int} (h : ShopOk p) : ∀ t ∈ tth p, 0 < t := fun t ht => by have := tth_in h t ht; omega
theorem tth_ne {p : Int × Int} (h : ShopOk p) : tth p ≠ [] := fun z => by have := (tth_len h).2; rw [z] at this; exact absurd this (by decide)
structure TOk (ts : List Int) : Prop where
  len : ts.length ≤ 4
  w : ∀ t ∈ ts, 2 ≤ t ∧ t ≤ 60
theorem tth_ok {p : Int × Int} (h : ShopOk p) : TOk (tth p) := ⟨(tth_len h).1, tth_in h⟩
structure KOk (kts : List Kt) : Prop where
  len : kts.length ≤ 256
  e : ∀ c ∈ kts, Rt 100 c.1.1 c.1.2 ∧ c.2.length ≤ 10
theorem prod_sm {ts : List Int} (h : ∀ t ∈ ts, 2 ≤ t ∧ t ≤ 60) (f : Int × Int → Int) (hf : ∀ p : Int × Int, p.1 ∈ ts ∧ p.2 ∈ ts → f p ∈ ts) : ∀ {ps : List (Int × Int)} {m : Nat} {n : Int}, InS ts ps → Sm m n → Sm (m + 6 * ps.length) (ps.foldl (fun n p => n * f p) n)
  | [], _, _, _, hn => hn
  | p :: ps, m, n, hp, hn => by
    have h1 := h _ (hf p (hp p List.mem_cons_self))
    have h2 : Sm 6 (f p) := by unfold Sm; omega
    have h3 := prod_sm h f hf (ps := ps) (fun x hx => hp x (List.mem_cons_of_mem _ hx)) (hn.mul h2)
    exact h3.mono (by rw [List.length_cons]; omega)
theorem prod_smN {ts : List Int} (h : ∀ t ∈ ts, 2 ≤ t ∧ t ≤ 60) {ps : List (Int × Int)} (hp : InS ts ps) : Sm (1 + 6 * ps.length) (prodN ps) ∧ Sm (1 + 6 * ps.length) (prodD ps) :=
  ⟨prod_sm h (fun p => p.1) (fun _ h => h.1) hp (by unfold Sm; decide), prod_sm h (fun p => p.2) (fun _ h => h.2) hp (by unfold Sm; decide)⟩
theorem low_rt {a b : Int} {n : Nat} (ha : 0 < a) (hb : 0 < b) (sa : Sm n a) (sb : Sm n b) : Rt n (low a b).1 (low a b).2 := by
  obtain ⟨h1, h2, _, _, h5, h6⟩ := low_spec (show a ≠ 0 by omega) hb
  exact ⟨h1, h2, Nat.lt_of_le_of_lt h5 sa, Nat.lt_of_le_of_lt h6 sb⟩
theorem trs_rt {ts : List Int} (h : TOk ts) {n : Nat} {c : Kt} (hc : c ∈ trs ts n) : Rt (1 + 6 * n) c.1.1 c.1.2 ∧ c.2.length = n := by
  have hp : ∀ t ∈ ts, 0 < t := fun t ht => by have := h.w t ht; omega
  obtain ⟨ps, h1, h2, h3, h4⟩ := trs_ok hp n c hc
  obtain ⟨q1, q2⟩ := prod_pos hp h2
  obtain ⟨s1, s2⟩ := prod_smN h.w h2
  rw [h1] at s1 s2
  rw [h3, List.length_map, h4]
  exact ⟨low_rt q1 q2 s1 s2, h1⟩
theorem trs_kok {ts : List Int} (h : TOk ts) {n : Nat} (hn : n ≤ 2) : KOk (trs ts n) := by
  refine ⟨Nat.le_trans (trs_len h.len n) (Nat.le_trans (Nat.pow_le_pow_right (by decide) hn) (by decide)), fun c hc => ?_⟩
  obtain ⟨R, hl⟩ := trs_rt h hc
  exact ⟨⟨R.t0, R.b0, R.st.mono (by omega), R.sb.mono (by omega)⟩, by omega⟩
end Wt
set_option maxHeartbeats 4000000
/-! min and max of a tuple of ints. -/
namespace Wt
open PySem PySem.Spec PyProof.Rows L2 RZ
section
variable {prog : Program} {w : World} {A : Around} {E : Value → Shared → Prop} {s : Shared} {l : Addr} {its : List Value} {ns : List Int} {Q : Value → Shared → Prop} {xs : Array (Int × Tok)}
theorem max_intTuple (hh : A.handled = none) (hl : s.heap.IsTuple l (intItems xs)) (hne : 0 < xs.size)
    (h : ∀ v h' tk, (intItems xs)[argBest (fun i j => decide (numAt xs i > numAt xs j)) (xs.size - 1)]? = some v → (∀ b o, s.heap.get? b = some o → h'.get? b = some o) → Q v { s with heap := h', toks := tk }) :
    wpAny (model prog w) A (call (.builtin "max") [.ref l]) Q E s := by
  have hlt : l < s.heap.objs.size := by
    obtain ⟨o, ho, _⟩ := hl
    exact Heap.lt_size ho
  refine call_max_walk (wpAny_pyIter_tuple hl ?_)
  refine ⟨_, [_, l], [_], _, _, _, _, rfl, Walks.tuple (A := A.in1) hh _ l (Nat.ne_of_lt hlt) (intItems xs), ⟨⟨_, Heap.get?_push_size _ rfl, rfl, rfl⟩, hl.push _⟩, fun c hc => ?_, by simpa [intItems] using hne, CmpOf.ints_gt (numAt xs) (fun _ _ => intItems_at), fun v h' tk hP hk => ?_⟩
  · show c < (s.heap.push _).objs.size
    rw [Heap.size_push]
    rcases List.mem_cons.mp hc with rfl | hc
    · exact Nat.lt_succ_self _
    · rcases List.mem_cons.mp hc with rfl | hc
      · exact Nat.lt_succ_of_lt hlt
      · cases hc
  · refine h v h' tk (by simpa [intItems] using hP) fun b o e => hk b o (fun hm => ?_) (Heap.get?_push_of_some _ e)
    rcases List.mem_cons.mp hm with e1 | hm
    · have := Heap.lt_size e; rw [e1] at this; exact Nat.lt_irrefl _ this
    · cases hm
theorem min_intTuple (hh : A.handled = none) (hl : s.heap.IsTuple l (intItems xs)) (hne : 0 < xs.size)
    (h : ∀ v h' tk, (intItems xs)[argBest (fun i j => decide (numAt xs i < numAt xs j)) (xs.size - 1)]? = some v → (∀ b o, s.heap.get? b = some o → h'.get? b = some o) → Q v { s with heap := h', toks := tk }) :
    wpAny (model prog w) A (call (.builtin "min") [.ref l]) Q E s := by
  have hlt : l < s.heap.objs.size := by
    obtain ⟨o, ho, _⟩ := hl
    exact Heap.lt_size ho
  refine call_min_walk (wpAny_pyIter_tuple hl ?_)
  refine ⟨_, [_, l], [_], _, _, _, _, rfl, Walks.tuple (A := A.in1) hh _ l (Nat.ne_of_lt hlt) (intItems xs), ⟨⟨_, Heap.get?_push_size _ rfl, rfl, rfl⟩, hl.push _⟩, fun c hc => ?_, by simpa [intItems] using hne, CmpOf.ints_lt (numAt xs) (fun _ _ => intItems_at), fun v h' tk hP hk => ?_⟩
  · show c < (s.heap.push _).objs.size
    rw [Heap.size_push]
    rcases List.mem_cons.mp hc with rfl | hc
    · exact Nat.lt_succ_self _
    · rcases List.mem_cons.mp hc with rfl | hc
      · exact Nat.lt_succ_of_lt hlt
      · cases hc
  · refine h v h' tk (by simpa [intItems] using hP) fun b o e => hk b o (fun hm => ?_) (Heap.get?_push_of_some _ e)
    rcases List.mem_cons.mp hm with e1 | hm
    · have := Heap.lt_size e; rw [e1] at this; exact Nat.lt_irrefl _ this
    · cases hm
theorem max_rawT (hh : A.handled = none) (hl : s.heap.IsTuple l its.toArray) (hi : IntsAre its ns) (hne : 0 < ns.length)
    (h : ∀ h' tk M t', (∀ b o, s.heap.get? b = some o → h'.get? b = some o) → M ∈ ns → (∀ a, a ∈ ns → a ≤ M) → Q (.int M t') { s with heap := h', toks := tk }) : wpAny (model prog w) A (call (.builtin "max") [.ref l]) Q E s := by
  obtain ⟨xs, e⟩ := hi.allInts.items
  have hn : numsOf (intItems xs).toList = ns := by rw [← e]; exact hi.numsOf
  rw [nums_intItems] at hn
  subst hn
  rw [e] at hl
  have hsz : 0 < xs.size := by simpa using hne
  refine max_intTuple hh hl hsz fun v h' tk hv hk => ?_
  obtain ⟨t, rfl⟩ := intItems_at hv
  obtain ⟨h1, h2⟩ := argBest_gt (numAt xs) (xs.size - 1)
  refine h h' tk _ t hk ?_ fun a ha => ?_
  · rw [numAt_eq]; exact PySem.getD_mem (by rw [List.length_map, Array.length_toList]; omega)
  · obtain ⟨j, hj, rfl⟩ := mem_getD ha
    rw [List.length_map, Array.length_toList] at hj
    rw [← numAt_eq]; exact h2 j (by omega)
theorem min_rawT (hh : A.handled = none) (hl : s.heap.IsTuple l its.toArray) (hi : IntsAre its ns) (hne : 0 < ns.length)
    (h : ∀ h' tk M t', (∀ b o, s.heap.get? b = some o → h'.get? b = some o) → M ∈ ns → (∀ a, a ∈ ns → M ≤ a) → Q (.int M t') { s with heap := h', toks := tk }) : wpAny (model prog w) A (call (.builtin "min") [.ref l]) Q E s := by
  obtain ⟨xs, e⟩ := hi.allInts.items
  have hn : numsOf (intItems xs).toList = ns := by rw [← e]; exact hi.numsOf
  rw [nums_intItems] at hn
  subst hn
  rw [e] at hl
  have hsz : 0 < xs.size := by simpa using hne
  refine min_intTuple hh hl hsz fun v h' tk hv hk => ?_
  obtain ⟨t, rfl⟩ := intItems_at hv
  obtain ⟨h1, h2⟩ := argBest_lt (numAt xs) (xs.size - 1)
  refine h h' tk _ t hk ?_ fun a ha => ?_
  · rw [numAt_eq]; exact PySem.getD_mem (by rw [List.length_map, Array.length_toList]; omega)
  · obtain ⟨j, hj, rfl⟩ := mem_getD ha
    rw [List.length_map, Array.length_toList] at hj
    rw [← numAt_eq]; exact h2 j (by omega)
end
def rMaxT (K : PySem.W.Frag) : List V → Hp → VK → Prop := fun vs H Q => ∃ (a : Addr) (ns : List Int), vs = [V.ref a] ∧ SqT K H a (ns.map V.int) ∧ 0 < ns.length ∧ ∀ m, m ∈ ns → (∀ y, y ∈ ns → y ≤ m) → Q (.int m) H
def rMinT (K : PySem.W.Frag) : List V → Hp → VK → Prop := fun vs H Q => ∃ (a : Addr) (ns : List Int), vs = [V.ref a] ∧ SqT K H a (ns.map V.int) ∧ 0 < ns.length ∧ ∀ m, m ∈ ns → (∀ y, y ∈ ns → m ≤ y) → Q (.int m) H
section
variable {X : Cx} {K : PySem.W.Frag}
theorem cr_maxT (hK : X.K = K) (hc : X.calm = true) : CallR X (.builtin "max") (rMaxT K) := by
  subst hK
  intro pins s σ H vs us Q I r h
  obtain ⟨a, ns, rfl, hs, hne, q⟩ := h
  obtain ⟨its, rv, hl, _⟩ := I.tuple hs
  rw [Vals.ref1 r]
  obtain ⟨o, ho, hcl, n, hd⟩ := hl
  exact max_rawT (I.ok.hd hc) ⟨o, ho, hcl, n, hd⟩ rv.ints hne fun h' tk m t' hk h1 h2 => ⟨.int _, H, I.kept hk, ⟨_, rfl⟩, q m h1 h2⟩
theorem cr_minT (hK : X.K = K) (hc : X.calm = true) : CallR X (.builtin "min") (rMinT K) := by
  subst hK
  intro pins s σ H vs us Q I r h
  obtain ⟨a, ns, rfl, hs, hne, q⟩ := h
  obtain ⟨its, rv, hl, _⟩ := I.tuple hs
  rw [Vals.ref1 r]
  obtain ⟨o, ho, hcl, n, hd⟩ := hl
  exact min_rawT (I.ok.hd hc) ⟨o, ho, hcl, n, hd⟩ rv.ints hne fun h' tk m t' hk h1 h2 => ⟨.int _, H, I.kept hk, ⟨_, rfl⟩, q m h1 h2⟩
end
section
variable {c : Cn} {ρ : Slots} {S : Store} {Φ : Pv → Store → Prop}
theorem vc_maxT {ns : List Int} (hne : 0 < ns.length) (hp : ∀ m, m ∈ ns → (∀ y, y ∈ ns → y ≤ m) → Φ (.dat (.int m)) S) : VC c ρ (rMaxT c.K) [.dat (.tuple (ns.map .int))] S Φ := fun A B F H σ en er vs vx Q q => by
  cases vx with
  | cons v1 v2 =>
    cases v2
    cases v1 with
    | dat h =>
      cases h with
      | tup h1 h2 =>
        have e := h2.ints
        subst e
        exact ⟨_, ns, rfl, sqT_of (en.exF _ _ h1), hne, fun m m1 m2 => q.dat en (hp m m1 m2) (.int _)⟩
theorem vc_minT {ns : List Int} (hne : 0 < ns.length) (hp : ∀ m, m ∈ ns → (∀ y, y ∈ ns → m ≤ y) → Φ (.dat (.int m)) S) : VC c ρ (rMinT c.K) [.dat (.tuple (ns.map .int))] S Φ := fun A B F H σ en er vs vx Q q => by
  cases vx with
  | cons v1 v2 =>
    cases v2
    cases v1 with
    | dat h =>
      cases h with
      | tup h1 h2 =>
        have e := h2.ints
        subst e
        exact ⟨_, ns, rfl, sqT_of (en.exF _ _ h1), hne, fun m m1 m2 => q.dat en (hp m m1 m2) (.int _)⟩
/-- of two -/
theorem vc_max2T {a b : Int} (hp : Φ (.dat (.int (if a < b then b else a))) S) : VC c ρ (rMaxT c.K) [.dat (.tuple [.int a, .int b])] S Φ := vc_maxT (ns := [a, b]) (Nat.zero_lt_succ _) fun m m1 m2 => by
  have h1 := m2 a (by simp)
  have h2 := m2 b (by simp)
  have h3 : m = a ∨ m = b := by simpa using m1
  have e : m = if a < b then b else a := by split <;> omega
  rw [e]
  exact hp
theorem vc_min2T {a b : Int} (hp : Φ (.dat (.int (if b < a then b else a))) S) : VC c ρ (rMinT c.K) [.dat (.tuple [.int a, .int b])] S Φ := vc_minT (ns := [a, b]) (Nat.zero_lt_succ _) fun m m1 m2 => by
  have h1 := m2 a (by simp)
  have h2 := m2 b (by simp)
  have h3 : m = a ∨ m = b := by simpa using m1
  have e : m = if b < a then b else a := by split <;> omega
  rw [e]
  exact hp
end
end Wt
set_option maxHeartbeats 4000000
/-! What may be none; slots forgotten. -/
namespace Wt
open PySem PySem.Spec PyProof.Rows L2
section
variable {c : Cn} {ρ : Slots} {S : Store} {Φ : Pv → Store → Prop} {te : TE} {P : Po} {t : TS}
/-- an own list, or data, told as data -/
def FrzO (Φ : Pv → Store → Prop) : Pv → Store → Prop := fun x S1 => (∃ d, x = .dat d ∧ Φ x S1) ∨ ∃ (k : Nat) (l : Addr) (xs : List Pv) (ds : List D), x = ptr l ∧ S1[k]? = some (l, .lst xs) ∧ dats xs = some ds ∧ Φ (.dat (.list ds)) (S1.eraseIdx k)
theorem ve_freezeO (h : VE c ρ S te (FrzO Φ)) : VE c ρ S te Φ := fun A B F H σ en er Q q => by
  refine h A B F H σ en er _ fun x v S1 F1 H1 h1 en1 f1 vx => ?_
  rcases h1 with ⟨d, rfl, h1⟩ | ⟨k, l, xs, ds, rfl, hk, hd, h1⟩
  · exact q _ v S1 F1 H1 h1 en1 f1 vx
  · obtain ⟨F', en', f', dv⟩ := en1.freeze hk hd
    cases vx
    exact q _ _ _ F' H1 h1 en' (f1.trans f') (.dat dv)
theorem vs_fgt {ρ' : Slots} (f : Fgt ρ ρ') (h : VS c ρ' S t P) : VS c ρ S t P := fun A B F H σ en er D d => h A B F H σ (en.fgt f) er D d
theorem vs_fgtN (h : VS c ρ S t { P with n := fun ρ1 S1 => ∃ ρ2 S2, Fgt ρ1 ρ2 ∧ Wks S1 S2 ∧ P.n ρ2 S2 }) : VS c ρ S t P := fun A B F H σ en er D d =>
  h A B F H σ en er D ⟨fun ρ S F' H' σ ⟨ρ2, S2, f, w, p⟩ en f' => d.nx ρ2 S2 F' H' σ p ((en.fgt f).wks w) f', d.rt, d.bk, d.ct⟩
end
end Wt
set_option maxHeartbeats 4000000
/-! A list as a test; min and max of a pair that is read. -/
namespace Wt
open PySem PySem.Spec PyProof.Rows L2
/-- a list as a test -/
def tBL (K : PySem.W.Frag) (t : TE) : TT := fun σ H Q => t σ H fun x H1 => ∃ a xs, x = .ref a ∧ SqL K H1 a xs ∧ Q (decide (xs.length ≠ 0)) H1
theorem pt_list {X : Cx} {K : PySem.W.Frag} (hK : X.K = K) {e : Expr} {t : TE} (h : PE X e t) (he : ∀ whole, isTrue e X.env whole = (do let v ← whole; standAt e.pos; holding [v] (truthy v)) := by intro _; rfl) : PT X e (tBL K t) := by
  subst hK
  refine ⟨fun pins s σ H Q I hw => ?_⟩
  refine isTrue_plain (thn (h.run pins s σ H _ I hw) fun v s1 ⟨x, H1, I1, r1, q1⟩ => ?_) (he _)
  obtain ⟨a, xs, rfl, hs, q⟩ := q1
  obtain ⟨its, rv, hl, hz⟩ := I1.list hs
  cases r1
  have hn := rv.length
  have hz : xs.length ≤ 16777216 ∨ xs.length ≤ sizeLine := .inr hz
  refine wpAny_truthy_list hl.isList ?_ ⟨H1, I1.tok _, ?_⟩
  · show ((its.toArray.size : Nat) : Int) < 2 ^ 63
    rw [List.size_toArray]
    have h2 : sizeLine < 2 ^ 63 := by decide
    omega
  · have e2 : (!its.toArray.isEmpty) = decide (xs.length ≠ 0) := by
      cases xs with
      | nil => cases its with
        | nil => rfl
        | cons _ _ => cases hn
      | cons x xs => cases its with
        | nil => cases hn
        | cons _ _ => rfl
    rw [e2]
    exact q
section
variable {c : Cn} {ρ : Slots} {S : Store} {Φ : Pv → Store → Prop} {te : TE}
theorem vt_list {ΦB : Bool → Store → Prop} (h : VE c ρ S te fun x S1 => ∃ xs, Ls S1 x xs ∧ ΦB (decide (xs.length ≠ 0)) S1) : VT c ρ S (tBL c.K te) ΦB := fun A B F H σ en er Q q => by
  refine h A B F H σ en er _ fun x v S1 F1 H1 h1 en1 f1 vx => ?_
  obtain ⟨xs, hx, h1⟩ := h1
  obtain ⟨l, vs, rfl, hs, hv⟩ := hx.read en1 vx
  refine ⟨l, vs, rfl, hs, ?_⟩
  have e : vs.length = xs.length := hv.length
  rw [e]
  exact q _ S1 F1 H1 h1 en1 f1
theorem vc_minR {ns : List Int} (hne : 0 < ns.length) (hp : ∀ m, m ∈ ns → (∀ y, y ∈ ns → m ≤ y) → Φ (.dat (.int m)) S) : VC c ρ (rMinT c.K) [.rd (.tuple (ns.map .int))] S Φ := fun A B F H σ en er vs vx Q q => by
  cases vx with
  | cons v1 v2 =>
    cases v2
    cases v1 with
    | rd h =>
      cases h with
      | tup h1 h2 =>
        have e := h2.ints
        subst e
        exact ⟨_, ns, rfl, sqT_of (en.exB _ _ h1), hne, fun m m1 m2 => q.dat en (hp m m1 m2) (.int _)⟩
theorem vc_maxR {ns : List Int} (hne : 0 < ns.length) (hp : ∀ m, m ∈ ns → (∀ y, y ∈ ns → y ≤ m) → Φ (.dat (.int m)) S) : VC c ρ (rMaxT c.K) [.rd (.tuple (ns.map .int))] S Φ := fun A B F H σ en er vs vx Q q => by
  cases vx with
  | cons v1 v2 =>
    cases v2
    cases v1 with
    | rd h =>
      cases h with
      | tup h1 h2 =>
        have e := h2.ints
        subst e
        exact ⟨_, ns, rfl, sqT_of (en.exB _ _ h1), hne, fun m m1 m2 => q.dat en (hp m m1 m2) (.int _)⟩
theorem vc_max2R {a b : Int} (hp : Φ (.dat (.int (if a < b then b else a))) S) : VC c ρ (rMaxT c.K) [.rd (.tuple [.int a, .int b])] S Φ := vc_maxR (ns := [a, b]) (Nat.zero_lt_succ _) fun m m1 m2 => by
  have h1 := m2 a (by simp)
  have h2 := m2 b (by simp)
  have h3 : m = a ∨ m = b := by simpa using m1
  have e : m = if a < b then b else a := by split <;> omega
  rw [e]
  exact hp
theorem vc_min2R {a b : Int} (hp : Φ (.dat (.int (if b < a then b else a))) S) : VC c ρ (rMinT c.K) [.rd (.tuple [.int a, .int b])] S Φ := vc_minR (ns := [a, b]) (Nat.zero_lt_succ _) fun m m1 m2 => by
  have h1 := m2 a (by simp)
  have h2 := m2 b (by simp)
  have h3 : m = a ∨ m = b := by simpa using m1
  have e : m = if b < a then b else a := by split <;> omega
  rw [e]
  exact hp
end
/-! a tuple made of such -/
theorem dats_eq : ∀ {xs : List Pv} {ds : List D}, dats xs = some ds → xs = ds.map .dat
  | [], _, h => by cases h; rfl
  | x :: xs, ds, h => by
    cases x with
    | dat d =>
      cases e : dats xs with
      | none => simp [dats, e] at h
      | some es =>
        simp [dats, e] at h
        subst h
        rw [dats_eq e]
        rfl
    | _ => simp [dats] at h
theorem tu_tupP (xs : List Pv) : Tu (tupP xs) xs := by
  unfold tupP
  cases e : dats xs with
  | none => exact .tup
  | some ds => rw [dats_eq e]; exact .dat
theorem das_dat {S : Store} : ∀ {ds es : List D}, Das S (ds.map .dat) es → es = ds
  | [], _, h => by cases h; rfl
  | d :: ds, _, h => by
    cases h with
    | cons h1 h2 => cases h1; rw [das_dat h2]
theorem da_tupP {S : Store} {xs : List Pv} {ds : List D} (h : Das S xs ds) : Da S (tupP xs) (.tuple ds) := by
  unfold tupP
  cases e : dats xs with
  | none => exact .tup h
  | some es =>
    rw [dats_eq e] at h
    rw [das_dat h]
    exact .dat
theorem nob_tupP {xs : List Pv} (h : nobs xs = true) : nob (tupP xs) = true := by
  unfold tupP
  cases dats xs with
  | none => exact h
  | some es => rfl
/-! a pair of such, told as data -/
def Frz1 (x : Pv) (S : Store) (d : D) : Prop := (x = .dat d ∧ S = []) ∨ ∃ (l : Addr) (xs : List Pv) (ds : List D), x = ptr l ∧ S = [(l, Cell.lst xs)] ∧ dats xs = some ds ∧ d = .list ds
section
variable {c : Cn} {ρ : Slots} {S : Store} {Φ : Pv → Store → Prop} {te : TE}
theorem EnvOK.frz1 {K : PySem.W.Frag} {A B F H : Hp} {σ : L2.St} {S0 S1 : Store} {x : Pv} {d : D} {v : V} (h : Frz1 x S1 d) (en : EnvOK K A B F H ρ (S1 ++ S0) σ) (vx : VOK K B F x v) : ∃ F', EnvOK K A B F' H ρ S0 σ ∧ Same F F' ∧ Dv K F' v d := by
  rcases h with ⟨rfl, rfl⟩ | ⟨l, xs, ds, rfl, rfl, hd, rfl⟩
  · cases vx with
    | dat h => exact ⟨F, en, Same.refl F, h⟩
  · obtain ⟨F', en', f', dv⟩ := en.freeze (k := 0) rfl hd
    cases vx
    exact ⟨F', en', f', dv⟩
theorem ve_freezeTT (h : VE c ρ S te fun x S1 => ∃ (x1 x2 : Pv) (d1 d2 : D) (T1 T2 S0 : Store), x = tupP [x1, x2] ∧ Frz1 x1 T1 d1 ∧ Frz1 x2 T2 d2 ∧ S1 = (T2 ++ T1) ++ S0 ∧ Φ (.dat (.tuple [d1, d2])) S0) : VE c ρ S te Φ := fun A B F H σ en er Q q => by
  refine h A B F H σ en er _ fun x v S1 F1 H1 h1 en1 f1 vx => ?_
  obtain ⟨x1, x2, d1, d2, T1, T2, S0, rfl, t1, t2, rfl, h1⟩ := h1
  rw [List.append_assoc] at en1
  have key : ∀ {a : Addr} {vs : List V}, F1 a = some (.tup vs) → VsOK c.K B F1 [x1, x2] vs → v = .ref a → Q v H1 := fun {a vs} ha hv e => by
    subst e
    cases hv with
    | cons v1 v2 => cases v2 with
      | cons v2 v3 =>
        cases v3
        obtain ⟨F2, en2, f2, e2⟩ := en1.frz1 t2 v2
        obtain ⟨F3, en3, f3, e1⟩ := en2.frz1 t1 (v1.mono (Same.refl B) f2)
        exact q _ _ _ F3 H1 h1 en3 (f1.trans (f2.trans f3)) (.dat (.tup (f3 _ _ (f2 _ _ ha)) (.cons e1 (.cons (e2.up f3) .nil))))
  rcases t1 with ⟨rfl, rfl⟩ | ⟨l1, xs1, ds1, rfl, rfl, hd1, rfl⟩
  · rcases t2 with ⟨rfl, rfl⟩ | ⟨l2, xs2, ds2, rfl, rfl, hd2, rfl⟩
    · exact q _ _ _ F1 H1 h1 en1 f1 vx
    · have vx : VOK c.K B F1 (.tup [.dat d1, ptr l2]) v := vx
      cases vx with
      | tup ha hv => exact key ha hv rfl
  · have vx : VOK c.K B F1 (.tup [ptr l1, x2]) v := by
      have e : tupP [ptr l1, x2] = .tup [ptr l1, x2] := rfl
      rw [e] at vx
      exact vx
    cases vx with
    | tup ha hv => exact key ha hv rfl
end
end Wt
set_option maxHeartbeats 4000000
/-! x in l, l.index(x), of data. -/
namespace Wt
open PySem PySem.Spec PyProof.Rows L2 RZ
theorem op_inDK {X : Cx} {K : PySem.W.Frag} (h : X.K = K) (hu : X.A.units + 65 < cLine) : OpR X (compareOp .In) (rInD K) := by subst h; exact op_inD hu
theorem op_notInDK {X : Cx} {K : PySem.W.Frag} (h : X.K = K) (hu : X.A.units + 65 < cLine) : OpR X (compareOp .NotIn) (rNotInD K) := by subst h; exact op_notInD hu
theorem mt_indexDK {X : Cx} {K : PySem.W.Frag} (h : X.K = K) (hu : X.A.units + 65 < cLine) : MtR X "list.index" (rIndexD K) := by subst h; exact mt_indexD hu
section
variable {c : Cn} {ρ : Slots} {S : Store} {Φ : Pv → Store → Prop} {ta tb : TE}
theorem vr_inD {x y : Pv} {d : D} {ds : List D} {n m : Nat} (hx : Da S x d) (hy : Da S y (.list ds)) (f : Fit n d) (k : Fit m (.list ds)) (h : Φ (.dat (.bool (ds.any fun z => PyData.eqv z d))) S) (hn : n ≤ 64 := by decide) (hm : m ≤ 64 := by decide) : VR c ρ (rInD c.K) x y S Φ := fun A B F H σ en er v u vx vy Q q =>
  ⟨d, ds, (hx.dv en d vx).dp (Same.refl H) _ _ (nod_lay _ f.lay), (hy.dv en _ vy).dp (Same.refl H) _ _ (nod_lay _ k.lay), f.shaped hn, k.shaped hm, q.dat en h (.bl _)⟩
theorem vr_notInD {x y : Pv} {d : D} {ds : List D} {n m : Nat} (hx : Da S x d) (hy : Da S y (.list ds)) (f : Fit n d) (k : Fit m (.list ds)) (h : Φ (.dat (.bool (!ds.any fun z => PyData.eqv z d))) S) (hn : n ≤ 64 := by decide) (hm : m ≤ 64 := by decide) : VR c ρ (rNotInD c.K) x y S Φ := fun A B F H σ en er v u vx vy Q q =>
  ⟨d, ds, (hx.dv en d vx).dp (Same.refl H) _ _ (nod_lay _ f.lay), (hy.dv en _ vy).dp (Same.refl H) _ _ (nod_lay _ k.lay), f.shaped hn, k.shaped hm, q.dat en h (.bl _)⟩
/-- xs.index(y), the list one of data that is read -/
theorem ve_indexD (h : VE c ρ S ta fun x S1 => ∃ ds : List D, x = .bor (ds.map .dat) ∧ VE c ρ S1 tb fun y S2 => ∃ (d : D) (j n m : Nat) (z : D), Da S2 y d ∧ Fit n d ∧ n ≤ 64 ∧ Fit m (.list ds) ∧ m ≤ 64 ∧ ds[j]? = some z ∧ PyData.eqv z d = true ∧
      (∀ (i : Nat) (z' : D), i < j → ds[i]? = some z' → PyData.eqv z' d = false) ∧ Φ (.dat (.int (j : Int))) S2) :
    VE c ρ S (tBM c.K "list" (rIndexD c.K) ta (tCons tb tNil)) Φ := fun A B F H σ en er Q q => by
  refine h A B F H σ en er _ fun x v S1 F1 H1 h1 en1 f1 vx => ?_
  obtain ⟨ds, rfl, h1⟩ := h1
  cases vx with
  | bor hl hv =>
    rename_i l vs
    refine ⟨.inl ⟨rfl, vs, .inl (.inl (en1.exB _ _ hl))⟩, ?_⟩
    refine h1 A B F1 H1 σ en1 er _ fun y u S2 F2 H2 h2 en2 f2 vy => ?_
    obtain ⟨d, j, n, m, z, hy, f, hn, k, hm, hz, he, hno, h2⟩ := h2
    have vx2 : VOK c.K B F2 (.bor (ds.map .dat)) (.ref l) := (VOK.bor hl hv).mono (Same.refl B) f2
    have hx : Da S2 (.bor (ds.map .dat)) (.list ds) := .bor (Das.dats _)
    refine ⟨l, u, d, ds, j, z, rfl, rfl, (hx.dv en2 _ vx2).dp (Same.refl H2) _ _ (nod_lay _ k.lay), (hy.dv en2 d vy).dp (Same.refl H2) _ _ (nod_lay _ f.lay), k.shaped hm, f.shaped hn, hz, he, hno, ?_⟩
    exact q _ _ S2 F2 H2 h2 en2 (f1.trans f2) (.dat (.int _))
end
/-! ### zip of an own list and frozen data: the own list is lent while the loop runs -/
def nobS : Slots → Bool
  | [] => true
  | some x :: ρ => nob x && nobS ρ
  | none :: ρ => nobS ρ
theorem slots_nob {K : PySem.W.Frag} {B B' F : Hp} : ∀ {ρ : Slots} {σ : L2.St}, nobS ρ = true → Paired (SlOK K B F) ρ σ → Paired (SlOK K B' F) ρ σ
  | _, _, _, .nil => .nil
  | none :: ρ, _, n, .cons _ t => .cons trivial (slots_nob (show nobS ρ = true from n) t)
  | some x :: ρ, _, n, .cons h t => by
    have n1 : (nob x && nobS ρ) = true := n
    rw [Bool.and_eq_true] at n1
    obtain ⟨v, e1, h1⟩ := h
    exact .cons ⟨v, e1, (h1.nob n1.1).hp⟩ (slots_nob n1.2 t)
section
variable {K : PySem.W.Frag} {A B F F1 H H1 : Hp} {ρ ρ1 : Slots} {S S1 : Store} {σ σ1 : L2.St} {l : Addr} {xs : List Pv} {vs : List V}
theorem EnvOK.lend {k : Nat} (en : EnvOK K A B F H ρ S σ) (hk : S[k]? = some (l, Cell.lst xs)) : ∃ vs, B l = none ∧ F l = none ∧ VsOK K hp0 F xs vs ∧ EnvOK K A (upd B l (.lst vs)) F H ρ (S.eraseIdx k) σ := by
  obtain ⟨nB, nF, vs, hl, hv⟩ := en.st _ (List.mem_of_getElem? hk)
  have b2 : Same B (upd B l (.lst vs)) := same_new nB
  have hne : ∀ p ∈ S.eraseIdx k, p.1 ≠ l := fun p hp z => by
    obtain ⟨j, hjk, hj⟩ := List.mem_eraseIdx_iff_getElem?.mp hp
    exact hjk (nodup_idx en.nd (show S[j]? = some (l, p.2) by rw [hj, ← z]) hk)
  refine ⟨vs, nB, nF, hv, fun a o e => ?_, en.exF, en.af, fun a o e => ?_, paired_mono (fun _ _ h => h.mono b2 (Same.refl F)) en.sl, fun p hp => ?_, ((List.eraseIdx_sublist S k).map (·.1)).nodup en.nd, en.fk⟩
  · by_cases z : a = l
    · subst z; rw [upd_same] at e; rw [hl]; exact e
    · rw [upd_ne z] at e; exact en.exB _ _ e
  · have z : a ≠ l := ne_of_none e nF
    rw [upd_ne z]
    exact en.fr _ _ e
  · obtain ⟨z1, z2, z3⟩ := en.st p (List.mem_of_mem_eraseIdx hp)
    exact ⟨by rw [upd_ne (hne p hp)]; exact z1, z2, z3⟩
theorem EnvOK.unlend (en4 : EnvOK K A (upd B l (.lst vs)) F1 H1 ρ1 S1 σ1) (nB : B l = none) (nA : A l = none) (hv : VsOK K hp0 F1 xs vs) (hn : nobS ρ1 = true) : EnvOK K A B F1 H1 ρ1 ((l, Cell.lst xs) :: S1) σ1 := by
  have b2 : Same B (upd B l (.lst vs)) := same_new nB
  have nF1 : F1 l = none := by
    cases z : F1 l with
    | none => rfl
    | some o =>
      rcases en4.fr _ _ z with z1 | z1 | ⟨zs, z1⟩
      · rw [nA] at z1; cases z1
      · rw [upd_same] at z1; cases z1
      · have z2 := en4.exF _ _ z
        rw [en4.exB _ _ upd_same, z1] at z2
        cases z2
  refine ⟨b2.trans en4.exB, en4.exF, en4.af, fun a o e => ?_, slots_nob hn en4.sl, fun p hp => ?_, ?_, en4.fk⟩
  · rcases en4.fr _ _ e with z | z | z
    · exact .inl z
    · by_cases za : a = l
      · subst za; exact .inr (.inl nB)
      · rw [upd_ne za] at z; exact .inr (.inl z)
    · exact .inr (.inr z)
  · rcases List.mem_cons.mp hp with z | hp
    · subst z
      exact ⟨nB, nF1, vs, en4.exB _ _ upd_same, hv⟩
    · obtain ⟨z1, z2, z3⟩ := en4.st p hp
      refine ⟨?_, z2, z3⟩
      by_cases za : p.1 = l
      · rw [za]; exact nB
      · rw [upd_ne za] at z1; exact z1
  · rw [List.map_cons, List.nodup_cons]
    refine ⟨fun hm => ?_, en4.nd⟩
    obtain ⟨p, hp, z⟩ := List.mem_map.mp hm
    obtain ⟨z1, _⟩ := en4.st p hp
    rw [show p.1 = l from z, upd_same] at z1
    cases z1
end
section
variable {c : Cn} {ρ : Slots} {S : Store} {tas : TA} {g : TG} {t : TS} {P : Po}
theorem vs_forZ (h : VA c ρ S tas fun zs S1 => ∃ (k : Nat) (l : Addr) (ds es : List D) (I : Nat → Slots → Store → Prop), zs = [ptr l, .dat (.list es)] ∧ S1[k]? = some (l, Cell.lst (ds.map .dat)) ∧ I 0 ρ (S1.eraseIdx k) ∧ (∀ i ρ1 S2, I i ρ1 S2 → nobS ρ1 = true) ∧
      (∀ i d e ρ1 S2, ds[i]? = some d → es[i]? = some e → I i ρ1 S2 → VG c g (.dat (.tuple [d, e])) ρ1 S2 fun ρ2 S3 => VS c ρ2 S3 t { n := I (i + 1), r := fun _ _ => False, b := fun _ _ => False, k := I (i + 1) }) ∧
      (∀ ρ1 S2, I (min ds.length es.length) ρ1 S2 → P.n ρ1 ((l, Cell.lst (ds.map .dat)) :: S2))) :
    VS c ρ S (tFor (iZipA c.K tas) g t) P := fun A B F H σ en er D d => by
  refine h A B F H σ en er _ fun zs v S1 F1 H1 h1 en1 f1 vx => ?_
  obtain ⟨k, l, ds, es, I, rfl, hk, h0, hb, hs, hd⟩ := h1
  cases vx with
  | cons v1 v2 =>
    cases v2 with
    | cons v2 v3 =>
      cases v3
      cases v1
      cases v2 with
      | dat v2 =>
        cases v2 with
        | lst hm hw =>
          rename_i m ws
          obtain ⟨vs, nB, nF, hv, en2⟩ := en1.lend hk
          have nA : A l = none := by
            cases z : A l with
            | none => rfl
            | some o => rw [en1.af _ _ z] at nF; cases nF
          have hv0 := hv.dats (dats_map ds)
          have er2 : Er c (upd B l (.lst vs)) := fun C Hx hx s => er C Hx hx ((same_new nB).trans s)
          have n1 : vs.length = ds.length := by have := hv.length; rw [List.length_map] at this; omega
          have n2 : ws.length = es.length := hw.length
          refine ⟨l, m, vs, ws, rfl, .inl ⟨sqL_of (en2.exB _ _ upd_same), sqL_of (en2.exF _ _ hm), ?_⟩⟩
          refine for_it (walk_zip (K := c.K) (a := l) (b := m) (xs := vs) (ys := ws) rfl) (fun i σ' H' => ∃ ρ' S' F', I i ρ' S' ∧ EnvOK c.K A (upd B l (.lst vs)) F' H' ρ' S' σ' ∧ Same F1 F') ⟨ρ, _, F1, h0, en2, Same.refl F1⟩ (fun i σ' H' _ ⟨_, _, F', _, en', f'⟩ => ⟨sqL_of (en'.exB _ _ upd_same), sqL_of (en'.exF _ _ (f' _ _ hm))⟩) ?_ ?_
          · rintro i v σ' H' H'' hi ⟨ρ', S', F', hI, en', f'⟩ ⟨T, a1, a2, rfl, np, rfl, e1, e2⟩
            obtain ⟨d1, e3, h3⟩ := hv0.get e1
            obtain ⟨d2, e4, h4⟩ := hw.get e2
            obtain ⟨en3, f3⟩ := en'.frz (o := .tup [a1, a2]) np
            refine hs i d1 d2 ρ' S' e3 e4 hI A _ _ _ σ' _ en3 er2 (.dat (.tup upd_same (.cons (h3.up (f'.trans f3)) (.cons (h4.up (f'.trans f3)) .nil)))) _ fun ρ3 S3 F4 H4 σ3 p en4 f4 => ?_
            refine p A _ F4 H4 σ3 en4 er2 _ ⟨?_, ?_, ?_, ?_⟩
            · exact fun ρ5 S5 F5 H5 σ5 p5 en5 f5 => ⟨ρ5, S5, F5, p5, en5, (f'.trans f3).trans (f4.trans f5)⟩
            · exact fun x v ρ5 S5 F5 H5 σ5 p5 en5 f5 vx => p5.elim
            · exact fun ρ5 S5 F5 H5 σ5 p5 en5 f5 => p5.elim
            · exact fun ρ5 S5 F5 H5 σ5 p5 en5 f5 => ⟨ρ5, S5, F5, p5, en5, (f'.trans f3).trans (f4.trans f5)⟩
          · rintro σ' H' ⟨ρ', S', F', hI, en', f'⟩
            rw [n1, n2] at hI
            exact d.nx ρ' _ F' H' σ' (hd ρ' S' hI) (en'.unlend nB nA (hv.up f') (hb _ _ _ hI)) (f1.trans f')
end
theorem room65 {k : Nat} {A : Around} (r : Room k A) : A.units + 65 < cLine := by have := r.un; omega
end Wt
set_option maxHeartbeats 4000000
/-! f-strings; an error whose message is made; an if statement within a try. -/
namespace Wt
open PySem PySem.Spec PyProof.Rows L2 L2H RZ
/-- raise C(e): what e comes to is of no weight -/
theorem pmk_expr {X : Cx} {C : Addr} {bmB : List Value} {B newId initId : String} {x : Str} {e : Expr} {ta : TE} {p pos : Pos} (F : ExcBaseFacts B newId initId bmB) (q : PySem.W.excIn X.K C bmB newId = true) (gC : X.mg x = some (.ref C)) (kC : PySem.W.keepIn X.K (.ref C) = true) (r : Raises X (.ref C)) (hg : Gl X x) (he : PE X e ta)
    (hs : starEach [e] X.env = (false, eval e X.env) :: starEach [] X.env := by rfl) (hdb : (x == ("__debug__" : Str)) = false := by decide) : L2N.PMk X (.Call (.Name x p) [e] [] pos) (fun σ H Q => ta σ H fun _ H1 => Q (.ref C) none H1) := by
  intro pins s σ H Q I h
  apply wpAny_Call_Name_kw
  apply ld_glob I hg gC ?_ hdb
  apply PySem.W.callWith_K (h₀ := X.base) I.ok.mod.kin kC ?_ hs (by rfl)
  rw [hs]
  apply Calls.spliced_cons
  apply thn (he.run pins s σ H _ I h)
  rintro u s1 ⟨v, H1, I1, r1, q1⟩
  apply Calls.spliced_nil
  refine ⟨I1.kIn, ?_⟩
  show wpAny _ _ (call (.ref C) [u]) _ _ _
  obtain ⟨_, _, _, _, _, _, _, _, _, _, _, _, _, _, _, _, _, hC, hN, hni, T⟩ := exc_obj I1.kIn q
  exact wpAny_call_exc_subT F T hC hN hni (fun h' e hm => L2N.mk_of I1 hm r q1 (I1.hok.gone hm.new)) (by show 1 ≤ sizeLine; rw [sizeLine_eq]; omega)
section
variable {c : Cn} {ρ : Slots} {S : Store} {Φ : Pv → Store → Prop} {te : TE} {P : Po} {tt : TT}
theorem vs_raiseE (C : Addr) {t : TS} (hx : c.X (.ref C)) (h : VE c ρ S te fun _ _ => True) (ht : ∀ D σ H, te σ H (fun _ H1 => c.E (.ref C) none H1) → t D σ H) : VS c ρ S t P := fun A B F H σ en er D d =>
  ht D σ H (h A B F H σ en er _ fun x v S1 F1 H1 _ en1 f1 vx => er _ H1 hx en1.exB)
theorem vj_nil {acc : Str} (h : Φ (.dat (.str acc)) S) : VE c ρ S (fun σ H Q => tJs [] acc σ H fun out H1 => Q (.str out) H1) Φ := fun A B F H σ en er Q q => q.dat en h (.str _)
theorem vj_cons {t : TE} {ts : List TE} {acc : Str} (h : VE c ρ S t fun x S1 => ∃ y : Str, x = .dat (.str y) ∧ (acc ++ y).length ≤ sizeLine ∧ VE c ρ S1 (fun σ H Q => tJs ts (acc ++ y) σ H fun out H1 => Q (.str out) H1) Φ) : VE c ρ S (fun σ H Q => tJs (t :: ts) acc σ H fun out H1 => Q (.str out) H1) Φ := fun A B F H σ en er Q q => by
  refine h A B F H σ en er _ fun x v S1 F1 H1 h1 en1 f1 vx => ?_
  obtain ⟨y, rfl, hl, h1⟩ := h1
  cases vx with
  | dat a =>
    cases a
    exact ⟨y, rfl, hl, h1 A B F1 H1 σ en1 er Q (q.up f1)⟩
theorem ve_fmtI (h : VE c ρ S te fun x S1 => ∃ i : Int, x = .dat (.int i) ∧ i.natAbs.log2 < 1920 ∧ Φ (.dat (.str (toString i))) S1) : VE c ρ S (tFmt te) Φ := fun A B F H σ en er Q q => by
  refine h A B F H σ en er _ fun x v S1 F1 H1 h1 en1 f1 vx => ?_
  obtain ⟨i, rfl, hl, h1⟩ := h1
  cases vx with
  | dat a =>
    cases a
    exact .inr ⟨i, rfl, hl, q _ _ S1 F1 H1 h1 en1 f1 (.dat (.str _))⟩
/-- if within a try -/
theorem vs_tryIf {t1 t2 : Ends → TS} (h : VT c ρ S tt fun b S1 => (b = true → VS c ρ S1 (fun D σ H => t1 D D σ H) P) ∧ (b = false → VS c ρ S1 (fun D σ H => t2 D D σ H) P)) : VS c ρ S (fun D σ H => tIfS tt (t1 D) (t2 D) D σ H) P := vs_if (t := fun D σ H => t1 D D σ H) (u := fun D σ H => t2 D D σ H) h
end
end Wt
set_option maxHeartbeats 4000000
/-! str of data; a def that is called out of a list; * of lists and tuples; {} as data. -/
namespace Wt
open PySem PySem.Spec PyProof.Rows L2 L2H RZ
/-! ### small data -/
structure Sh (k m : Nat) (d : D) : Prop where
  lay : d.canLay0 = true
  sho : d.showable = true
  lea : d.leavesShort 30 = true
  wei : d.weight ≤ k
  dep : d.depth ≤ m
theorem Sh.mono {k m k' m' : Nat} {d : D} (h : Sh k m d) (hk : k ≤ k') (hm : m ≤ m') : Sh k' m' d := ⟨h.lay, h.sho, h.lea, Nat.le_trans h.wei hk, Nat.le_trans h.dep hm⟩
theorem Sh.fit {k m : Nat} {d : D} (h : Sh k m d) : Fit m d := ⟨h.lay, h.dep⟩
theorem Sh.len {k m : Nat} {d : D} (h : Sh k m d) (hk : k ≤ 100000) : d.shown.length ≤ sizeLine := by
  have h1 := PyData.shown_le 30 (by decide) d h.lea
  have h2 : (30 + 2) * d.weight ≤ 32 * 100000 := Nat.mul_le_mul_left 32 (Nat.le_trans h.wei hk)
  rw [sizeLine_eq]
  omega
theorem sh_int {i : Int} (h : i.natAbs < 10 ^ 22) : Sh 100 0 (.int i) := by
  have h1 : i.natAbs < 2 ^ 80 := Nat.lt_of_lt_of_le h (by decide)
  have h2 : i.natAbs.log2 < 80 := PySem.Flt.log2_lt_of (by decide) h1
  have h3 : (PyData.shown (.int i)).length ≤ 30 := by
    rw [PyData.shown_int]
    show (Str.ofString (toString i)).length ≤ 30
    rw [PySem.ofString_length]
    exact Nat.le_trans (int_text_length_le10 (k := 22) (by decide) h) (by decide)
  refine ⟨by simp [PyData.canLay0], ?_, ?_, ?_, by simp [PyData.depth]⟩
  · simp only [PyData.showable, decide_eq_true_eq]; omega
  · simp only [PyData.leavesShort, decide_eq_true_eq]; exact h3
  · simp only [PyData.weight]; split <;> omega
theorem sh_non : Sh 100 0 .none := ⟨by simp [PyData.canLay0], by simp [PyData.showable], by simp [PyData.leavesShort], by simp [PyData.weight], by simp [PyData.depth]⟩
theorem sh_bool {b : Bool} : Sh 100 0 (.bool b) := ⟨by simp [PyData.canLay0], by simp [PyData.showable], by simp [PyData.leavesShort], by simp [PyData.weight], by simp [PyData.depth]⟩
theorem sh_all {k m : Nat} : ∀ {ds : List D}, (∀ d ∈ ds, Sh k m d) → PyData.canLayAll0 ds = true ∧ PyData.showableAll ds = true ∧ PyData.leavesShortAll 30 ds = true ∧ PyData.weightAll ds ≤ (k + 1) * ds.length ∧ PyData.depthAll ds ≤ m
  | [], _ => ⟨by simp [PyData.canLayAll0], by simp [PyData.showableAll], by simp [PyData.leavesShortAll], by simp [PyData.weightAll], by simp [PyData.depthAll]⟩
  | d :: ds, h => by
    have h1 := h d List.mem_cons_self
    obtain ⟨a1, a2, a3, a4, a5⟩ := sh_all (ds := ds) fun e he => h e (List.mem_cons_of_mem _ he)
    refine ⟨by simp [PyData.canLayAll0, h1.lay, a1], by simp [PyData.showableAll, h1.sho, a2], by simp [PyData.leavesShortAll, h1.lea, a3], ?_, ?_⟩
    · have := h1.wei
      simp only [PyData.weightAll, List.length_cons]
      rw [Nat.mul_succ]
      omega
    · have := h1.dep
      simp only [PyData.depthAll]
      omega
theorem sh_list {k m n : Nat} {ds : List D} (h : ∀ d ∈ ds, Sh k m d) (hl : ds.length ≤ n) : Sh ((k + 1) * n) (m + 1) (.list ds) := by
  obtain ⟨a1, a2, a3, a4, a5⟩ := sh_all h
  refine ⟨by simp [PyData.canLay0, a1], by simp [PyData.showable, a2], by simp [PyData.leavesShort, a3], ?_, ?_⟩
  · simp only [PyData.weight]; exact Nat.le_trans a4 (Nat.mul_le_mul_left _ hl)
  · simp only [PyData.depth]; omega
theorem sh_tup {k m n : Nat} {ds : List D} (h : ∀ d ∈ ds, Sh k m d) (hl : ds.length ≤ n) : Sh ((k + 1) * n) (m + 1) (.tuple ds) := by
  obtain ⟨a1, a2, a3, a4, a5⟩ := sh_all h
  refine ⟨by simp [PyData.canLay0, a1], by simp [PyData.showable, a2], by simp [PyData.leavesShort, a3], ?_, ?_⟩
  · simp only [PyData.weight]; exact Nat.le_trans a4 (Nat.mul_le_mul_left _ hl)
  · simp only [PyData.depth]; omega
/-! ### str -/
/-- what str tells -/
def txD : D → Str
  | .str x => x
  | d => d.shown
/-- an empty dict, too -/
def DpE (K : PySem.W.Frag) (H : Hp) (v : V) (d : D) : Prop := (Dp K H v d ∧ d.canLay0 = true) ∨ ∃ a, v = .ref a ∧ H a = some (.dK []) ∧ d = .dict []
def rStrD (K : PySem.W.Frag) : List V → Hp → VK → Prop := fun xs H Q => ∃ v d, xs = [v] ∧ DpE K H v d ∧ d.showable = true ∧ d.depth ≤ 40 ∧ d.shown.length ≤ sizeLine ∧ Q (.str (txD d)) H
theorem reads_E {X : Cx} {pins : List (Addr × Obj)} {σ : L2.St} {H : Hp} {s : Shared} (I : Inv X pins σ H s) {v : V} {u : Value} {d : D} (h : DpE X.K H v d) (ru : RelV v u) : ∃ as, Reads s.heap u d as ∧ (d.hasDict = true → sysModules ∉ as) := by
  rcases h with ⟨h, hl⟩ | ⟨a, rfl, hH, rfl⟩
  · obtain ⟨as, r⟩ := Dp.reads I d v u h ru
    exact ⟨as, r, PyData.noDict_hsm (PyData.hasDict_of_canLay d hl)⟩
  · cases ru
    obtain ⟨_, hne, vs, hk, ob, es, ep, h1, h2, h3, h4, h5, h6⟩ := I.hok a _ hH
    cases hk
    have key : ∀ l, Pairs (mixKind X.prog X.w) l [] → l = [] := fun l h => by cases h; rfl
    have e := key _ h5
    have r : Reads s.heap (.ref a) (.dict []) (a :: [] ++ []) := Reads.dict h1 (by exact h2.1) h3 (by rw [e]; exact .nil) (by rw [e]; exact .nil)
    refine ⟨_, r, fun _ hm => ?_⟩
    have hm : sysModules ∈ [a] := hm
    rw [List.mem_singleton.mp hm] at hne
    exact absurd hne (by simp)
theorem call_strD {X : Cx} {K : PySem.W.Frag} (hK : X.K = K) (hg : X.A.guards = some []) (hu : X.A.units + 64 < cLine) : CallR X (.type "str") (rStrD K) := by
  subst hK
  intro pins s σ H xs us Q I rel asks
  obtain ⟨v, d, rfl, hv, hs, hd, hz, q⟩ := asks
  obtain ⟨u, rfl, ru⟩ := vals1 rel
  obtain ⟨as, r, hsm⟩ := reads_E I hv ru
  have big : ∀ a, u = .ref a → txD d = d.shown → wpAny (model X.prog X.w) X.A (call (.type "str") [u]) (EP X pins σ Q) X.xe s := fun a e e2 => by
    subst e
    rw [e2] at q
    exact PySem.str_of_reads r hs hsm hg (by omega) (fun _ _ z => z) (fun h' u tk k => ⟨.str d.shown, H, I.kept k, ⟨_, rfl⟩, q⟩) hz
  cases r with
  | none => exact PySem.P.str_of_none ⟨.str _, H, I.tok _, ⟨_, rfl⟩, q⟩
  | bool b => exact PySem.P.str_of_bool ⟨.str _, H, I.tok _, ⟨_, rfl⟩, by have q : Q (.str (PyData.shown (.bool b))) H := q; rw [PyData.shown_bool] at q; cases b <;> exact q⟩
  | int i t =>
    have hl : i.natAbs.log2 < 1920 := by simpa [PyData.showable] using hs
    exact PySem.P.str_of_int hl ⟨.str _, H, I.tok _, ⟨_, rfl⟩, q⟩
  | str x t => exact PySem.P.str_of_str ⟨.str x, H, I, ⟨_, rfl⟩, q⟩
  | list _ _ _ _ => exact big _ rfl rfl
  | tuple _ _ _ _ => exact big _ rfl rfl
  | dict _ _ _ _ _ => exact big _ rfl rfl
section
variable {c : Cn} {ρ : Slots} {S : Store} {Φ : Pv → Store → Prop} {ta te tf : TE} {tas : TA}
theorem vc_strD {x : Pv} {d : D} {k m : Nat} (hx : Da S x d) (hd : Sh k m d) (h : Φ (.dat (.str (txD d))) S) (hk : k ≤ 100000 := by decide) (hm : m ≤ 40 := by decide) : VC c ρ (rStrD c.K) [x] S Φ := fun A B F H σ en er vs vx Q q => by
  cases vx with
  | cons v1 v2 =>
    cases v2
    exact ⟨_, d, rfl, .inl ⟨(hx.dv en d v1).dp (Same.refl H) _ _ (nod_lay d hd.lay), hd.lay⟩, hd.sho, Nat.le_trans hd.dep hm, hd.len hk, q.dat en h (.str _)⟩
theorem vc_strE (h : Φ (.dat (.str (txD (.dict [])))) S) : VC c ρ (rStrD c.K) [.dat (.dict [])] S Φ := fun A B F H σ en er vs vx Q q => by
  cases vx with
  | cons v1 v2 =>
    cases v2
    cases v1 with
    | dat a =>
      cases a with
      | dct ha => exact ⟨_, .dict [], rfl, .inr ⟨_, rfl, en.exF _ _ ha, rfl⟩, by simp [PyData.showable, PyData.showableKv], by simp [PyData.depth, PyData.depthKv], by decide +kernel, q.dat en h (.str _)⟩
/-- {} as data -/
theorem ve_dnewK (h : Φ (.dat (.dict [])) S) : VE c ρ S tDNewK Φ := fun A B F H σ en er Q q p np => by
  obtain ⟨en2, f2⟩ := en.frz (o := .dK []) np
  exact q _ _ S _ _ h en2 f2 (.dat (.dct upd_same))
/-- texts alike -/
theorem vr_eqT {a b : Str} (h : Φ (.dat (.bool (decide (a = b)))) S) : VR c ρ rEq (.dat (.str a)) (.dat (.str b)) S Φ := fun A B F H σ en er v u vx vy Q q => by
  cases vx with
  | dat hx =>
    cases vy with
    | dat hy =>
      cases hx
      cases hy
      refine ⟨rfl, ?_⟩
      have e : decide (V.str a = V.str b) = decide (a = b) := by
        by_cases z : a = b
        · rw [decide_eq_true z, decide_eq_true (by rw [z])]
        · rw [decide_eq_false z, decide_eq_false fun y => z (V.str.inj y)]
      rw [e]
      exact q.dat en h (.bl _)
theorem vr_neT {a b : Str} (h : Φ (.dat (.bool (!decide (a = b)))) S) : VR c ρ rNe (.dat (.str a)) (.dat (.str b)) S Φ := fun A B F H σ en er v u vx vy Q q => by
  cases vx with
  | dat hx =>
    cases vy with
    | dat hy =>
      cases hx
      cases hy
      refine ⟨rfl, ?_⟩
      have e : decide (V.str a = V.str b) = decide (a = b) := by
        by_cases z : a = b
        · rw [decide_eq_true z, decide_eq_true (by rw [z])]
        · rw [decide_eq_false z, decide_eq_false fun y => z (V.str.inj y)]
      rw [e]
      exact q.dat en h (.bl _)
/-! ### a list, a tuple so many times -/
def rRepX (K : PySem.W.Frag) : R2 := fun x y H Q => rRep x y H Q ∨ rRepT K x y H Q
theorem op_repX {X : Cx} {K : PySem.W.Frag} (hK : X.K = K) : OpR X (binaryOp .Mult) (rRepX K) := by
  subst hK
  exact op_rep.or op_repT
theorem Dvs.rep {K : PySem.W.Frag} {F : Hp} {ds : List D} {vs : List V} (h : Dvs K F vs ds) : ∀ n : Nat, Dvs K F (List.replicate n vs).flatten (List.replicate n ds).flatten
  | 0 => .nil
  | n + 1 => by
    rw [List.replicate_succ, List.replicate_succ, List.flatten_cons, List.flatten_cons]
    exact h.append (Dvs.rep h n)
theorem vr_repT {ds : List D} {n : Nat} {z : Int} (hz : z = (n : Int)) (hne : ds ≠ []) (h2 : 2 ≤ n) (h3 : n ≤ 1000) (hl : ds.length ≤ 1000) (h : Φ (.dat (.tuple (List.replicate n ds).flatten)) S) : VR c ρ (rRepX c.K) (.dat (.tuple ds)) (.dat (.int z)) S Φ := fun A B F H σ en er v u vx vy Q q => by
  subst hz
  cases vx with
  | dat hx =>
    cases vy with
    | dat hy =>
      cases hy
      cases hx with
      | tup h4 h5 =>
        rename_i l vs
        refine .inr ⟨l, n, vs, rfl, rfl, sqT_of (en.exF _ _ h4), fun z => ?_, by omega, by omega, by rw [h5.length]; exact hl, fun p np => ?_⟩
        · subst z; cases h5; exact hne rfl
        · obtain ⟨en2, f2⟩ := en.frz (o := .tup (List.replicate ((n : Int).toNat) vs).flatten) np
          exact q _ _ S _ _ h en2 f2 (.dat (.tup upd_same ((h5.up f2).rep n)))
theorem vr_repL {ds : List D} {n : Nat} {z : Int} (hz : z = (n : Int)) (h3 : n ≤ 1000) (hl : ds.length ≤ 1000) (h : Φ (.dat (.list (List.replicate n ds).flatten)) S) : VR c ρ (rRepX c.K) (.dat (.list ds)) (.dat (.int z)) S Φ := fun A B F H σ en er v u vx vy Q q => by
  subst hz
  cases vx with
  | dat hx =>
    cases vy with
    | dat hy =>
      cases hy
      cases hx with
      | lst h4 h5 =>
        rename_i l vs
        have hb : vs.length * ((n : Int).toNat) ≤ sizeLine := by
          rw [h5.length, sizeLine_eq]
          exact Nat.le_trans (Nat.mul_le_mul hl (show ((n : Int).toNat) ≤ 1000 by omega)) (by decide)
        refine .inl ⟨l, n, vs, rfl, rfl, en.exF _ _ h4, by omega, by omega, hb, fun p np => ?_⟩
        obtain ⟨en2, f2⟩ := en.frz (o := .lst (List.replicate ((n : Int).toNat) vs).flatten) np
        exact q _ _ S _ _ h en2 f2 (.dat (.lst upd_same ((h5.up f2).rep n)))
end
/-! ### a def that is called out of a list -/
structure HeldV (X : Cx) (k : Nat) (E : XK) (f : Addr) (sp : Sp) : Prop where
  ex : ∃ (fd : FuncData) (ps : List Str) (CX : CXT) (j : Nat), j ≤ k ∧ FnOk X.prog X.w X.K X.mg X.base CX j f fd ps sp ∧ PySem.W.keepIn X.K (.ref f) = true ∧ Binds X.K fd ps [] ∧ Passes CX X E
def tCallV (W : Addr → Sp → Prop) (E : XK) (tf : TE) (t : TA) : TE := fun σ H Q => tf σ H fun v H1 => ∃ f sp, v = .ref f ∧ W f sp ∧ t σ H1 fun vs H2 => sp vs H2 Q E
theorem pe_callV {X : Cx} {k : Nat} {E : XK} {W : Addr → Sp → Prop} {tf : TE} {t : TA} {fo fi e : Expr} {es : List Expr} {fp pos : Pos} (A : ∀ f sp, W f sp → HeldV X k E f sp) (hr : Room k X.A) (hf : PE X (.Subscript fo fi fp) tf) (ha : PA X (e :: es) t)
    (he : starEach (e :: es) X.env = (false, eval e X.env) :: starEach es X.env := by rfl) (hpl : (backTo pos (starEach es X.env)).any (·.1) = false := by rfl) : PE X (.Call (.Subscript fo fi fp) (e :: es) [] pos) (tCallV W E tf t) := by
  constructor
  intro pins s σ H Q I h
  have arm : eval (.Call (.Subscript fo fi fp) (e :: es) [] pos) X.env = (do callWith pos (← eval (.Subscript fo fi fp) X.env) [] (backTo pos (starEach (e :: es) X.env)) (backToKw pos (keywordEach [] X.env))) := rfl
  rw [arm]
  refine wpAny_bind (thn (hf.run pins s σ H _ I h) ?_)
  rintro u s1 ⟨v, H1, I1, r1, f, sp, rfl, hw, ht⟩
  cases r1
  obtain ⟨fd, ps, CX, j, hj, F, kp, hb, hx⟩ := (A f sp hw).ex
  apply PySem.W.callWith_K (h₀ := X.base) I1.ok.mod.kin kp ?_ he hpl
  apply thn (ha.run pos pins s1 σ H1 _ I1 ht)
  rintro us s2 ⟨vs, H2, I2, rel, asks⟩
  refine ⟨I2.kIn, ?_⟩
  exact run_fn (ds := []) (dvs := []) F (hr.mono hj) hb .nil hx I2 rel (by rw [List.append_nil]; exact asks)
section
variable {c : Cn} {ρ : Slots} {S : Store} {Φ : Pv → Store → Prop} {tf : TE} {tas : TA}
theorem ve_callV {W : Addr → Sp → Prop} {E : XK} (h : VE c ρ S tf fun x S1 => ∃ f sp, x = ptr f ∧ W f sp ∧ VA c ρ S1 tas fun xs S2 => VC c ρ (fun vs H Q => sp vs H Q E) xs S2 Φ) : VE c ρ S (tCallV W E tf tas) Φ := fun A B F H σ en er Q q => by
  refine h A B F H σ en er _ fun x v S1 F1 H1 h1 en1 f1 vx => ?_
  obtain ⟨f, sp, rfl, hw, h1⟩ := h1
  cases vx
  refine ⟨f, sp, rfl, hw, h1 A B F1 H1 σ en1 er _ fun xs vs S2 F2 H2 h2 en2 f2 vxs => ?_⟩
  exact h2 A B F2 H2 σ en2 er vs vxs Q (q.up (f1.trans f2))
end
/-! ### a def of which nothing is asked, for it is never called -/
theorem fn_never {P : Program} {w : World} {K : PySem.W.Frag} {mg : Str → Option Value} {base : Heap} {CX : CXT} {k : Nat} {f : Addr} {fd : FuncData} {ps : List Str} : FnOk P w K mg base CX k f fd ps (fun _ _ _ _ => False) := ⟨fun _ _ _ _ h => h.elim, fun _ _ _ _ _ _ _ _ _ _ _ _ _ h => h.elim⟩
/-! ### the law's def, called from without: no repr is under way -/
structure FnG (P : Program) (w : World) (K : PySem.W.Frag) (mg : Str → Option Value) (base : Heap) (CX : CXT) (k : Nat) (f : Addr) (fd : FuncData) (ps : List Str) (sp : Sp) : Prop where
  run : ∀ (s : Shared) (H : Hp) (args : Args) (us : List Value) (vs : List V) (Q : VK) (E : XK), Env0 P w K mg base callerA [] s H → BindsTo s fd args (ps.zip us) → Vals vs us → sp vs H Q E → codeAny (model P w) callerA (.call (.ref f) args) (CR CX [] P w H s Q E) s
section
variable {P : Program} {w : World} {K : PySem.W.Frag} {mg : Str → Option Value} {base : Heap} {x qual : Str} {st : Stmt} {f : Addr} {fd : FuncData} {N ps : List Str} {k : Nat} {sp : Sp}
theorem okG (F : Fun K x qual st f fd) (S : FnScope N ps (defScope st)) (len : ∀ vs H Q E, sp vs H Q E → vs.length = ps.length) (room : Room (k + 1) callerA)
    (made : ∀ (cdv : Value) (A : Around) (outer : List Env) (s : Shared) (H : Hp) (vs : List V) (Q : VK) (E : XK), A.guards = some [] → Room k (A.deeper (envOfC qual (defScope st) s.heap.objs.size f cdv)) → sp vs H Q E →
      ∃ t, PSs (cxOf CX0 P w K mg base N qual (defScope st) f cdv A outer s H E).nox (defBody st) t ∧ t { nx := fun _ H' => Q .non H', rt := Q } (L2.start N vs) H) : FnG P w K mg base CX0 (k + 1) f fd ps sp := by
  obtain ⟨_, _, _, _, _, _, cdv, _, _, rfl, lk, hcd⟩ := F.ex
  constructor
  intro s H args us vs Q E around binds vals asks
  have there : K.In s.heap := around.mod.kin.keeps fun b o e => (around.bs b o e).1
  have wide : s.heap.NoLimit := around.mod.nolimit.keeps fun b o e => (around.bs b o e).1
  apply codeAny_call_function room.depth (there _ _ lk) rfl S.co S.gen rfl (PySem.W.codeRec_of there hcd)
  apply binds
  apply wpAny_newFunctionEnv_cells S.kind
  · rintro ⟨n, v⟩ hy
    rcases S.par n (List.of_mem_zip hy).1 with q | q
    · exact .inl q
    · exact .inr ⟨q, PySem.W.cellsFrom_some _ _ _ (.inl q)⟩
  rintro _ rfl s1 called
  refine ⟨wide.keeps called.toInCall.keep, codeAny_func ?_⟩
  obtain ⟨t, derived, reads⟩ := made cdv callerA [] s H vs Q E rfl (room.deeper _) asks
  have inv := inv_start (CX := CX0) (P := P) (w := w) (K := K) (mg := mg) (base := base) (E := E) (cd := cdv) (f := f) S room.hd around (len _ _ _ _ asks) vals called
  refine wpAny_mono (derived.nox.run [] s1 (L2.start N vs) H _ inv reads) ?_ fun _ _ h => h
  intro how s2 h
  cases how with
  | next =>
    obtain ⟨_, H', J, q⟩ := h
    exact ⟨.non, H', J.os, J.bare, J.base, J.hok, rfl, q⟩
  | ret u =>
    obtain ⟨v, _, H', J, rv, q⟩ := h
    exact ⟨v, H', J.os, J.bare, J.base, J.hok, rv, q⟩
  | brk =>
    obtain ⟨_, _, _, q⟩ := h
    exact q.elim
  | cont =>
    obtain ⟨_, _, _, q⟩ := h
    exact q.elim
end
/-! ### a method of a text -/
section
variable {c : Cn} {ρ : Slots} {S : Store} {Φ : Pv → Store → Prop} {to te : TE}
theorem ve_m1 {r : V → List V → Hp → VK → Prop} (h : VE c ρ S to fun x S1 => ∃ a, x = .dat (.str a) ∧ VE c ρ S1 te fun y S2 => VR c ρ (fun x y => r x [y]) x y S2 Φ) : VE c ρ S (tM1 r to te) Φ := fun A B F H σ en er Q q => by
  refine h A B F H σ en er _ fun x v S1 F1 H1 h1 en1 f1 vx => ?_
  obtain ⟨a, rfl, h1⟩ := h1
  cases vx with
  | dat z =>
    cases z
    refine ⟨⟨a, rfl⟩, h1 A B F1 H1 σ en1 er _ fun y u S2 F2 H2 h2 en2 f2 vy => ?_⟩
    exact h2 A B F2 H2 σ en2 er _ _ (.dat (.str a)) vy Q (q.up (f1.trans f2))
end
end Wt
set_option maxHeartbeats 4000000
/-! The law's def called at the top, where it is known that no repr is under way. -/
namespace Wt
open PySem PySem.Spec PyProof.Rows L2 L2H RZ
section
variable {P : Program} {w : World} {K : PySem.W.Frag} {mg mb : Str → Option Value} {CX : CXT} {k : Nat} {fa a : Addr} {fd : FuncData} {x : Str} {sp : Sp} {s1 : Shared} {vs : List Value} {ns : List Int}
/-- the script's heap, as the def sees it -/
structure Seen (K : PySem.W.Frag) (P : Program) (w : World) (s1 : Shared) (a : Addr) (ns : List Int) (H : Hp) : Prop where
  only : Only H
  scr : SqL K H a (ns.map V.int)
  ok : HOk P w H s1.heap
  one : ∀ b, H b ≠ none → b = a
  own : H a ≠ none → K.lookup a = none
abbrev Good (s1 : Shared) (r : Result) (s2 : Shared) : Prop := r = .ok (.ret (.bool true)) ∧ OldK s1.heap s2.heap ∧ s2.os = s1.os ∧ AllBare s2.gens
theorem call_seen (KX : K.In s1.heap) (hns : s1.heap.Ns mainGlobals mg) (hb : s1.heap.Ns builtinsNs mb) (hbb : ∀ x : Str, x ≠ "__name__" → mb x = bootBuiltins x) (hlim : s1.heap.NoLimit) (hg : s1.gens = #[])
    (ha : s1.heap.get? a = some { cls := .type "list", data := .seq vs.toArray }) (F : ∀ base : Heap, K.In base → base.Ns mainGlobals mg → FnG P w K mg base CX k fa fd [x] sp) (hbind : ∀ (s : Shared) (u : Value), BindsTo s fd ⟨[u], []⟩ [(x, u)])
    (hCX : ∀ H e s2, CX [] H s1 (fun _ _ _ => False) e s2 → False) {H : Hp} (S : Seen K P w s1 a ns H) (asks : sp [.ref a] H (fun v _ => v = .bl true) fun _ _ _ => False) :
    codeAny (model P w) callerA (.call (.ref fa) ⟨[.ref a], []⟩) (Good s1) s1 := by
  have free : ∀ {b : Addr} {o : Obj}, s1.heap.get? b = some o → (b = a → False) → H b = none := fun {b o} e z => by
    cases q : H b with
    | none => rfl
    | some u => exact (z (S.one b (by rw [q]; exact fun y => nomatch y))).elim
  have stays : ∀ {b : Addr} {o : Obj}, s1.heap.get? b = some o → H b = none → (hidT s1.heap H).get? b = some o := fun e n => hidT_get e n
  have names : ∀ {b : Addr} {m : Str → Option Value}, s1.heap.Ns b m → (hidT s1.heap H).Ns b m := by
    rintro b m ⟨o, es, ep, e, d, r⟩
    refine ⟨o, es, ep, stays e (free e fun z => ?_), d, r⟩
    rw [z, ha] at e
    have e := Option.some.inj e
    rw [← e] at d
    cases d
  have KH : K.In (hidT s1.heap H) := by
    intro b o e
    refine stays (KX b o e) ?_
    cases q : H b with
    | none => rfl
    | some u =>
      have n : H b ≠ none := by rw [q]; exact fun y => nomatch y
      have z := S.one b n
      rw [z] at n e
      rw [S.own n] at e
      cases e
  obtain ⟨mc, l1, l2⟩ := hlim
  have md : Mod K mg (hidT s1.heap H) := ⟨KH, names hns, ⟨mb, names hb, hbb⟩, mc, names l1, l2⟩
  have env : Env0 P w K mg (hidT s1.heap H) callerA [] s1 H := ⟨rfl, md, fun _ _ e => of_hidT e, Nat.le_of_eq (hidT_size _ _), trivial, fun _ z => (nomatch z), S.ok, .of_eq hg⟩
  refine codeAny_mono ((F _ KH (names hns)).run s1 H ⟨[.ref a], []⟩ [.ref a] [.ref a] _ _ env (hbind s1 _) (.cons rfl .nil) asks) ?_
  intro r s2 h
  match r, h with
  | .error e, h => exact (hCX H e s2 h).elim
  | .ok .next, h => exact False.elim h
  | .ok .brk, h => exact False.elim h
  | .ok .cont, h => exact False.elim h
  | .ok (.ret u), h =>
    obtain ⟨v, H2, os, bare, un, ok2, rv, q⟩ := h
    have q : v = .bl true := q
    subst q
    have rv : u = Value.bool true := rv
    subst rv
    refine ⟨rfl, OldK.of_keep ?_, os, bare⟩
    intro b o e
    rcases S.only b with z | ⟨ob, xs, z⟩
    · exact un.keep b o e z (fun y => nomatch y) (fun y => nomatch y)
    · have g1 := (S.ok b _ z).1
      have g2 := (ok2 b _ (un.frzs b ob _ z)).1
      rw [g1] at e
      cases e
      exact g2
theorem law_callG (KX : K.In s1.heap) (hns : s1.heap.Ns mainGlobals mg) (hb : s1.heap.Ns builtinsNs mb) (hbb : ∀ x : Str, x ≠ "__name__" → mb x = bootBuiltins x) (hlim : s1.heap.NoLimit) (hg : s1.gens = #[])
    (ha : s1.heap.get? a = some { cls := .type "list", data := .seq vs.toArray }) (hi : IntsAre vs ns) (hl : ns.length ≤ sizeLine) (F : ∀ base : Heap, K.In base → base.Ns mainGlobals mg → FnG P w K mg base CX k fa fd [x] sp) (hbind : ∀ (s : Shared) (u : Value), BindsTo s fd ⟨[u], []⟩ [(x, u)])
    (hsp : ∀ H : Hp, Only H → SqL K H a (ns.map V.int) → sp [.ref a] H (fun v _ => v = .bl true) fun _ _ _ => False) (hCX : ∀ H e s2, CX [] H s1 (fun _ _ _ => False) e s2 → False) :
    codeAny (model P w) callerA (.call (.ref fa) ⟨[.ref a], []⟩) (Good s1) s1 := by
  have rv := vals_ints hi
  obtain ⟨H, S⟩ : ∃ H, Seen K P w s1 a ns H := by
    cases known : K.lookup a with
    | some o =>
      have e := KX a o known
      rw [ha] at e
      cases e
      refine ⟨fun _ => none, fun _ => .inl rfl, .inr ⟨_, vs.toArray, _, known, rfl, rfl, rfl, ?_, ?_⟩, fun _ _ z => (nomatch z), fun _ z => absurd rfl z, fun z => absurd rfl z⟩
      · rw [List.size_toArray, hi.length]; exact hl
      · simpa using rv
    | none =>
      have at_a : ∀ b, b ≠ a → (if b = a then some (HO.frz { cls := .type "list", data := .seq vs.toArray } (.lst (ns.map V.int))) else none) = none := fun b z => if_neg z
      refine ⟨fun b => if b = a then some (.frz { cls := .type "list", data := .seq vs.toArray } (.lst (ns.map V.int))) else none, fun b => ?_, .inl (.inr ⟨_, if_pos rfl⟩), fun b u z => ?_, fun b z => ?_, fun _ => known⟩
      · rcases Decidable.em (b = a) with e | e
        · exact .inr ⟨_, _, if_pos e⟩
        · exact .inl (at_a b e)
      · rcases Decidable.em (b = a) with e | e
        · subst e
          have z := (if_pos rfl).symm.trans z
          cases z
          exact ⟨ha, by rw [List.length_map]; exact hl, vs, _, rv, ha⟩
        · rw [at_a b e] at z
          cases z
      · exact Decidable.byContradiction fun e => z (at_a b e)
  exact call_seen KX hns hb hbb hlim hg ha F hbind hCX S (hsp H S.only S.scr)
end
theorem walk_ofG {l : PySem.W.OpenLaw} {n k : Nat} {q : Program} {loose : List Str} {XP : (Str → Option Value) → Heap → Prop} {YP : World → Heap → Prop} {d : DefRec} {K : Params → PySem.W.Frag} {CX : World → CXT} {sp : World → Sp} {x : Str}
    (most : l.most = some n) (small : n ≤ sizeLine) (plain : d.params.defaults = []) (inK : ∀ (w : World) (h : Heap), YP w h → (K w.params).In h)
    (F : ∀ (w : World) (mg : Str → Option Value) (fa : Addr) (h : Heap), (K w.params).In h → h.Ns mainGlobals mg → mg d.name = some (.ref fa) →
      ∃ fd : FuncData, (∀ (s : Shared) (u : Value), BindsTo s fd ⟨[u], []⟩ [(x, u)]) ∧ ∀ base : Heap, (K w.params).In base → base.Ns mainGlobals mg → FnG l.prog w (K w.params) mg base (CX w) k fa fd [x] (sp w))
    (asked : ∀ (w : World) (H : Hp) (a : Addr) (ns : List Int), ns.length ≤ n → Only H → SqL (K w.params) H a (ns.map V.int) → sp w [.ref a] H (fun v _ => v = .bl true) fun _ _ _ => False)
    (none_out : ∀ (w : World) (H : Hp) (s : Shared) (e : Value) (s2 : Shared), CX w [] H s (fun _ _ _ => False) e s2 → False) : PySem.W.WalkO q loose XP YP l.row.toRowW d [] (fun f vs => PySem.call f vs) := by
  apply Att.attach_call most plain
  intro w s0 s1 mg mb fa o pm cd doc a vs ns G Y ho hd hcd hmg hobj hints hlen hg
  obtain ⟨fd, hb, hF⟩ := F w mg fa _ (inK w _ Y) G.T.g hmg
  exact law_callG (inK w _ Y) G.T.g G.T.b G.T.builtins G.T.nolimit hg hobj hints (Nat.le_trans hlen small) hF hb (fun H hO hS => asked w H a ns hlen hO hS) fun H e s2 => none_out w H s1 e s2
end Wt
set_option maxHeartbeats 4000000
/-! A list comprehension whose step may raise. -/
namespace Wt
open PySem PySem.Spec PyProof.Rows L2 L2H RZ
abbrev failsAt (X : Cx) (ce : Env) : Value → Shared → Prop := notedBy (model X.prog X.w) X.A ce (CompFails (model X.prog X.w) X.A X.xe ce)
/-- the block, where a raise is noted, then handed on -/
abbrev BlkX (X : Cx) (s : Shared) (H : Hp) (sc : Scope) (ce : Env) (fp : List Addr) : Cx := (X.blk s H sc ce fp).tr [] (failsAt X ce)
theorem frames_less {B B1 h : Heap} {l : List Env} (hl : ∀ b o, B1.get? b = some o → B.get? b = some o) (x : h.FunFrames B l) : h.FunFrames B1 l := funFrames_none x fun L hL => by
  cases e : B1.get? L with
  | none => rfl
  | some o =>
    have z := hl L o e
    obtain ⟨z2, _⟩ := x.mem hL
    rw [z2] at z
    cases z
theorem sky_fly {B B1 h : Heap} {l : List Env} {a L : Addr} {Z Z1 : Obj → Prop} (sky : Sky B1 l a Z1 L h) (fl : HandSPX.FlyingZ B l a Z h) : HandSPX.FlyingZ B1 l a Z h := by
  obtain ⟨_, _, _, oe, vs, T, oT, ts, he, hz, hd, h1, _, hTe, hT, hdT, h3⟩ := fl
  have key : B1.StaysIn h → B1.get? a = none → h.FunFrames B1 l → B1.get? T = none → HandSPX.FlyingZ B1 l a Z h := fun k1 k2 k3 k4 => ⟨k1, k2, k3, oe, vs, T, oT, ts, he, hz, hd, h1, k4, hTe, hT, hdT, h3⟩
  have same : ∀ {fl2 : Value} {Z2 : Obj → Prop}, HandSPX.TracedZ h B1 a Z2 fl2 → B1.get? T = none := by
    rintro fl2 Z2 ⟨oe2, vs2, T2, _, _, he2, _, hd2, h12, hn2, _⟩
    rw [he] at he2
    obtain rfl := Option.some.inj he2
    rw [hd] at hd2
    obtain rfl := Data.fields.inj hd2
    rw [h1] at h12
    obtain rfl := Value.ref.inj (Option.some.inj h12)
    exact hn2
  rcases sky with ⟨k1, k2, k3, oe2, vs2, he2, _, hd2, h12⟩ | ⟨k1, k2, k3, k4⟩ | ⟨k1, k2, k3, k4⟩
  · rw [he] at he2
    obtain rfl := Option.some.inj he2
    rw [hd] at hd2
    obtain rfl := Data.fields.inj hd2
    rw [h1] at h12
    cases h12
  · exact key k1 k2 k3 (same k4)
  · exact key k1 k2 k3 (same k4)
theorem passes_blk {X : Cx} {pins : List (Addr × Obj)} {σ : L2.St} {H3 : Hp} {s3 : Shared} {W : WX} {E : XK} {ce : Env} {sc : Scope} {fp : List Addr} (tk : L2.Takes X W) (hW : ∀ cls d H, E cls d H → W cls d σ H) (hs : X.stack = X.env :: X.outer) (hf : X.env.frame = some X.env.locals)
    (hcf : ce.frame = X.env.frame) (hcl : s3.heap.objs.size ≤ ce.locals) (I3 : Inv X pins σ H3 s3) (hfp : ∀ b ∈ fp, FpOk X pins H3 b) : Passes (L2N.CX X.prog X.w) (BlkX X s3 H3 sc ce fp) E := by
  intro pins2 σ2 H s e s2 J c
  obtain ⟨a0, B0, _, _, _, e0, fl0, _⟩ := id c
  obtain ⟨a, B, sI, pins3, σ3, H2, cls, d, e1, JI, nb, up, sky, na, os, ag, w⟩ := L2N.XE.of_call (X := BlkX X s3 H3 sc ce fp) (W := fun cls d _ H => E cls d H) J (fun _ _ _ h => h) c
  subst e1
  obtain rfl := Value.ref.inj e0
  have fl := sky_fly sky fl0
  have fl : HandSPX.FlyingZ B X.stack a _ s2.heap := fl
  rw [hs] at fl
  have IX : Inv X pins σ H2 sI := I3.call' (ch := fp) JI.os JI.base JI.hok JI.bare fun b hb => by
    obtain ⟨q0, q1, q2, q3, q4, q5⟩ := hfp b hb
    exact ⟨q3, q1, q4, q5⟩
  have nC : H2 ce.locals = none := JI.free
  obtain ⟨f0, f1, f2, f3, f4, f5⟩ := I3.fpOk hcl nC
  -- without the block's names
  obtain ⟨B1, b1, b2⟩ := restrict B fun b => decide (b ≠ ce.locals)
  have sub : ∀ b o, B1.get? b = some o → B.get? b = some o := fun b o z => by
    by_cases q : b = ce.locals
    · rw [b2 b (by simp [q])] at z; cases z
    · rw [b1 b (by simp [q])] at z; exact z
  have gone : ∀ b, B.get? b = none → B1.get? b = none := fun b z => by
    cases q : B1.get? b with
    | none => rfl
    | some o => rw [sub b o q] at z; cases z
  obtain ⟨G, g1, g2⟩ := restrict sI.heap fun b => decide (b ≠ ce.locals)
  obtain ⟨k1, k2, k3, oe, vs, T, oT, ts, he, hz, hd, h1, hnT, hTe, hT, hdT, ht3⟩ := fl
  obtain ⟨a0, h0⟩ : ∃ a0, vs[0]? = some a0 := by
    have z : 1 < vs.size := (Array.getElem?_eq_some_iff.mp h1).1
    exact ⟨vs[0]'(by omega), Array.getElem?_eq_getElem (by omega)⟩
  have hc2 := hz.2.2 vs hd
  have flD : Heap.FlyingD B1 (X.env :: X.outer) a oe.cls a0 .none oe.dict s2.heap := ⟨fun b o z => k1 b o (sub b o z), gone a k2, frames_less sub k3, oe, vs, T, oT, ts, he, ⟨rfl, h0, hc2, rfl⟩, hd, h1, gone T hnT, hTe, hT, hdT, ht3⟩
  have hfr : X.A.frames = some (X.env :: X.outer) := by rw [I3.ok.frames, hs]
  obtain ⟨m, hn, _⟩ := JI.loc
  have hn : sI.heap.Ns ce.locals m := hn
  refine noted_flying hfr hcf hf (b2 _ (by simp)) (hn.upToSlots up) flD fun h2 held same => ?_
  refine tk _ _ ⟨a, B1, { sI with heap := G }, pins, σ, H2, cls, d, rfl, IX.turned (t' := sI.toks) (fun b o hb z => by rw [g1 b (by simp [hb])]; exact z) f0 f1 f3 f4 f5, fun b o z hb => ?_, fun b o z hnf => ?_, ?_, na, os, ag, hW _ _ _ w⟩
  · by_cases q : b = ce.locals
    · rw [g2 b (by simp [q])] at z; cases z
    · rw [g1 b (by simp [q])] at z
      rw [b1 b (by simp [q])]
      exact nb b o z hb
  · by_cases q : b = ce.locals
    · rw [g2 b (by simp [q])] at z; cases z
    · rw [g1 b (by simp [q])] at z
      obtain ⟨sl, y⟩ := up b o z hnf
      obtain ⟨sl2, y2⟩ := same b _ y q hnf
      exact ⟨sl2, y2⟩
  · rw [hs]
    obtain ⟨x1, x2, x3, oe2, vs2, T2, oT2, ts2, he2, hz2, hd2, h12, hnT2, hTe2, hT2, hdT2, ht2⟩ := held
    have ec : oe.cls = cls ∧ oe.dict = d := by
      rcases sky with ⟨_, _, _, oe3, vs3, he3, hz3, _⟩ | ⟨_, _, _, oe3, _, _, _, _, he3, hz3, _⟩ | ⟨_, _, _, oe3, _, _, _, _, he3, hz3, _⟩
      all_goals
        have he3 : s2.heap.get? a = some oe3 := he3
        rw [he] at he3
        obtain rfl := Option.some.inj he3
        exact ⟨hz3.1, hz3.2.1⟩
    exact .inr (.inr ⟨x1, x2, x3, oe2, vs2, T2, oT2, ts2, he2, ⟨hz2.1.trans ec.1, hz2.2.2.2.trans ec.2⟩, hd2, h12, hnT2, hTe2, hT2, hdT2, ht2⟩)
section
variable {X : Cx} {elt tg src : Expr} {sc : Scope} {own : List (Str × Nat)} {at0 spos : Pos} {wi : TI} {g : TG} {te : TE} {W : WX} {E : XK} {i : Nat} {y : Str} {py : Pos}
/-- y = [elt for tg in src], a step may raise -/
theorem ps_setLcX (calm : X.calm = true) (nd : X.N.Nodup) (hy : X.N[i]? = some y) (hyl : X.env.scope.names.lookup y = some .local) (swaps : swapsWith (.ListComp elt [⟨tg, src, [], 0⟩] sc at0) (some (.Name y py)) spos.line X.env = pure true)
    (hs : X.stack = X.env :: X.outer) (hf : X.env.frame = some X.env.locals) (tk : L2.Takes X W) (hW : ∀ cls d σ H, E cls d H → W cls d σ H) (hi : PI X tg src wi) (bk : BlkOk X.N X.env.scope sc own)
    (hg : ∀ (s : Shared) (H : Hp) (C : Addr) (cl : List (Str × Addr)) (fp : List Addr), PG (BlkX X s H sc (compEnvC sc cl C X.env) fp) tg g)
    (he : ∀ (s : Shared) (H : Hp) (C : Addr) (cl : List (Str × Addr)) (fp : List Addr), Passes (L2N.CX X.prog X.w) (BlkX X s H sc (compEnvC sc cl C X.env) fp) E → PE (BlkX X s H sc (compEnvC sc cl C X.env) fp) elt te)
    (hfold : ∀ x, foldedSetIterable src X.env x = pure x := by intro _; rfl) :
    PS X (.Assign [.Name y py] (.ListComp elt [⟨tg, src, [], 0⟩] sc at0) spos) (tAsg (tLc wi g tYes te (own.map (·.2))) (gName i)) := by
  constructor
  intro pins s σ H D inv want
  have want : tLc wi g tYes te (own.map (·.2)) σ H (fun x H1 => gName i x σ H1 D.nx) := want
  have caps : ∀ y ∈ sc.names, y.2 = .free → ∃ c, X.env.cells.lookup y.1 = some c := by
    intro y hy e
    exact (bk.free y hy e).elim (fun k => inv.ok.has _ (.inl k)) fun k => inv.ok.has _ (.inr k)
  rw [exec_Assign_Name_used _ _ _ _ swaps]
  apply wpAny_bind
  apply wpAny_standAt
  apply wpAny_bind
  show wpAny _ X.A (do let _ ← comprehension (.ListComp elt [⟨tg, src, [], 0⟩] sc at0) sc X.env (firstIterPos [⟨tg, src, [], 0⟩] at0) (newList []) false (eval src X.env) (some (assign (.Name y py) X.env))) _ _ s
  apply wpAny_bind
  refine thn (Q := fun _ s2 => SP X pins D .next s2) ?_ fun _ s2 hq => wpAny_pure (wpAny_pure hq)
  apply comprehension_at (use := some (assign (.Name y py) X.env)) (Q := fun _ s2 => SP X pins D .next s2) rfl hfold (closure_ok caps) bk.kind
  · intro y hy e
    rw [bk.uniq y hy, e]
  apply thn (hi.run pins s σ H _ inv want)
  intro _ sA got
  apply thn got
  rintro _ sB ⟨itr, fp, tn, J, HB, rfl, invB, turns, atB, okB, runs⟩
  apply wpAny_newObj_type
  · apply newEnv_comp
    obtain ⟨L, eL⟩ : ∃ L, L = sB.heap.objs.size := ⟨_, rfl⟩
    have freeL : HB L = none := invB.hok.fresh (by omega)
    rw [← eL]
    obtain ⟨Go, ⟨m0, go0⟩, step⟩ := runs L freeL
    -- the list is there
    suffices key : ∀ sC : Shared, sC = { sB with heap := sB.heap.push { cls := .type "list", data := .seq ([] : List Value).toArray } } →
        codeAny (model X.prog X.w) X.A (.compStart (.ListComp elt [⟨tg, src, [], 0⟩] sc at0) 0 (.ref itr) (.ref L) (compEnvC sc (cellsFrom (sC.heap.objs.size + 1) sc.names (cloFrom X.env.cells sc.names [])) sC.heap.objs.size X.env))
          (compEnds (model X.prog X.w) X.A X.xe (some (assign (.Name y py) X.env)) (fun _ s2 => SP X pins D .next s2) (.ref L) (compEnvC sc (cellsFrom (sC.heap.objs.size + 1) sc.names (cloFrom X.env.cells sc.names [])) sC.heap.objs.size X.env)) { sC with heap := pushCells (sC.heap.push { cls := .type "dict", data := .dict #[] }) sc.names } from key _ rfl
    intro sC eC
    have keepC : ∀ b o, sB.heap.get? b = some o → sC.heap.get? b = some o := by
      intro b o e
      rw [eC]
      exact Heap.get?_push_of_some _ e
    have sizeC : sC.heap.objs.size = sB.heap.objs.size + 1 := by
      rw [eC]
      exact Heap.size_push _ _
    have invC : Inv X pins σ (upd HB L (.lst [])) sC := by
      rw [eC]
      apply invB.laid (t' := sB.toks) (fun b o e => Heap.get?_push_of_some _ e) (Nat.le_of_eq eL.symm)
      refine ⟨Nat.zero_le _, [], 0, .nil, ?_⟩
      rw [eL]
      exact Heap.get?_push_size _ rfl
    have under : ∀ b ∈ fp, b < sB.heap.objs.size := by
      intro b hb
      obtain ⟨_, e, _⟩ := turns.obj _ _ atB b hb
      exact Heap.lt_size e
    have okC : ∀ b ∈ fp, FpOk X pins (upd HB L (.lst [])) b ∧ b < sC.heap.objs.size := by
      intro b hb
      have lt := under b hb
      obtain ⟨z0, z⟩ := okB b hb
      refine ⟨⟨?_, z⟩, by rw [sizeC]; exact Nat.lt_succ_of_lt lt⟩
      rw [upd_ne fun e => absurd lt (by rw [e, eL]; exact Nat.lt_irrefl _)]
      exact z0
    have atC : tn 0 sC.heap := turns.keep _ _ _ atB fun b _ o e => keepC b o e
    have inv0 := block_start invC bk nd okC
    have pg := fun cl => hg sC (upd HB L (.lst [])) sC.heap.objs.size cl fp
    have pe := fun cl => he sC (upd HB L (.lst [])) sC.heap.objs.size cl fp
    have freeC : ∀ b ∈ fp, (upd HB L (.lst [])) b = none := fun b hb => (okC b hb).1.1
    generalize eE : compEnvC sc (cellsFrom (sC.heap.objs.size + 1) sc.names (cloFrom X.env.cells sc.names [])) sC.heap.objs.size X.env = cE at inv0 ⊢
    have atE : cE.locals = sC.heap.objs.size := by rw [← eE]; rfl
    have frE : cE.frame = X.env.frame := by rw [← eE]; rfl
    have pg1 := pg (cellsFrom (sC.heap.objs.size + 1) sc.names (cloFrom X.env.cells sc.names []))
    have pe1 := pe (cellsFrom (sC.heap.objs.size + 1) sc.names (cloFrom X.env.cells sc.names []))
    rw [eE] at pg1 pe1
    generalize eH : upd HB L (.lst []) = HC at invC inv0 pg1 pe1 go0 freeC okC
    have pe1 := pe1 (passes_blk tk (fun cls d H h => hW cls d σ H h) hs hf frE (by rw [atE]; exact Nat.le_refl _) invC fun b hb => (okC b hb).1)
    generalize eD : ({ sC with heap := pushCells (sC.heap.push { cls := .type "dict", data := .dict #[] }) sc.names } : Shared) = sD at inv0 ⊢
    have keepD : ∀ b o, sC.heap.get? b = some o → sD.heap.get? b = some o := by
      intro b o e
      rw [← eD]
      exact pushCells_keeps _ _ _ _ (Heap.get?_push_of_some _ e)
    have atD : tn 0 sD.heap := turns.keep _ _ _ atC fun b _ o e => keepD b o e
    have inv1 : Inv (BlkX X sC HC sc cE fp) [] (wipe σ (own.map (·.2))) HC sD := inv0.toTry _
    have fine : ∀ {σ' : L2.St} {H' : Hp} {s' : Shared}, Inv (BlkX X sC HC sc cE fp) [] σ' H' s' → (∀ b ∈ fp, H' b = none) → ∀ b ∈ fp, FpOk (BlkX X sC HC sc cE fp) [] H' b := by
      intro σ' H' s' I hn b hb
      exact ⟨hn b hb, (I.ok.exf b hb).1, I.ok.exfs b hb, .inl hb, fun x c e => (I.ok.exf b hb).2 x c e, fun q hq => nomatch (show q ∈ ([] : List (Addr × Obj)) from by simpa using hq)⟩
    suffices loop : codeAny (model X.prog X.w) X.A (.compLoop (.ListComp elt [⟨tg, src, [], 0⟩] sc at0) 0 (.ref itr) (.ref L) cE) (compEnds (model X.prog X.w) X.A X.xe (some (assign (.Name y py) X.env)) (fun _ s2 => SP X pins D .next s2) (.ref L) cE) sD from
      codeAny_compStart_list loop (turns.self _ 0 _ _ _ atD loop)
    apply compLoop_any (fun n s' => ∃ i H', Inv (BlkX X sC HC sc cE fp) [] (wipe σ (own.map (·.2))) H' s' ∧ tn i s'.heap ∧ (∀ b ∈ fp, H' b = none) ∧ Go i n H') ?_ m0 ⟨0, HC, inv1, atD, freeC, go0⟩
    rintro n sE ⟨i2, HE, invE, tE, nE, goE⟩
    cases step i2 n HE goE with
    | inl over =>
      apply thn (turns.done (BlkX X sC HC sc cE fp) rfl rfl rfl calm i2 [] sE _ HE _ invE (fine invE nE) tE over.1)
      rintro _ sF ⟨rfl, invF⟩
      have back : Inv X pins σ HE sF := by
        apply invC.call' (ch := fp) invF.os invF.base invF.hok invF.bare
        intro b hb
        obtain ⟨_, z1, _, z3, z4, z5⟩ := (okC b hb).1
        exact ⟨z3, z1, z4, z5⟩
      have gone : HE sC.heap.objs.size = none := by
        rw [← atE]
        exact invF.free
      obtain ⟨names, ns, _⟩ := invF.loc
      obtain ⟨k0, k1, _, k3, k4, k5⟩ := invC.fpOk (Nat.le_refl _) gone
      show wpAny _ _ (assign (.Name y py) X.env (.ref L)) _ _ _
      refine wpAny_assign_Name (store_ok2 (v := V.ref L) back nd hy (.inl hyl) rfl (fun s2 I2 ⟨a, sb, ha⟩ => ?_) (.inr hyl))
      have apart : cE.locals ≠ a := by
        rw [atE]
        rcases ha with z | z
        · rw [z]; exact k1
        · exact fun e => k4 y a z e.symm
      refine ⟨names, ns.sameBut sb apart, fun h3 same => ?_⟩
      exact ⟨_, HE, I2.turned (t' := s2.toks) (fun b o hb e => (same.2 b (by rw [atE]; exact hb)).trans e) k0 k1 k3 k4 k5, over.2⟩
    | inr more =>
      obtain ⟨goes, Nx, less, take⟩ := more
      apply thn (turns.item (BlkX X sC HC sc cE fp) rfl rfl rfl calm i2 [] sE _ HE _ invE (fine invE nE) tE goes)
      rintro _ sF ⟨u, rfl, itemF⟩
      apply thn itemF
      rintro _ sG ⟨x, HG, invG, rx, yx, tG, nG⟩
      apply thn (pg1.run _ sG _ HG x u _ (invG.pinned (fine invG nG) (turns.obj _ _ tG)) rx (take x HG yx))
      rintro _ sK ⟨σK, HK, invK, hid, afterK⟩
      apply thn ((pts_nil (X := BlkX X sC HC sc cE fp)).run _ sK σK HK _ invK afterK)
      rintro b sM ⟨HM, invM, afterM⟩
      have close : ∀ {sZ : Shared} {HZ : Hp}, Inv (BlkX X sC HC sc cE fp) ([] ++ pinsAt fp sG.heap) σK HZ sZ → Nx HZ →
          ∃ m, m < n ∧ ∃ i H', Inv (BlkX X sC HC sc cE fp) [] (wipe σ (own.map (·.2))) H' sZ ∧ tn i sZ.heap ∧ (∀ b ∈ fp, H' b = none) ∧ Go i m H' := by
        intro sZ HZ invZ nx
        obtain ⟨m, lt, goZ⟩ := less HZ nx
        have stay : ∀ b ∈ fp, ∀ o, sG.heap.get? b = some o → sZ.heap.get? b = some o ∧ HZ b = none := by
          intro b hb o e
          have z := invZ.pin (b, o) (List.mem_append_right _ (List.mem_append_right _ (mem_pinsAt hb e)))
          exact ⟨z.1, z.2.1⟩
        refine ⟨m, lt, i2 + 1, HZ, ?_, turns.keep _ _ _ tG fun b hb o e => (stay b hb o e).1, ?_, goZ⟩
        · apply (invZ.unpinned (pins := [])).weak
          · rw [← hid, wipe_length]
          · intro j v e
            rw [← hid] at e
            exact (L2.wipe_some e).1
        · intro b hb
          obtain ⟨o, e, _⟩ := turns.obj _ _ tG b hb
          exact (stay b hb o e).2
      cases b with
      | false =>
        rw [if_neg Bool.false_ne_true] at afterM ⊢
        exact close invM afterM
      | true =>
        rw [if_pos rfl] at afterM ⊢
        apply thn (pe1.run _ sM σK HM _ invM afterM)
        rintro _ sN ⟨y2, HN, invN, ry, sofar, atL, few, nx⟩
        exact app_ok (X := BlkX X sC HC sc cE fp) invN atL few ry fun sZ invZ => close invZ nx
  · show 0 ≤ sizeLine
    decide
end
end Wt
set_option maxHeartbeats 4000000
/-! An except suite that raises «from None»; errors of which no more is known than the class. -/
namespace Wt
open PySem PySem.Spec PyProof.Rows L2 L2H RZ
theorem zc_of {cls : Value} {d : Option Addr} (o : Obj) (h : L2N.Zn cls d o) : Zc cls d o := ⟨h.1, h.2.1⟩
theorem takes_NC {X : Cx} {W : WX} (tk : L2.Takes X W) : L2N.Takes X W := fun u s2 ⟨a, B, sI, pins, σ, H, cls, d, e, I, nb, up, sky, r⟩ => by
  refine tk u s2 ⟨a, B, sI, pins, σ, H, cls, d, e, I, nb, up, ?_, r⟩
  rcases sky with ⟨k1, k2, k3, oe, vs, he, hz, hd⟩ | ⟨k1, k2, k3, k4⟩ | ⟨k1, k2, k3, k4⟩
  · exact .inl ⟨k1, k2, k3, oe, vs, he, zc_of _ hz, hd⟩
  · exact .inr (.inl ⟨k1, k2, k3, tracedZ_imp zc_of k4⟩)
  · exact .inr (.inr ⟨k1, k2, k3, tracedZ_imp zc_of k4⟩)
theorem takesC {X : Cx} : L2.Takes X (fun _ _ _ _ => False) := fun _ _ x => by
  obtain ⟨_, _, _, _, _, _, _, _, _, _, _, _, _, _, _, _, z⟩ := x
  exact z.elim
theorem passC {X : Cx} : Passes (L2.CX X.prog X.w) X E0 := fun _ _ _ _ _ _ _ h => by
  obtain ⟨_, _, _, _, _, _, _, _, _, _, _, _, z⟩ := h
  exact z.elim
/-- C(e), in an except suite -/
theorem pmk5_expr {X : Cx} {C : Addr} {bmB : List Value} {B newId initId : String} {x : Str} {e : Expr} {ta : TE} {p pos : Pos} (F : ExcBaseFacts B newId initId bmB) (q : PySem.W.excIn X.K C bmB newId = true) (gC : X.mg x = some (.ref C)) (kC : PySem.W.keepIn X.K (.ref C) = true) (r : Raises X (.ref C)) (hg : Gl X x) (he : PE X e ta)
    (hs : starEach [e] X.env = (false, eval e X.env) :: starEach [] X.env := by rfl) (hdb : (x == ("__debug__" : Str)) = false := by decide) : PMk5 X (.Call (.Name x p) [e] [] pos) (fun σ H Q => ta σ H fun _ H1 => Q (.ref C) none H1) := by
  intro pins s σ H Q I h
  apply wpAny_Call_Name_kw
  apply ld_glob I hg gC ?_ hdb
  apply PySem.W.callWith_K (h₀ := X.base) I.ok.mod.kin kC ?_ hs (by rfl)
  rw [hs]
  apply Calls.spliced_cons
  apply thn (he.run pins s σ H _ I h)
  rintro u s1 ⟨v, H1, I1, r1, q1⟩
  apply Calls.spliced_nil
  refine ⟨I1.kIn, ?_⟩
  show wpAny _ _ (call (.ref C) [u]) _ _ _
  obtain ⟨_, _, _, _, _, _, _, _, _, _, _, _, _, _, _, _, _, hC, hN, hni, T⟩ := exc_obj I1.kIn q
  exact wpAny_call_exc_subT F T hC hN hni (fun h' e hm => mk_of5 I1 hm r q1 (I1.hok.gone hm.new)) (by show 1 ≤ sizeLine; rw [sizeLine_eq]; omega)
/-! ### defs -/
section
variable {P : Program} {w : World} {K : PySem.W.Frag} {mg : Str → Option Value} {base : Heap} {x qual : Str} {st : Stmt} {f : Addr} {fd : FuncData} {N ps : List Str} {k : Nat} {sp : Sp}
/-- a def that may raise, also within its suites -/
theorem okC (F : Fun K x qual st f fd) (S : FnScope N ps (defScope st)) (len : ∀ vs H Q E, sp vs H Q E → vs.length = ps.length)
    (made : ∀ (cdv : Value) (A : Around) (outer : List Env) (s : Shared) (H : Hp) (vs : List V) (Q : VK) (E : XK), Room k (A.deeper (envOfC qual (defScope st) s.heap.objs.size f cdv)) → sp vs H Q E →
      ∃ t, PSs (cxOf (L2.CX P w) P w K mg base N qual (defScope st) f cdv A outer s H E) (defBody st) t ∧ t { nx := fun _ H' => Q .non H', rt := Q } (L2.start N vs) H) : FnOk P w K mg base (L2.CX P w) (k + 1) f fd ps sp := by
  obtain ⟨_, _, _, _, _, _, cdv, _, _, rfl, lk, hcd⟩ := F.ex
  exact fn_of lk hcd S len fun A outer s H vs Q E hr hsp => made cdv A outer s H vs Q E hr hsp
/-- called in an except suite, p the handled error; of its context nothing is known -/
structure FnQ (P : Program) (w : World) (K : PySem.W.Frag) (mg : Str → Option Value) (base : Heap) (k : Nat) (f : Addr) (fd : FuncData) (ps : List Str) (sp : Sp) (p : Addr × Obj) : Prop where
  len : ∀ vs H Q E, sp vs H Q E → vs.length = ps.length
  run : ∀ (A : Around) (outer : List Env) (s : Shared) (H : Hp) (args : Args) (us : List Value) (vs : List V) (Q : VK) (E : XK),
    RoomH k A → PinOk outer H s p → Env0 P w K mg base A outer s H → BindsTo s fd args (ps.zip us) → Vals vs us → sp vs H Q E →
      codeAny (model P w) A (.call (.ref f) args) (CR CX0 outer P w H s Q E) s
theorem okQ {p : Addr × Obj} (F : Fun K x qual st f fd) (S : FnScope N ps (defScope st)) (len : ∀ vs H Q E, sp vs H Q E → vs.length = ps.length)
    (made : ∀ (cdv : Value) (A : Around) (outer : List Env) (s : Shared) (H : Hp) (vs : List V) (Q : VK) (E : XK), RoomH k (A.deeper (envOfC qual (defScope st) s.heap.objs.size f cdv)) → sp vs H Q E →
      ∃ t, PSs (cxH CX0 P w K mg base N qual (defScope st) f cdv A outer s H E p) (defBody st) t ∧ t { nx := fun _ H' => Q .non H', rt := Q } (L2.start N vs) H) : FnQ P w K mg base (k + 1) f fd ps sp p := by
  obtain ⟨_, _, _, _, _, _, cdv, _, _, rfl, lk, hcd⟩ := F.ex
  constructor
  · exact len
  intro A outer s H args us vs Q E room pinned around binds vals asks
  have there : K.In s.heap := around.mod.kin.keeps fun b o e => (around.bs b o e).1
  have wide : s.heap.NoLimit := around.mod.nolimit.keeps fun b o e => (around.bs b o e).1
  apply codeAny_call_function room.depth (there _ _ lk) rfl S.co S.gen rfl (PySem.W.codeRec_of there hcd)
  apply binds
  apply wpAny_newFunctionEnv_cells S.kind
  · rintro ⟨n, v⟩ hy
    rcases S.par n (List.of_mem_zip hy).1 with q | q
    · exact .inl q
    · exact .inr ⟨q, PySem.W.cellsFrom_some _ _ _ (.inl q)⟩
  rintro _ rfl s1 called
  refine ⟨wide.keeps called.toInCall.keep, codeAny_func ?_⟩
  obtain ⟨t, derived, reads⟩ := made cdv A outer s H vs Q E (room.deeper _) asks
  have inv := inv_startH (CX := CX0) (P := P) (w := w) (K := K) (mg := mg) (base := base) (E := E) (cd := cdv) (f := f) S pinned around (len _ _ _ _ asks) vals called
  refine wpAny_mono (derived.run [] s1 (L2.start N vs) H _ inv reads) ?_ fun _ _ h => h
  intro how s2 h
  cases how with
  | next =>
    obtain ⟨_, H', J, q⟩ := h
    exact ⟨.non, H', J.os, J.bare, J.base, J.hok, rfl, q⟩
  | ret u =>
    obtain ⟨v, _, H', J, rv, q⟩ := h
    exact ⟨v, H', J.os, J.bare, J.base, J.hok, rv, q⟩
  | brk =>
    obtain ⟨_, _, _, q⟩ := h
    exact q.elim
  | cont =>
    obtain ⟨_, _, _, q⟩ := h
    exact q.elim
end
section
variable {X : Cx} {k : Nat} {f : Addr} {fd : FuncData} {ps : List Str} {sp : Sp} {x : Str} {q0 at0 : Pos} {e : Expr} {es : List Expr} {t : TA} {p : Addr × Obj}
theorem pe_callQ (F : FnQ X.prog X.w X.K X.mg X.base k f fd ps sp p) (room : RoomH k X.A) (inPn : p ∈ X.pn) (hg : Gl X x) (hm : X.mg x = some (.ref f)) (kp : PySem.W.keepIn X.K (.ref f) = true) (hb : Binds X.K fd ps []) (ha : PA X (e :: es) t)
    (hdb : (x == ("__debug__" : Str)) = false := by decide) (he : starEach (e :: es) X.env = (false, eval e X.env) :: starEach es X.env := by rfl) (hpl : (backTo at0 (starEach es X.env)).any (·.1) = false := by rfl) :
    PE X (.Call (.Name x q0) (e :: es) [] at0) (tCall sp [] E0 t) := by
  constructor
  intro pins s σ H Q inv want
  apply wpAny_Call_Name_kw
  apply ld_glob inv hg hm ?_ hdb
  apply PySem.W.callWith_K (h₀ := X.base) inv.ok.mod.kin kp ?_ he hpl
  apply thn (ha.run at0 pins s σ H _ inv want)
  rintro us s1 ⟨vs, H1, inv1, rel, asks⟩
  refine ⟨inv1.kIn, ?_⟩
  have asks : sp vs H1 Q E0 := by
    have z : sp (vs ++ []) H1 Q E0 := asks
    rw [List.append_nil] at z
    exact z
  have count : us.length = ps.length := by rw [← rel.length]; exact F.len _ _ _ _ asks
  have binds := hb s1 us inv1.kIn (by rw [List.append_nil]; exact count)
  rw [List.append_nil] at binds
  have stand := inv1.pin p (List.mem_append_left _ inPn)
  have pinned : PinOk X.stack H1 s1 p := ⟨stand.1, stand.2.1, fun hm => (List.mem_cons.mp (inv1.stkSub p.1 hm)).elim stand.2.2.1 stand.2.2.2.1, stand.2.2.2.2⟩
  apply wpAny_call
  apply codeAny_mono (F.run X.A X.stack s1 H1 ⟨us, []⟩ us vs Q E0 room pinned inv1.env0 binds rel asks)
  intro r s2 hq
  cases r with
  | error e => exact hq.elim
  | ok how =>
    cases how with
    | ret u => exact inv1.after hq
    | next => exact hq.elim
    | brk => exact hq.elim
    | cont => exact hq.elim
end
/-! ### the reading of a try whose clause has no name -/
section
variable {c : Cn} {ρ : Slots} {S : Store} {tas : TA} {P : Po} {α : Type} {args : α → List Ax} {pre : α → Prop} {R : α → Pv → Store → Prop} {X : α → Value → Prop}
theorem vs_tryRetO {cv : Value} {ts : Addr → Value → Option Addr → TS} {Wout : WX} (h : TryA c ρ S tas args pre R X P.r (fun C S1 => PySem.W.exmOne c.K C cv = some true ∧ ∀ a, VS c ρ S1 (ts a C none) P)) :
    VS c ρ S (fun D σ H => tRet (tCallS (spW c.K args pre R X) (WE (wOnly c.K cv ts Wout D)) tas) D σ H) P := fun A B F H σ en er D d =>
  try_core (W := wOnly c.K cv ts Wout D) h en er (fun x v S1 F1 H1 h1 en1 f1 vx => d.rt x v ρ S1 F1 H1 σ h1 en1 f1 vx) fun C S1 F1 H1 hs en1 f1 => ⟨true, hs.1, fun _ a _ => hs.2 a A B F1 H1 σ en1 er D (d.up f1), fun z => by cases z⟩
end
end Wt
set_option maxHeartbeats 4000000
/-! Texts: joined, parted, cut; dicts of the def's own whose keys are texts. -/
namespace Wt
open PySem PySem.Spec PyProof.Rows L2 L2H RZ
theorem Dvs.strs {K : PySem.W.Frag} {F : Hp} : ∀ {is : List Str} {vs : List V}, Dvs K F vs (is.map .str) → vs = is.map V.str
  | [], _, h => by cases h; rfl
  | i :: is, _, h => by
    cases h with
    | cons h1 h2 =>
      cases h1
      rw [Dvs.strs h2]
      rfl
theorem Dvs.of_strs {K : PySem.W.Frag} {F : Hp} : ∀ (is : List Str), Dvs K F (is.map V.str) (is.map .str)
  | [] => .nil
  | i :: is => .cons (.str i) (Dvs.of_strs is)
theorem VsOK.of_dvs0 {K : PySem.W.Frag} {B F : Hp} {vs : List V} {ds : List D} (h : Dvs K F vs ds) : VsOK K B F (ds.map .dat) vs := VsOK.of_dvs h
section
variable {c : Cn} {ρ : Slots} {S : Store} {Φ : Pv → Store → Prop} {te : TE}
/-- sep.join(texts) -/
theorem vr_join {a : Str} {y : Pv} {ys : List Str} (hy : Ls S y ((ys.map PyData.str).map .dat)) (hz : (ys.map (·.length)).sum + ys.length * a.length ≤ 16777216) (h : Φ (.dat (.str (Txt.join a ys))) S) :
    VR c ρ (fun x y H Q => ∃ (a : Str) (p : Addr) (ys : List Str), x = .str a ∧ [y] = [.ref p] ∧ (SqL c.K H p (ys.map V.str) ∨ SqT c.K H p (ys.map V.str)) ∧ (ys.map (·.length)).sum + ys.length * a.length ≤ 16777216 ∧ Q (.str (Txt.join a ys)) H) (.dat (.str a)) y S Φ := fun A B F H σ en er v u vx vy Q q => by
  cases vx with
  | dat z =>
    cases z
    obtain ⟨l, vs, rfl, k1, k2⟩ := hy.read en vy
    have e := (k2.dats (dats_map _)).strs
    subst e
    exact ⟨a, l, ys, rfl, rfl, .inl k1, hz, q.dat en h (.str _)⟩
/-- x.split(sep) -/
theorem vr_split {a b : Str} (hb : (b.length == 0) = false) (hz : a.length + 2 ≤ sizeLine) (h : ∀ p, Φ (ptr p) ((p, .lst (((Txt.split a b).map PyData.str).map .dat)) :: S)) :
    VR c ρ (fun x y H Q => ∃ (a b : Str), x = .str a ∧ [y] = [.str b] ∧ (b.length == 0) = false ∧ a.length + 2 ≤ sizeLine ∧ rNewStrs (Txt.split a b) H Q) (.dat (.str a)) (.dat (.str b)) S Φ := fun A B F H σ en er v u vx vy Q q => by
  cases vx with
  | dat z =>
    cases z
    cases vy with
    | dat z =>
      cases z
      refine ⟨a, b, rfl, rfl, hb, hz, fun p np => ?_⟩
      exact q _ _ _ _ _ (h p) (en.own (o := .lst ((Txt.split a b).map V.str)) (c := .lst (((Txt.split a b).map PyData.str).map .dat)) np ⟨_, upd_same, VsOK.of_dvs (Dvs.of_strs _)⟩) (Same.refl F) .val
/-- str(i) -/
theorem vc_strI {i : Int} (hl : i.natAbs.log2 < 1920) (h : Φ (.dat (.str (toString i))) S) : VC c ρ (fun xs H Q => ∃ i, xs = [V.int i] ∧ i.natAbs.log2 < 1920 ∧ Q (.str (toString i)) H) [.dat (.int i)] S Φ := fun A B F H σ en er vs vx Q q => by
  cases vx with
  | cons v1 v2 =>
    cases v2
    cases v1 with
    | dat z => cases z; exact ⟨i, rfl, hl, q.dat en h (.str _)⟩
/-- len of a text -/
theorem vc_lenS {a : Str} (hl : a.length ≤ sizeLine) (h : Φ (.dat (.int a.length)) S) : VC c ρ (fun xs H Q => ∃ z, xs = [V.str z] ∧ z.length ≤ sizeLine ∧ Q (.int z.length) H) [.dat (.str a)] S Φ := fun A B F H σ en er vs vx Q q => by
  cases vx with
  | cons v1 v2 =>
    cases v2
    cases v1 with
    | dat z => cases z; exact ⟨a, rfl, hl, q.dat en h (.int _)⟩
/-- two texts, one behind the other -/
theorem vr_plusS {a b : Str} (hz : a.length + b.length ≤ sizeLine) (h : Φ (.dat (.str (a ++ b))) S) : VR c ρ (fun x y H Q => ∃ i j, x = V.str i ∧ y = V.str j ∧ i.length + j.length ≤ sizeLine ∧ Q (.str (i ++ j)) H) (.dat (.str a)) (.dat (.str b)) S Φ := fun A B F H σ en er v u vx vy Q q => by
  cases vx with
  | dat z =>
    cases z
    cases vy with
    | dat z => cases z; exact ⟨a, b, rfl, rfl, hz, q.dat en h (.str _)⟩
/-- a text's part -/
theorem ve_cutS {tl th : TO} (h : VE c ρ S te fun x S1 => ∃ a, x = .dat (.str a) ∧ a.length ≤ sizeLine ∧ VO c ρ S1 tl fun lo S2 => VO c ρ S2 th fun hi S3 => Φ (.dat (.str (cutS a lo hi))) S3) : VE c ρ S (tSl rSlS te tl th) Φ := fun A B F H σ en er Q q => by
  refine h A B F H σ en er _ fun x v S1 F1 H1 h1 en1 f1 vx => ?_
  obtain ⟨a, rfl, hl, h1⟩ := h1
  cases vx with
  | dat z =>
    cases z
    refine h1 A B F1 H1 σ en1 er _ fun lo S2 F2 H2 h2 en2 f2 => ?_
    refine h2 A B F2 H2 σ en2 er _ fun hi S3 F3 H3 h3 en3 f3 => ?_
    exact ⟨a, rfl, hl, q _ _ S3 F3 H3 h3 en3 ((f1.trans f2).trans f3) (.dat (.str _))⟩
/-- a text's sign -/
theorem vr_ixS {a : Str} {i : Int} {s : Nat} (hl : a.length ≤ sizeLine) (hi : atI a.cps.toList i = some s) (h : Φ (.dat (.str ⟨#[s]⟩)) S) : VR c ρ (rIx c.K) (.dat (.str a)) (.dat (.int i)) S Φ := fun A B F H σ en er v u vx vy Q q => by
  cases vx with
  | dat z =>
    cases z
    cases vy with
    | dat z => cases z; exact .inr (.inr ⟨a, i, s, rfl, rfl, hl, hi, q.dat en h (.str _)⟩)
/-! ### dicts with text keys -/
theorem ve_dgetS {td ty : TE} (h : VE c ρ S td fun x S1 => VE c ρ S1 ty fun y S2 => ∃ (a : Addr) (kvs : List (L2.Key × V)) (w : Str) (i : Int), x = ptr a ∧ y = .dat (.str w) ∧ (a, Cell.dks kvs) ∈ S2 ∧ valV kvs (.inr w) = some (.int i) ∧ Φ (.dat (.int i)) S2) : VE c ρ S (tDGet td ty) Φ := fun A B F H σ en er Q q => by
  refine h A B F H σ en er _ fun x v S1 F1 H1 h1 en1 f1 vx => ?_
  refine h1 A B F1 H1 σ en1 er _ fun y u S2 F2 H2 h2 en2 f2 vy => ?_
  obtain ⟨a, kvs, w, i, rfl, rfl, hm, hv, h2⟩ := h2
  cases vx
  cases vy with
  | dat z =>
    cases z
    obtain ⟨_, _, z3⟩ := en2.st _ hm
    exact ⟨a, .int i, rfl, .inl ⟨kvs, .inr w, .inl z3, rfl, hv.symm⟩, q _ _ S2 F2 H2 h2 en2 (f1.trans f2) (.dat (.int _))⟩
theorem ve_dnotinS {td ty : TE} (h : VE c ρ S ty fun y S1 => VE c ρ S1 td fun x S2 => ∃ (a : Addr) (kvs : List (L2.Key × V)) (w : Str), x = ptr a ∧ y = .dat (.str w) ∧ (a, Cell.dks kvs) ∈ S2 ∧ Φ (.dat (.bool (!(valV kvs (.inr w)).isSome))) S2) : VE c ρ S (tDNotIn ty td) Φ := fun A B F H σ en er Q q => by
  refine h A B F H σ en er _ fun y u S1 F1 H1 h1 en1 f1 vy => ?_
  refine h1 A B F1 H1 σ en1 er _ fun x v S2 F2 H2 h2 en2 f2 vx => ?_
  obtain ⟨a, kvs, w, rfl, rfl, hm, h2⟩ := h2
  cases vx
  cases vy with
  | dat z =>
    cases z
    obtain ⟨_, _, z3⟩ := en2.st _ hm
    exact ⟨a, _, rfl, .inl ⟨kvs, .inr w, .inl z3, rfl, rfl⟩, q _ _ S2 F2 H2 h2 en2 (f1.trans f2) (.dat (.bl _))⟩
/-- {key: value for i in range(lo, hi)} -/
theorem ve_dcS {tas : TA} {j : Nat} {vs : List Nat} {tk tv : TE} (hj : j ∈ vs) (h : VA c ρ S tas fun xs S1 => ∃ (lo hi : Int) (key : Nat → Str) (val : Nat → Int) (G : Nat → List (L2.Key × V) → Prop), xs = [.dat (.int lo), .dat (.int hi)] ∧ hi < 1000000 ∧ -1000000 < lo ∧ lo < 1000000 ∧ -1000000 < hi ∧ G 0 [] ∧
      (∀ (i : Nat) (S2 : Store), i < (hi - lo).toNat → VE c ((wipeS ρ vs).set j (some (.dat (.int (lo + (i : Int)))))) S2 tk fun y S3 => S3 = S2 ∧ y = .dat (.str (key i))) ∧
      (∀ (i : Nat) (S2 : Store), i < (hi - lo).toNat → VE c ((wipeS ρ vs).set j (some (.dat (.int (lo + (i : Int)))))) S2 tv fun y S3 => S3 = S2 ∧ y = .dat (.int (val i))) ∧
      (∀ i kvs, i < (hi - lo).toNat → G i kvs → kvs.length < 100000 ∧ G (i + 1) (putK kvs (.inr (key i)) (.int (val i)))) ∧ ∀ p kvs, G (hi - lo).toNat kvs → Φ (ptr p) ((p, .dks kvs) :: S1)) :
    VE c ρ S (tDc (iRng2 tas) (gName j) tYes tk tv vs) Φ := fun A B F H σ en er Q q => by
  refine h A B F H σ en er _ fun xs us S1 F1 H1 h1 en1 f1 vx => ?_
  obtain ⟨lo, hi, key, val, G, rfl, b1, b2, b3, b4, g0, hk, hv, hg, hd⟩ := h1
  cases vx with
  | cons v1 v2 => cases v2 with
    | cons v2 v3 =>
      cases v3
      cases v1 with
      | dat z =>
        cases z
        cases v2 with
        | dat z =>
          cases z
          refine ⟨lo, hi, rfl, ⟨by omega, by omega, by omega, by omega⟩, fun D nD => ?_⟩
          generalize hn : (hi - lo).toNat = n at *
          have start : EnvOK c.K A B F1 (upd H1 D (.dK [])) ρ ((D, .dks []) :: S1) σ := en1.own (o := .dK []) (c := .dks []) nD upd_same
          refine ⟨fun i m H => m = n - i ∧ i ≤ n ∧ ∃ F2 kvs, G i kvs ∧ EnvOK c.K A B F2 H ρ ((D, .dks kvs) :: S1) σ ∧ Same F1 F2, ⟨n, by omega, Nat.zero_le _, F1, [], g0, start, Same.refl F1⟩, ?_⟩
          rintro i m H2 ⟨rfl, hi2, F2, kvs, hG, en2, f2⟩
          by_cases hlt : i < n
          · refine .inr ⟨hlt, fun H' => ∃ F3 kvs', G (i + 1) kvs' ∧ EnvOK c.K A B F3 H' ρ ((D, .dks kvs') :: S1) σ ∧ Same F1 F3, fun H' ⟨F3, kvs', x1, x2, x3⟩ => ⟨n - (i + 1), by omega, rfl, hlt, F3, kvs', x1, x2, x3⟩, fun x H' y => ?_⟩
            obtain ⟨rfl, rfl⟩ := y
            obtain ⟨hl, hG1⟩ := hg i kvs hlt hG
            have enw := (en2.wipe vs).set (i := j) (x := .dat (.int (lo + (i : Int)))) (v := .int (lo + (i : Int))) (.dat (.int _))
            refine ⟨wipe_set hj, ?_⟩
            show tk _ _ _
            refine hk i _ hlt A B F2 _ _ enw er _ fun y u S3 F3 H3 h3 en3 f3 vy => ?_
            obtain ⟨rfl, rfl⟩ := h3
            cases vy with
            | dat z =>
              cases z
              refine hv i _ hlt A B F3 H3 _ en3 er _ fun y u S4 F4 H4 h4 en4 f4 vy => ?_
              obtain ⟨rfl, rfl⟩ := h4
              cases vy with
              | dat z =>
                cases z
                have stand : H4 D = some (.dK kvs) := (en4.st _ List.mem_cons_self).2.2
                refine ⟨kvs, .inr (key i), rfl, stand, Nat.lt_of_lt_of_le hl (by decide), F4, _, hG1, ?_, f2.trans (f3.trans f4)⟩
                have en5 := en4.put (k := 0) (l := D) (c := .dks kvs) (d := .dks (putK kvs (.inr (key i)) (.int (val i)))) (o := .dK (putK kvs (.inr (key i)) (.int (val i)))) rfl upd_same
                have en6 : EnvOK c.K A B F4 (upd H4 D (.dK (putK kvs (.inr (key i)) (.int (val i))))) ρ ((D, .dks (putK kvs (.inr (key i)) (.int (val i)))) :: S1) σ :=
                  ⟨en5.exB, en5.exF, en5.af, en5.fr, paired_mono (fun _ _ h => h.mono (Same.refl B) (f3.trans f4)) en2.sl, en5.st, en5.nd, en5.fk⟩
                exact en6
          · have e : i = n := by omega
            subst e
            refine .inl ⟨Nat.le_refl _, ?_⟩
            exact q _ _ _ F2 H2 (hd D kvs hG) en2 (f1.trans f2) .val
end
section
variable {X : Cx} {kx vx tg src : Expr} {sc : Scope} {own : List (Str × Nat)} {at0 spos : Pos} {wi : TI} {g : TG} {tt : TT} {tk tv : TE} {i : Nat} {y : Str} {py : Pos}
/-- y = {k: v for ..} on one line, y a local -/
theorem ps_setDc (calm : X.calm = true) (nd : X.N.Nodup) (hy : X.N[i]? = some y) (hyl : X.env.scope.names.lookup y = some .local) (swaps : swapsWith (.DictComp kx vx [⟨tg, src, [], 0⟩] sc at0) (some (.Name y py)) spos.line X.env = pure true) (hi : PI X tg src wi) (bk : BlkOk X.N X.env.scope sc own)
    (hg : ∀ (s : Shared) (H : Hp) (C : Addr) (cl : List (Str × Addr)) (fp : List Addr), PG (X.blk s H sc (compEnvC sc cl C X.env) fp) tg g)
    (hk : ∀ (s : Shared) (H : Hp) (C : Addr) (cl : List (Str × Addr)) (fp : List Addr), PE (X.blk s H sc (compEnvC sc cl C X.env) fp) kx tk)
    (he : ∀ (s : Shared) (H : Hp) (C : Addr) (cl : List (Str × Addr)) (fp : List Addr), PE (X.blk s H sc (compEnvC sc cl C X.env) fp) vx tv) (hfold : ∀ x, foldedSetIterable src X.env x = pure x := by intro _; rfl) :
    PS X (.Assign [.Name y py] (.DictComp kx vx [⟨tg, src, [], 0⟩] sc at0) spos) (tAsg (tDc wi g tYes tk tv (own.map (·.2))) (gName i)) := by
  constructor
  intro pins s σ H D inv want
  have want : tDc wi g tYes tk tv (own.map (·.2)) σ H (fun x H1 => gName i x σ H1 D.nx) := want
  rw [exec_Assign_Name_used _ _ _ _ swaps]
  apply wpAny_bind
  apply wpAny_standAt
  apply wpAny_bind
  show wpAny _ X.A (do let _ ← comprehension (.DictComp kx vx [⟨tg, src, [], 0⟩] sc at0) sc X.env (firstIterPos [⟨tg, src, [], 0⟩] at0) newDict false (eval src X.env) (some (assign (.Name y py) X.env))) _ _ s
  apply wpAny_bind
  refine thn (Q := fun _ s2 => SP X pins D .next s2) ?_ fun _ s2 hq => wpAny_pure (wpAny_pure hq)
  refine dc_core (Qf := fun _ s2 => SP X pins D .next s2) calm nd inv hi bk hg (fun _ _ _ _ _ => pts_nil) hk he hfold want fun L C s2 m H2 I2 q hn f => ?_
  obtain ⟨k0, k1, _, k3, k4, k5⟩ := f
  show wpAny _ _ (assign (.Name y py) X.env (.ref L)) _ _ _
  refine wpAny_assign_Name (store_ok2 (v := V.ref L) I2 nd hy (.inl hyl) rfl (fun s3 I3 ⟨a, sb, ha⟩ => ?_) (.inr hyl))
  have apart : C ≠ a := by
    rcases ha with z | z
    · rw [z]; exact k1
    · exact fun e => k4 y a z e.symm
  refine ⟨m, hn.sameBut sb apart, fun h3 same => ?_⟩
  exact ⟨_, H2, I3.turned (t' := s3.toks) (fun b o hb e => (same.2 b hb).trans e) k0 k1 k3 k4 k5, q⟩
theorem sw_dict {gs : List Comprehension} {l : Nat} {env : Env} (hk : env.scope.kind = .function) (hy : env.scope.names.lookup y = some .local) (hl : (py.line == at0.line) = true)
    (ha : (sc.names.any fun (n, k) => n == y && (k == .local || k == .cell)) = false) : swapsWith (.DictComp kx vx gs sc at0) (some (.Name y py)) l env = pure true := by
  have local_y : env.kindOf y = some .local := hy
  have block : env.blockKind = .function := by unfold Env.blockKind; rw [hk]; rfl
  unfold swapsWith
  simp only [block, local_y, ha, Expr.pos, hl]
  rfl
end
/-! ### the parts of a text -/
theorem sub_le (s : Str) (i j : Nat) : (Builtin.Str.strSub s i j).length ≤ s.length := by
  show (s.cps.extract i j).size ≤ s.cps.size
  rw [Array.size_extract]
  omega
theorem split_ne (a b : Str) : Txt.split a b ≠ [] := fun z => by
  unfold Txt.split at z
  split at z
  · cases z
  · split at z
    · cases z
    · have h := congrArg List.length z
      rw [length_partsBetween] at h
      cases h
theorem split_part {a b p : Str} (h : p ∈ Txt.split a b) : p.length ≤ a.length := by
  unfold Txt.split at h
  split at h
  · rw [List.mem_singleton.mp h]; exact Nat.le_refl _
  · split at h
    · rw [List.mem_singleton.mp h]; exact Nat.le_refl _
    · unfold Builtin.Str.partsBetween at h
      obtain ⟨⟨i, j⟩, _, rfl⟩ := List.mem_map.mp h
      exact sub_le a i j
/-! ### the written teeth -/
def wt (i : Nat) : Str := ((toString ((2 : Int) + (i : Int)) : String) : Str)
theorem wt_ne : ∀ n < 59, ∀ i < n, wt i ≠ wt n := by decide +kernel
theorem wt_inj {i j : Nat} (hi : i < 59) (hj : j < 59) (e : wt i = wt j) : i = j := by
  rcases Nat.lt_trichotomy i j with z | z | z
  · exact absurd e (wt_ne j hj i z)
  · exact z
  · exact absurd e.symm (wt_ne i hi j z)
def wheelOf (w : Str) : Int := match (List.range 59).find? (fun i => decide (w = wt i)) with
  | some i => 2 + (i : Int)
  | none => 0
theorem wheelOf_cases (w : Str) : (∃ i, i < 59 ∧ w = wt i ∧ wheelOf w = 2 + (i : Int)) ∨ ((∀ i < 59, w ≠ wt i) ∧ wheelOf w = 0) := by
  unfold wheelOf
  cases e : (List.range 59).find? (fun i => decide (w = wt i)) with
  | some i =>
    have h1 := List.find?_some e
    have h2 := List.mem_of_find?_eq_some e
    exact .inl ⟨i, List.mem_range.mp h2, of_decide_eq_true h1, rfl⟩
  | none => exact .inr ⟨fun i hi z => (List.find?_eq_none.mp e) i (List.mem_range.mpr hi) (decide_eq_true z), rfl⟩
theorem wheelOf_at {i : Nat} (h : i < 59) : wheelOf (wt i) = 2 + (i : Int) := by
  rcases wheelOf_cases (wt i) with ⟨j, hj, e, z⟩ | ⟨z, _⟩
  · rw [z, wt_inj h hj e]
  · exact absurd rfl (z i h)
/-- the first n of them in a dict -/
structure Wh (n : Nat) (kvs : List (L2.Key × V)) : Prop where
  len : kvs.length ≤ n
  at_ : ∀ i < n, valV kvs (.inr (wt i)) = some (.int (2 + (i : Int)))
  no : ∀ w, (∀ i < n, w ≠ wt i) → valV kvs (.inr w) = none
theorem wh_put {n : Nat} (hn : n < 59) {kvs : List (L2.Key × V)} (h : Wh n kvs) : Wh (n + 1) (putK kvs (.inr (wt n)) (.int (2 + (n : Int)))) := by
  refine ⟨Nat.le_trans (length_putK _ _ _) (Nat.succ_le_succ h.len), fun i hi => ?_, fun w hw => ?_⟩
  · rw [valV_put]
    rcases Nat.lt_or_ge i n with z | z
    · rw [if_neg (fun y => wt_ne n hn i z (Sum.inr.inj y)), h.at_ i z]
    · obtain rfl : i = n := by omega
      rw [if_pos rfl]
  · rw [valV_put, if_neg (fun y => hw n (Nat.lt_succ_self n) (Sum.inr.inj y)), h.no w fun i hi => hw i (Nat.lt_succ_of_lt hi)]
theorem wh_val {kvs : List (L2.Key × V)} (h : Wh 59 kvs) (w : Str) : (wheelOf w = 0 ∧ valV kvs (.inr w) = none) ∨ (wheelOf w ≠ 0 ∧ (2 ≤ wheelOf w ∧ wheelOf w ≤ 60) ∧ valV kvs (.inr w) = some (.int (wheelOf w))) := by
  rcases wheelOf_cases w with ⟨i, hi, rfl, z⟩ | ⟨hn, z⟩
  · exact .inr ⟨by omega, by omega, by rw [z]; exact h.at_ i hi⟩
  · exact .inl ⟨z, h.no w hn⟩
/-! ### what a text tells -/
def wordsT (part : Str) : List Int := (Txt.split part ":").map wheelOf
def rdT (tx : Str) : List (List Int) := (Txt.split tx " ").map wordsT
def OkS (ws : List Int) : Prop := 0 ∉ ws ∧ 2 ≤ ws.length ∧ ws.length ≤ 5
def OkT (t : List (List Int)) : Prop := t.length ≤ 3 ∧ ∀ ws ∈ t, OkS ws
instance (ws : List Int) : Decidable (OkS ws) := inferInstanceAs (Decidable (_ ∧ _))
theorem wordsT_in {part : Str} {x : Int} (h : x ∈ wordsT part) : x = 0 ∨ (2 ≤ x ∧ x ≤ 60) := by
  obtain ⟨w, _, rfl⟩ := List.mem_map.mp h
  rcases wheelOf_cases w with ⟨i, hi, _, z⟩ | ⟨_, z⟩
  · exact .inr (by omega)
  · exact .inl z
/-- a block within a block -/
theorem blkOk_nest {N : List Str} {sc0 sc1 scope : Scope} {env : Env} {own : List (Str × Nat)} (he : env.scope = sc0)
    (h : blkC N { sc1 with names := sc1.names.map fun (n, k) => if (k == .free && sc0.kind == .function && sc0.names.lookup n == some .cell) then (n, .cell) else (n, k) } scope own = true) : BlkOk N (relabel sc1 env) scope own := by
  subst he
  exact blkOk_by h
/-- sep.join(texts), within a block too -/
theorem pe_joinK {X : Cx} {K : PySem.W.Frag} {o e : Expr} {to te : TE} {apos pos : Pos} (hK : X.K = K) (ho : PE X o to) (he : PE X e te) (hs : starEach [e] X.env = [(false, eval e X.env)] := by rfl) (hbase : attributeBase o "join" X.env (eval o X.env) = eval o X.env := by rfl) (hline : (apos.endLine == pos.line) = true := by rfl) :
    PE X (.Call (.Attribute o "join" apos) [e] [] pos) (tM1 (fun x xs H Q => ∃ a p, ∃ ys : List Str, x = .str a ∧ xs = [.ref p] ∧ (SqL K H p (ys.map V.str) ∨ SqT K H p (ys.map V.str)) ∧
      (ys.map (·.length)).sum + ys.length * a.length ≤ 16777216 ∧ Q (.str (Txt.join a ys)) H) to te) := by
  subst hK
  exact pe_join ho he hs hbase hline
end Wt
set_option maxHeartbeats 4000000

namespace Wwheeltrain_k14_texts
open PySem PySem.Spec PyProof.Rows L2 L2H Wt
def topS (i : Nat) : Stmt := PySem.Challenge.pw_wheeltrain_k14_texts.main.body.getD i (.Pass ⟨0, 0, 0, 0⟩)
abbrev s_is_whole : Stmt := topS 11
abbrev N_is_whole : List Str := ["thing", "least", "greatest"]
theorem sc_is_whole : FnScope ["thing", "least", "greatest"] ["thing", "least", "greatest"] (defScope s_is_whole) := ⟨rfl, rfl, rfl, by decide +kernel, rfl, by decide +kernel, by decide +kernel⟩
abbrev s_is_wheel : Stmt := topS 19
abbrev N_is_wheel : List Str := ["thing"]
theorem sc_is_wheel : FnScope ["thing"] ["thing"] (defScope s_is_wheel) := ⟨rfl, rfl, rfl, by decide +kernel, rfl, by decide +kernel, by decide +kernel⟩
abbrev s_is_stage : Stmt := topS 20
abbrev N_is_stage : List Str := ["thing", "wheel"]
theorem sc_is_stage : FnScope ["thing", "wheel"] ["thing"] (defScope s_is_stage) := ⟨rfl, rfl, rfl, by decide +kernel, rfl, by decide +kernel, by decide +kernel⟩
abbrev s_need_train : Stmt := topS 21
abbrev N_need_train : List Str := ["thing", "stage"]
theorem sc_need_train : FnScope ["thing", "stage"] ["thing"] (defScope s_need_train) := ⟨rfl, rfl, rfl, by decide +kernel, rfl, by decide +kernel, by decide +kernel⟩
abbrev s_written : Stmt := topS 23
abbrev N_written : List Str := ["train", "stage"]
theorem sc_written : FnScope ["train", "stage"] ["train"] (defScope s_written) := ⟨rfl, rfl, rfl, by decide +kernel, rfl, by decide +kernel, by decide +kernel⟩
abbrev s_written_stage : Stmt := topS 24
abbrev N_written_stage : List Str := ["stage", "teeth"]
theorem sc_written_stage : FnScope ["stage", "teeth"] ["stage"] (defScope s_written_stage) := ⟨rfl, rfl, rfl, by decide +kernel, rfl, by decide +kernel, by decide +kernel⟩
abbrev s_read : Stmt := topS 25
abbrev N_read : List Str := ["text", "stages", "part"]
theorem sc_read : FnScope ["text", "stages", "part"] ["text"] (defScope s_read) := ⟨rfl, rfl, rfl, by decide +kernel, rfl, by decide +kernel, by decide +kernel⟩
abbrev s_read_stage : Stmt := topS 26
abbrev N_read_stage : List Str := ["part", "wheels", "stage", "word", "teeth"]
theorem sc_read_stage : FnScope ["part", "wheels", "stage", "word", "teeth"] ["part"] (defScope s_read_stage) := ⟨rfl, rfl, rfl, by decide +kernel, rfl, by decide +kernel, by decide +kernel⟩
abbrev s__law_at : Stmt := topS 28
abbrev N__law_at : List Str := ["_law_script", "_law_k"]
theorem sc__law_at : FnScope ["_law_script", "_law_k"] ["_law_script", "_law_k"] (defScope s__law_at) := ⟨rfl, rfl, rfl, by decide +kernel, rfl, by decide +kernel, by decide +kernel⟩
abbrev s__law_whole : Stmt := topS 29
abbrev N__law_whole : List Str := ["_law_thing"]
theorem sc__law_whole : FnScope ["_law_thing"] ["_law_thing"] (defScope s__law_whole) := ⟨rfl, rfl, rfl, by decide +kernel, rfl, by decide +kernel, by decide +kernel⟩
abbrev s__law_mixed : Stmt := topS 30
abbrev N__law_mixed : List Str := ["_law_cell", "_law_k"]
theorem sc__law_mixed : FnScope ["_law_cell", "_law_k"] ["_law_cell", "_law_k"] (defScope s__law_mixed) := ⟨rfl, rfl, rfl, by decide +kernel, rfl, by decide +kernel, by decide +kernel⟩
abbrev s__law_train : Stmt := topS 31
abbrev N__law_train : List Str := ["_law_cell", "_law_more", "_law_train_here", "_law_stage", "_law_size", "_law_few", "_law_k"]
theorem sc__law_train : FnScope ["_law_cell", "_law_more", "_law_train_here", "_law_stage", "_law_size", "_law_few", "_law_k"] ["_law_cell", "_law_more"] (defScope s__law_train) := ⟨rfl, rfl, rfl, by decide +kernel, rfl, by decide +kernel, by decide +kernel⟩
abbrev s__law_kinds : Stmt := topS 32
abbrev N__law_kinds : List Str := ["_law_e", "_law_some"]
theorem sc__law_kinds : FnScope ["_law_e", "_law_some"] ["_law_e"] (defScope s__law_kinds) := ⟨rfl, rfl, rfl, by decide +kernel, rfl, by decide +kernel, by decide +kernel⟩
abbrev s__law_changed : Stmt := topS 33
abbrev N__law_changed : List Str := ["_law_text", "_law_cell", "_law_signs", "_law_at_here", "_law_sign"]
theorem sc__law_changed : FnScope ["_law_text", "_law_cell", "_law_signs", "_law_at_here", "_law_sign"] ["_law_text", "_law_cell"] (defScope s__law_changed) := ⟨rfl, rfl, rfl, by decide +kernel, rfl, by decide +kernel, by decide +kernel⟩
abbrev s__law_wheel : Stmt := topS 34
abbrev N__law_wheel : List Str := ["_law_word", "_law_teeth"]
theorem sc__law_wheel : FnScope ["_law_word", "_law_teeth"] ["_law_word"] (defScope s__law_wheel) := ⟨rfl, rfl, rfl, by decide +kernel, rfl, by decide +kernel, by decide +kernel⟩
abbrev s__law_due : Stmt := topS 35
abbrev N__law_due : List Str := ["_law_text", "_law_stages", "_law_train_here", "_law_part", "_law_stage", "_law_word"]
theorem sc__law_due : FnScope ["_law_text", "_law_stages", "_law_train_here", "_law_part", "_law_stage", "_law_word"] ["_law_text"] (defScope s__law_due) := ⟨rfl, rfl, rfl, by decide +kernel, rfl, by decide +kernel, by decide +kernel⟩
abbrev s__law_told : Stmt := topS 36
abbrev N__law_told : List Str := ["_law_thing", "_law_e"]
theorem sc__law_told : FnScope ["_law_thing", "_law_e"] ["_law_thing"] (defScope s__law_told) := ⟨rfl, rfl, rfl, by decide +kernel, rfl, by decide +kernel, by decide +kernel⟩
abbrev s_law : Stmt := topS 37
abbrev N_law : List Str := ["_law_script", "_law_train_here", "_law_text", "_law_due_here", "_law_k", "_law_refused", "_law_odd", "_law_found", "_law_kept", "_law_again", "_law_stage", "_law_wheel_here"]
theorem sc_law : FnScope ["_law_script", "_law_train_here", "_law_text", "_law_due_here", "_law_k", "_law_refused", "_law_odd", "_law_found", "_law_kept", "_law_again", "_law_stage", "_law_wheel_here"] ["_law_script"] (defScope s_law) := ⟨rfl, rfl, rfl, by decide +kernel, rfl, by decide +kernel, by decide +kernel⟩
/-- what the top has written -/
structure Tx (K : PySem.W.Frag) (mg : Str → Option Value) : Type where
  f_is_whole : Addr
  d_is_whole : FuncData
  F_is_whole : Fun K "is_whole" "is_whole" s_is_whole f_is_whole d_is_whole
  g_is_whole : mg "is_whole" = some (.ref f_is_whole)
  b_is_whole : Binds K d_is_whole ["thing", "least", "greatest"] []
  f_is_wheel : Addr
  d_is_wheel : FuncData
  F_is_wheel : Fun K "is_wheel" "is_wheel" s_is_wheel f_is_wheel d_is_wheel
  g_is_wheel : mg "is_wheel" = some (.ref f_is_wheel)
  b_is_wheel : Binds K d_is_wheel ["thing"] []
  f_is_stage : Addr
  d_is_stage : FuncData
  F_is_stage : Fun K "is_stage" "is_stage" s_is_stage f_is_stage d_is_stage
  g_is_stage : mg "is_stage" = some (.ref f_is_stage)
  b_is_stage : Binds K d_is_stage ["thing"] []
  f_need_train : Addr
  d_need_train : FuncData
  F_need_train : Fun K "need_train" "need_train" s_need_train f_need_train d_need_train
  g_need_train : mg "need_train" = some (.ref f_need_train)
  b_need_train : Binds K d_need_train ["thing"] []
  f_written : Addr
  d_written : FuncData
  F_written : Fun K "written" "written" s_written f_written d_written
  g_written : mg "written" = some (.ref f_written)
  b_written : Binds K d_written ["train"] []
  f_written_stage : Addr
  d_written_stage : FuncData
  F_written_stage : Fun K "written_stage" "written_stage" s_written_stage f_written_stage d_written_stage
  g_written_stage : mg "written_stage" = some (.ref f_written_stage)
  b_written_stage : Binds K d_written_stage ["stage"] []
  f_read : Addr
  d_read : FuncData
  F_read : Fun K "read" "read" s_read f_read d_read
  g_read : mg "read" = some (.ref f_read)
  b_read : Binds K d_read ["text"] []
  f_read_stage : Addr
  d_read_stage : FuncData
  F_read_stage : Fun K "read_stage" "read_stage" s_read_stage f_read_stage d_read_stage
  g_read_stage : mg "read_stage" = some (.ref f_read_stage)
  b_read_stage : Binds K d_read_stage ["part"] []
  f__law_at : Addr
  d__law_at : FuncData
  F__law_at : Fun K "_law_at" "_law_at" s__law_at f__law_at d__law_at
  g__law_at : mg "_law_at" = some (.ref f__law_at)
  b__law_at : Binds K d__law_at ["_law_script", "_law_k"] []
  f__law_mixed : Addr
  d__law_mixed : FuncData
  F__law_mixed : Fun K "_law_mixed" "_law_mixed" s__law_mixed f__law_mixed d__law_mixed
  g__law_mixed : mg "_law_mixed" = some (.ref f__law_mixed)
  b__law_mixed : Binds K d__law_mixed ["_law_cell", "_law_k"] []
  f__law_train : Addr
  d__law_train : FuncData
  F__law_train : Fun K "_law_train" "_law_train" s__law_train f__law_train d__law_train
  g__law_train : mg "_law_train" = some (.ref f__law_train)
  b__law_train : Binds K d__law_train ["_law_cell", "_law_more"] []
  f__law_kinds : Addr
  d__law_kinds : FuncData
  F__law_kinds : Fun K "_law_kinds" "_law_kinds" s__law_kinds f__law_kinds d__law_kinds
  g__law_kinds : mg "_law_kinds" = some (.ref f__law_kinds)
  b__law_kinds : Binds K d__law_kinds ["_law_e"] []
  f__law_changed : Addr
  d__law_changed : FuncData
  F__law_changed : Fun K "_law_changed" "_law_changed" s__law_changed f__law_changed d__law_changed
  g__law_changed : mg "_law_changed" = some (.ref f__law_changed)
  b__law_changed : Binds K d__law_changed ["_law_text", "_law_cell"] []
  f__law_wheel : Addr
  d__law_wheel : FuncData
  F__law_wheel : Fun K "_law_wheel" "_law_wheel" s__law_wheel f__law_wheel d__law_wheel
  g__law_wheel : mg "_law_wheel" = some (.ref f__law_wheel)
  b__law_wheel : Binds K d__law_wheel ["_law_word"] []
  f__law_due : Addr
  d__law_due : FuncData
  F__law_due : Fun K "_law_due" "_law_due" s__law_due f__law_due d__law_due
  g__law_due : mg "_law_due" = some (.ref f__law_due)
  b__law_due : Binds K d__law_due ["_law_text"] []
  f__law_told : Addr
  d__law_told : FuncData
  F__law_told : Fun K "_law_told" "_law_told" s__law_told f__law_told d__law_told
  g__law_told : mg "_law_told" = some (.ref f__law_told)
  b__law_told : Binds K d__law_told ["_law_thing"] []
  f_law : Addr
  d_law : FuncData
  F_law : Fun K "law" "law" s_law f_law d_law
  g_law : mg "law" = some (.ref f_law)
  b_law : Binds K d_law ["_law_script"] []
  z_ValueError : mg "ValueError" = none
  z_all : mg "all" = none
  z_bool : mg "bool" = none
  z_int : mg "int" = none
  z_isinstance : mg "isinstance" = none
  z_len : mg "len" = none
  z_list : mg "list" = none
  z_range : mg "range" = none
  z_str : mg "str" = none
  z_tuple : mg "tuple" = none
  t_LEAST_TEETH : Tok
  c_LEAST_TEETH : mg "LEAST_TEETH" = some (.int 2 t_LEAST_TEETH)
  t_MOST_TEETH : Tok
  c_MOST_TEETH : mg "MOST_TEETH" = some (.int 60 t_MOST_TEETH)
  t_LEAST_WHEELS : Tok
  c_LEAST_WHEELS : mg "LEAST_WHEELS" = some (.int 2 t_LEAST_WHEELS)
  t_MOST_WHEELS : Tok
  c_MOST_WHEELS : mg "MOST_WHEELS" = some (.int 5 t_MOST_WHEELS)
  t_LEAST_STAGES : Tok
  c_LEAST_STAGES : mg "LEAST_STAGES" = some (.int 1 t_LEAST_STAGES)
  t_MOST_STAGES : Tok
  c_MOST_STAGES : mg "MOST_STAGES" = some (.int 3 t_MOST_STAGES)
  C_TrainError : Addr
  C_BadRatio : Addr
  C_BadTrain : Addr
  C_BadShop : Addr
  C_BadPairs : Addr
  C_BadPlace : Addr
  C_BadWheel : Addr
  C_TooLong : Addr
  C_NoText : Addr
  g_TrainError : mg "TrainError" = some (.ref C_TrainError)
  g_BadRatio : mg "BadRatio" = some (.ref C_BadRatio)
  g_BadTrain : mg "BadTrain" = some (.ref C_BadTrain)
  g_BadShop : mg "BadShop" = some (.ref C_BadShop)
  g_BadPairs : mg "BadPairs" = some (.ref C_BadPairs)
  g_BadPlace : mg "BadPlace" = some (.ref C_BadPlace)
  g_BadWheel : mg "BadWheel" = some (.ref C_BadWheel)
  g_TooLong : mg "TooLong" = some (.ref C_TooLong)
  g_NoText : mg "NoText" = some (.ref C_NoText)
  r_TrainError : PySem.W.subIn K (.ref C_TrainError) (.type "BaseException") = some true
  t_TrainError : PySem.W.typeIn K (.ref C_TrainError) = some (.type "type")
  i_TrainError : PySem.W.isClsIn K C_TrainError = true
  r_BadRatio : PySem.W.subIn K (.ref C_BadRatio) (.type "BaseException") = some true
  t_BadRatio : PySem.W.typeIn K (.ref C_BadRatio) = some (.type "type")
  i_BadRatio : PySem.W.isClsIn K C_BadRatio = true
  r_BadTrain : PySem.W.subIn K (.ref C_BadTrain) (.type "BaseException") = some true
  t_BadTrain : PySem.W.typeIn K (.ref C_BadTrain) = some (.type "type")
  i_BadTrain : PySem.W.isClsIn K C_BadTrain = true
  r_BadShop : PySem.W.subIn K (.ref C_BadShop) (.type "BaseException") = some true
  t_BadShop : PySem.W.typeIn K (.ref C_BadShop) = some (.type "type")
  i_BadShop : PySem.W.isClsIn K C_BadShop = true
  r_BadPairs : PySem.W.subIn K (.ref C_BadPairs) (.type "BaseException") = some true
  t_BadPairs : PySem.W.typeIn K (.ref C_BadPairs) = some (.type "type")
  i_BadPairs : PySem.W.isClsIn K C_BadPairs = true
  r_BadPlace : PySem.W.subIn K (.ref C_BadPlace) (.type "BaseException") = some true
  t_BadPlace : PySem.W.typeIn K (.ref C_BadPlace) = some (.type "type")
  i_BadPlace : PySem.W.isClsIn K C_BadPlace = true
  r_BadWheel : PySem.W.subIn K (.ref C_BadWheel) (.type "BaseException") = some true
  t_BadWheel : PySem.W.typeIn K (.ref C_BadWheel) = some (.type "type")
  i_BadWheel : PySem.W.isClsIn K C_BadWheel = true
  r_TooLong : PySem.W.subIn K (.ref C_TooLong) (.type "BaseException") = some true
  t_TooLong : PySem.W.typeIn K (.ref C_TooLong) = some (.type "type")
  i_TooLong : PySem.W.isClsIn K C_TooLong = true
  r_NoText : PySem.W.subIn K (.ref C_NoText) (.type "BaseException") = some true
  t_NoText : PySem.W.typeIn K (.ref C_NoText) = some (.type "type")
  i_NoText : PySem.W.isClsIn K C_NoText = true
  q_spec : PySem.W.specialIn K (.builtin "object.__class__") "__get__" = some (some (.builtin "getset_descriptor.__get__"))
  q_takes : PySem.W.takesIn K (.builtin "object.__class__") = some true
  x_BadTrain : PySem.W.excIn K C_BadTrain [.type "ValueError", .type "Exception", .type "BaseException", .type "object"] "ValueError.__new__" = true
  k_BadTrain : PySem.W.keepIn K (.ref C_BadTrain) = true
  a1_BadTrain : PySem.W.findIn K (.ref C_BadTrain) "__getattribute__" = some (some (.builtin "BaseException.__getattribute__"))
  a2_BadTrain : PySem.W.findIn K (.ref C_BadTrain) "__getattr__" = some none
  a3_BadTrain : PySem.W.hasDictIn K C_BadTrain = true
  a4_BadTrain : PySem.W.findIn K (.ref C_BadTrain) "__class__" = some (some (.builtin "object.__class__"))
  a5_BadTrain : PySem.W.mroIn K C_BadTrain (.type "object") = some true
  v_BadTrain : PySem.W.subIn K (.ref C_BadTrain) (.type "ValueError") = some true
  s_BadTrain_TrainError : PySem.W.subIn K (.ref C_BadTrain) (.ref C_TrainError) = some true
  s_BadTrain_BadRatio : PySem.W.subIn K (.ref C_BadTrain) (.ref C_BadRatio) = some false
  s_BadTrain_BadTrain : PySem.W.subIn K (.ref C_BadTrain) (.ref C_BadTrain) = some true
  s_BadTrain_BadShop : PySem.W.subIn K (.ref C_BadTrain) (.ref C_BadShop) = some false
  s_BadTrain_BadPairs : PySem.W.subIn K (.ref C_BadTrain) (.ref C_BadPairs) = some false
  s_BadTrain_BadPlace : PySem.W.subIn K (.ref C_BadTrain) (.ref C_BadPlace) = some false
  s_BadTrain_BadWheel : PySem.W.subIn K (.ref C_BadTrain) (.ref C_BadWheel) = some false
  s_BadTrain_TooLong : PySem.W.subIn K (.ref C_BadTrain) (.ref C_TooLong) = some false
  s_BadTrain_NoText : PySem.W.subIn K (.ref C_BadTrain) (.ref C_NoText) = some false
  x_NoText : PySem.W.excIn K C_NoText [.type "ValueError", .type "Exception", .type "BaseException", .type "object"] "ValueError.__new__" = true
  k_NoText : PySem.W.keepIn K (.ref C_NoText) = true
  a1_NoText : PySem.W.findIn K (.ref C_NoText) "__getattribute__" = some (some (.builtin "BaseException.__getattribute__"))
  a2_NoText : PySem.W.findIn K (.ref C_NoText) "__getattr__" = some none
  a3_NoText : PySem.W.hasDictIn K C_NoText = true
  a4_NoText : PySem.W.findIn K (.ref C_NoText) "__class__" = some (some (.builtin "object.__class__"))
  a5_NoText : PySem.W.mroIn K C_NoText (.type "object") = some true
  v_NoText : PySem.W.subIn K (.ref C_NoText) (.type "ValueError") = some true
  s_NoText_TrainError : PySem.W.subIn K (.ref C_NoText) (.ref C_TrainError) = some true
  s_NoText_BadRatio : PySem.W.subIn K (.ref C_NoText) (.ref C_BadRatio) = some false
  s_NoText_BadTrain : PySem.W.subIn K (.ref C_NoText) (.ref C_BadTrain) = some false
  s_NoText_BadShop : PySem.W.subIn K (.ref C_NoText) (.ref C_BadShop) = some false
  s_NoText_BadPairs : PySem.W.subIn K (.ref C_NoText) (.ref C_BadPairs) = some false
  s_NoText_BadPlace : PySem.W.subIn K (.ref C_NoText) (.ref C_BadPlace) = some false
  s_NoText_BadWheel : PySem.W.subIn K (.ref C_NoText) (.ref C_BadWheel) = some false
  s_NoText_TooLong : PySem.W.subIn K (.ref C_NoText) (.ref C_TooLong) = some false
  s_NoText_NoText : PySem.W.subIn K (.ref C_NoText) (.ref C_NoText) = some true
local macro_rules | `(tactic| walk_at "side") => `(tactic| first
  | assumption
  | decide
  | omega
  | exact (Or.inl (Or.inr ⟨by omega, by omega⟩))
  | exact (Or.inl (Or.inl ⟨by omega, by omega⟩))
  | exact ⟨by omega, by omega⟩
  | exact ⟨by decide, by decide⟩)
local macro_rules | `(tactic| walk_at "mem") => `(tactic| first | exact List.mem_cons_self | (refine List.mem_cons_of_mem _ ?_; walk_at "mem") | assumption)
local macro_rules | `(tactic| walk_at "own") => `(tactic| fail)
local macro_rules | `(tactic| walk_at "bt") => `(tactic| first | exact rfl | exact decide_eq_true (by first | assumption | omega) | exact ndt (by first | assumption | omega))
local macro_rules | `(tactic| walk_at "bf") => `(tactic| first | exact rfl | exact decide_eq_false (by first | assumption | omega) | exact ndf (by first | assumption | omega))
local macro_rules | `(tactic| walk_at "e1") => `(tactic| first
  | ((with_reducible apply ve_var); exact rfl)
  | with_reducible refine ve_int ?_
  | with_reducible refine ve_op ?_
  | with_reducible refine ve_call ?_
  | with_reducible refine ve_cb ?_
  | with_reducible refine va_cons ?_
  | with_reducible refine va_nil ?_
  | with_reducible refine vr_plusI ?_
  | with_reducible refine vr_I0i ?_
  | with_reducible refine vr_I0b ?_
  | with_reducible refine vr_eqI ?_
  | with_reducible refine vr_neI ?_
  | ((with_reducible refine vr_timesI ?_ ?_); walk_at "side")
  | ((with_reducible refine vr_Ii ?_ ?_); walk_at "side")
  | with_reducible refine vu_I ?_
  | with_reducible refine ve_tupD ?_
  | with_reducible refine ve_lstE ?_
  | with_reducible refine ve_cut ?_
  | with_reducible refine vo_some ?_
  | with_reducible refine vo_none ?_
  | ((with_reducible refine le_and ?_ ?_); exact Nat.le_of_ble_eq_true rfl)
  | with_reducible refine ve_un ?_
  | with_reducible refine ve_bl ?_
  | with_reducible refine ve_non ?_
  | with_reducible refine ve_str ?_
  | with_reducible refine vt_test ?_
  | with_reducible refine vt_B ?_
  | with_reducible refine vt_not ?_
  | with_reducible refine vt_and ?_
  | with_reducible refine vt_or ?_
  | with_reducible refine ve_andV ?_
  | with_reducible refine ve_orV ?_
  | with_reducible refine ve_notV ?_
  | with_reducible refine ve_if ?_
  | with_reducible refine ve_chain ?_
  | with_reducible refine vc_abs ?_
  | with_reducible refine vc_gcd ?_
  | with_reducible refine vc_max2 ?_
  | with_reducible refine vc_min2 ?_
  | with_reducible refine vc_intI ?_
  | with_reducible refine vc_intB ?_
  | with_reducible refine vc_len (.inl .bor) ?_
  | with_reducible refine vc_len (.inl .scr) ?_
  | with_reducible refine vc_len (.inl .dat) ?_
  | with_reducible refine vc_len (.inr .dat) ?_
  | ((with_reducible apply vc_lenO); walk_at "mem")
  | with_reducible refine vc_len (.inl .rd) ?_
  | with_reducible refine vc_len (.inr .rd) ?_
  | with_reducible refine vc_isInt ?_
  | with_reducible refine vc_isBool ?_
  | with_reducible refine vc_isTup ?_
  | with_reducible refine vc_isList ?_
  | with_reducible refine vc_isStr ?_
  | with_reducible refine vc_isListL .bor ?_
  | ((with_reducible apply vc_isListO); walk_at "mem")
  | with_reducible refine vc_isIntR ?_
  | with_reducible refine vc_isBoolR ?_
  | with_reducible refine vc_isTupR ?_
  | with_reducible refine vc_isListR ?_
  | ((with_reducible apply vr_ix (.inr .dat)); exact rfl)
  | ((with_reducible apply vr_ix (.inl .dat)); exact rfl)
  | ((with_reducible apply vr_ix (.inl .dat)); assumption)
  | ((with_reducible apply vr_ix (.inr .dat)); assumption)
  | ((with_reducible apply vr_ix (.inl .bor)); exact rfl)
  | ((with_reducible apply vr_ix (.inl .rd)); exact rfl)
  | ((with_reducible apply vr_ix (.inr .rd)); exact rfl)
  | ((with_reducible apply vr_ixO); (walk_at "mem"); exact rfl)
  | with_reducible refine ve_val ?_
  | walk_at "own")
local macro_rules | `(tactic| walk_at "s1") => `(tactic| first
  | with_reducible refine vs_seq ?_
  | with_reducible refine vs_set ?_
  | with_reducible refine vs_ret ?_
  | with_reducible refine vs_if ?_
  | with_reducible refine vs_par ?_
  | with_reducible refine vs_asg ?_
  | with_reducible refine vs_next ?_
  | with_reducible refine vg_name ?_
  | ((with_reducible refine vg_tup .dat ?_ ?_); exact rfl)
  | ((with_reducible refine vg_tup .rd ?_ ?_); exact rfl)
  | ((with_reducible refine vg_tup .tup ?_ ?_); exact rfl)
  | with_reducible refine vgs_cons ?_
  | with_reducible refine vgs_nil ?_
  | with_reducible refine vs_app ?_
  | with_reducible refine vs_clear ?_
  | with_reducible refine vs_ins ?_
  | ((with_reducible apply app_at 0); exact rfl)
  | ((with_reducible apply app_at 1); exact rfl)
  | ((with_reducible apply app_at 2); exact rfl)
  | with_reducible refine vs_drop ?_)
local macro_rules | `(tactic| walk_at "norm") => `(tactic| dsimp only [List.set_cons_succ, List.set_cons_zero, List.map, tupP2, tupP_rd, rdP_none, rdP_bool, rdP_int, rdP_str, rdP_list, rdP_tuple])
local macro_rules | `(tactic| walk_at "start") => `(tactic| dsimp only [entry, axP_d, axP_l, axP_r, axP_s, axP_v])
local macro_rules | `(tactic| walk_at "x1") => `(tactic| first
  | walk_at "e1"
  | walk_at "s1"
  | exact ⟨_, rfl, _⟩
  | with_reducible refine Exists.intro _ (And.intro rfl ?_)
  | with_reducible refine Exists.intro _ (Exists.intro _ (And.intro rfl ?_))
  | ((with_reducible refine br_t ?_ ?_); walk_at "bt")
  | ((with_reducible refine br_f ?_ ?_); walk_at "bf")
  | walk_at "norm"
  | refine Exists.intro _ (And.intro (by exact (rfl : dats _ = some _)) ?_))
local macro_rules | `(tactic| walk_at "go") => `(tactic| repeat walk_at "x1")
local macro_rules | `(tactic| walk_at "s0") => `(tactic| first
  | with_reducible refine vs_set ?_
  | with_reducible refine vs_ret ?_
  | with_reducible refine vs_if ?_
  | with_reducible refine vs_par ?_
  | with_reducible refine vs_asg ?_
  | with_reducible refine vs_next ?_
  | with_reducible refine vg_name ?_
  | ((with_reducible refine vg_tup .dat ?_ ?_); exact rfl)
  | ((with_reducible refine vg_tup .rd ?_ ?_); exact rfl)
  | ((with_reducible refine vg_tup .tup ?_ ?_); exact rfl)
  | with_reducible refine vgs_cons ?_
  | with_reducible refine vgs_nil ?_
  | with_reducible refine vs_app ?_
  | with_reducible refine vs_clear ?_
  | with_reducible refine vs_ins ?_
  | ((with_reducible apply app_at 0); exact rfl)
  | ((with_reducible apply app_at 1); exact rfl)
  | ((with_reducible apply app_at 2); exact rfl)
  | with_reducible refine vs_drop ?_)
local macro_rules | `(tactic| walk_at "y1") => `(tactic| first
  | walk_at "e1"
  | walk_at "s0"
  | exact ⟨_, rfl, _⟩
  | with_reducible refine Exists.intro _ (And.intro rfl ?_)
  | with_reducible refine Exists.intro _ (Exists.intro _ (And.intro rfl ?_))
  | ((with_reducible refine br_t ?_ ?_); walk_at "bt")
  | ((with_reducible refine br_f ?_ ?_); walk_at "bf")
  | walk_at "norm"
  | refine Exists.intro _ (And.intro (by exact (rfl : dats _ = some _)) ?_))
local macro_rules | `(tactic| walk_at "goe") => `(tactic| repeat walk_at "y1")
local macro_rules | `(tactic| walk_at "st") => `(tactic| ((with_reducible refine vs_seq ?_); walk_at "goe"))

section
variable {P : Program} {w : World} {K : PySem.W.Frag} {mg : Str → Option Value} {base : Heap}
/-! ### is_whole, is_wheel, is_stage -/
/-- a whole number within -/
def inR (lo hi : Int) : D → Bool
  | .int i => decide (lo ≤ i) && decide (i ≤ hi)
  | _ => false
def sp_is_whole (K : PySem.W.Frag) : Sp := spW K (fun p : D × Int × Int => [.d p.1, .d (.int p.2.1), .d (.int p.2.2)]) (fun _ => True) (Ret fun p => .bool (inR p.2.1 p.2.2 p.1)) nox
theorem ok_is_whole (T : Tx K mg) : FnOk P w K mg base CX0 1 T.f_is_whole T.d_is_whole ["thing", "least", "greatest"] (sp_is_whole K) := by
  refine T.F_is_whole.ok sc_is_whole (spW_len fun _ => rfl) (fun cdv A outer s H vs Q E hr h => ?_)
  refine ⟨_, (pss_cons (ps_if (PW.pt (pw_or (pt_val (pe_callB (call_isiK (K := K) rfl) (by rfl) T.z_isinstance (by decide +kernel) (pa_cons (pv 0) (pa_cons (pe_bltn (v := .ty "bool") (by rfl) T.z_bool (by decide +kernel) rfl) pa_nil)))) (pw_or1 (pt_not (pt_val (pe_callB (call_isiK (K := K) rfl) (by rfl) T.z_isinstance (by decide +kernel) (pa_cons (pv 0) (pa_cons (pe_bltn (v := .ty "int") (by rfl) T.z_int (by decide +kernel) rfl) pa_nil))))))))
      (pss_one (ps_ret pe_bl))
      pss_nil)
      (pss_one (ps_ret (pe_chain op_le op_le (pv 1) (pv 0) (pv 2))))), body_of h fun p hp => ?_⟩
  obtain ⟨d, lo, hi⟩ := p
  cases d with
  | int i =>
    walk_at "start"
    walk_at "go"
    refine br_d (fun hb => ?_) fun hb => ?_
    · walk_at "go"
      refine fin_ret ?_
      show PyData.bool _ = .bool (decide (lo ≤ i) && decide (i ≤ hi))
      rw [decide_eq_true hb]
      rfl
    · refine fin_ret ?_
      show PyData.bool _ = .bool (decide (lo ≤ i) && decide (i ≤ hi))
      rw [decide_eq_false hb]
      rfl
  | _ =>
    walk_at "start"
    walk_at "go"
    exact fin_ret rfl
section
variable {c : Cn} {ρ : Slots} {S : Store} {Φ : Pv → Store → Prop} {E : XK}
theorem vc_is_whole {d : D} {lo hi : Int} (h : Φ (.dat (.bool (inR lo hi d))) S) : VC c ρ (fun vs H Q => sp_is_whole c.K vs H Q E) [.dat d, .dat (.int lo), .dat (.int hi)] S Φ := vc_ret (d, lo, hi) (.cons .dat (.cons .dat (.cons .dat .nil))) trivial h
end
local macro_rules | `(tactic| walk_at "own") => `(tactic| with_reducible refine vc_is_whole ?_)
def sp_is_wheel (K : PySem.W.Frag) : Sp := spW K (fun d : D => [.d d]) (fun _ => True) (Ret fun d => .bool (inR 2 60 d)) nox
theorem ok_is_wheel (T : Tx K mg) : FnOk P w K mg base CX0 2 T.f_is_wheel T.d_is_wheel ["thing"] (sp_is_wheel K) := by
  refine T.F_is_wheel.ok sc_is_wheel (spW_len fun _ => rfl) (fun cdv A outer s H vs Q E hr h => ?_)
  refine ⟨_, (pss_one (ps_ret (pe_call (ok_is_whole T) (hr.mono (by decide)) (by rfl) T.g_is_whole T.F_is_whole.kp T.b_is_whole .nil pass0 (pa_cons (pv 0) (pa_cons (pe_glob (v := .int 2) (by rfl) T.c_LEAST_TEETH ⟨_, rfl⟩) (pa_cons (pe_glob (v := .int 60) (by rfl) T.c_MOST_TEETH ⟨_, rfl⟩) pa_nil)))))), body_of h fun p hp => ?_⟩
  walk_at "start"
  walk_at "go"
  exact fin_ret rfl
section
variable {c : Cn} {ρ : Slots} {S : Store} {Φ : Pv → Store → Prop} {E : XK}
theorem vc_is_wheel {d : D} (h : Φ (.dat (.bool (inR 2 60 d))) S) : VC c ρ (fun vs H Q => sp_is_wheel c.K vs H Q E) [.dat d] S Φ := vc_ret d (.cons .dat .nil) trivial h
end
local macro_rules | `(tactic| walk_at "own") => `(tactic| with_reducible refine vc_is_wheel ?_)
theorem dats_len (ds : List D) : (ds.map Pv.dat).length = ds.length := List.length_map ..
/-- a stage -/
def stB : D → Bool
  | .tuple ws => decide (2 ≤ ws.length) && decide (ws.length ≤ 5) && ws.all (inR 2 60)
  | _ => false
def sp_is_stage (K : PySem.W.Frag) : Sp := spW K (fun d : D => [.d d]) (fun _ => True) (Ret fun d => .bool (stB d)) nox
theorem ok_is_stage (T : Tx K mg) : FnOk P w K mg base CX0 3 T.f_is_stage T.d_is_stage ["thing"] (sp_is_stage K) := by
  refine T.F_is_stage.ok sc_is_stage (spW_len fun _ => rfl) (fun cdv A outer s H vs Q E hr h => ?_)
  refine ⟨_, (pss_cons (ps_if (PW.pt (pw_or (pt_not (pt_val (pe_callB (call_isiK (K := K) rfl) (by rfl) T.z_isinstance (by decide +kernel) (pa_cons (pv 0) (pa_cons (pe_bltn (v := .ty "tuple") (by rfl) T.z_tuple (by decide +kernel) rfl) pa_nil))))) (pw_or1 (pt_not (pt_chain op_le op_le (pe_glob (v := .int 2) (by rfl) T.c_LEAST_WHEELS ⟨_, rfl⟩) (pe_callB (call_lenK (K := K) rfl) (by rfl) T.z_len (by decide +kernel) (pa_cons (pv 0) pa_nil)) (pe_glob (v := .int 5) (by rfl) T.c_MOST_WHEELS ⟨_, rfl⟩))))))
      (pss_one (ps_ret pe_bl))
      pss_nil)
      (pss_one (ps_ret (pe_callB (cr_allK (K := K) rfl rfl) (by rfl) T.z_all (by decide +kernel) (pa_cons (pe_lc (own := [("wheel", 1)]) rfl sc_is_stage.nd (pi_tupK (K := K) rfl (pv 0)) (blkOk_by (own := [("wheel", 1)]) (N := N_is_stage) (sc := defScope s_is_stage) (by decide +kernel)) (fun _ _ _ _ _ => (pg_name (i := 1) sc_is_stage.nd rfl (Or.inl rfl))) (fun _ _ _ _ _ => pts_nil) (fun _ _ _ _ _ => (pe_call (ok_is_wheel T) (hr.mono (by decide)) (by rfl) T.g_is_wheel T.F_is_wheel.kp T.b_is_wheel .nil pass0 (pa_cons (pv 1) pa_nil)))) pa_nil))))), body_of h fun d hp => ?_⟩
  cases d with
  | tuple ws =>
    walk_at "start"
    walk_at "go"
    rw [dats_len]
    refine br_d (fun h2 => ?_) fun h2 => ?_
    · walk_at "go"
      refine br_n (fun h5 => ?_) fun h5 => ?_
      · walk_at "go"
        refine fin_ret ?_
        show PyData.bool _ = .bool (decide (2 ≤ ws.length) && decide (ws.length ≤ 5) && ws.all (inR 2 60))
        rw [decide_eq_false (show ¬ ws.length ≤ 5 by omega), Bool.and_false]
        rfl
      · walk_at "go"
        refine ve_lcm (by decide) (vi_tup ?_)
        walk_at "goe"
        refine ⟨_, .dat, (ws.map (inR 2 60)).map fun b => .dat (.bool b), by simp, ?_, ?_, fun p => ?_⟩
        · simp
          omega
        · intro i x e
          obtain ⟨d, hd, rfl⟩ : ∃ d, ws[i]? = some d ∧ x = .dat d := by
            rw [List.getElem?_map] at e
            cases e1 : ws[i]? with
            | none => rw [e1] at e; cases e
            | some d => rw [e1] at e; exact ⟨d, rfl, (Option.some.inj e).symm⟩
          walk_at "goe"
          refine ⟨rfl, rfl, ?_⟩
          rw [List.getElem?_map, List.getElem?_map, hd]
          rfl
        · walk_at "goe"
          refine vc_all (bs := ws.map (inR 2 60)) (.own (by walk_at "mem")) (fin_ret ?_)
          show PyData.bool _ = .bool (decide (2 ≤ ws.length) && decide (ws.length ≤ 5) && ws.all (inR 2 60))
          rw [decide_eq_true (show 2 ≤ ws.length by omega), decide_eq_true (show ws.length ≤ 5 by omega), List.all_map]
          rfl
    · walk_at "go"
      refine fin_ret ?_
      show PyData.bool _ = .bool (decide (2 ≤ ws.length) && decide (ws.length ≤ 5) && ws.all (inR 2 60))
      rw [decide_eq_false (show ¬ 2 ≤ ws.length by omega)]
      rfl
  | _ =>
    walk_at "start"
    walk_at "go"
    exact fin_ret rfl
section
variable {c : Cn} {ρ : Slots} {S : Store} {Φ : Pv → Store → Prop} {E : XK}
theorem vc_is_stage {d : D} (h : Φ (.dat (.bool (stB d))) S) : VC c ρ (fun vs H Q => sp_is_stage c.K vs H Q E) [.dat d] S Φ := vc_ret d (.cons .dat .nil) trivial h
end
local macro_rules | `(tactic| walk_at "own") => `(tactic| with_reducible refine vc_is_stage ?_)

/-! ### _law_at -/
def cell (ns : List Int) (k : Int) : Int := ns.getD k.toNat 0
def sp__law_at (K : PySem.W.Frag) : Sp := spW K (fun p : List Int × Int => [.s p.1, .d (.int p.2)]) (fun p => 0 ≤ p.2) (Ret fun p => .int (cell p.1 p.2)) nox
theorem atI_ints {ns : List Int} {k : Int} (h : 0 ≤ k) (h2 : k < ns.length) : atI ((ns.map PyData.int).map Pv.dat) k = some (.dat (.int (cell ns k))) := by
  obtain ⟨j, rfl⟩ := Int.eq_ofNat_of_zero_le h
  refine atI_nat (j := j) ?_
  have hj : j < ns.length := by omega
  rw [List.getElem?_map, List.getElem?_map, List.getElem?_eq_getElem hj]
  unfold cell
  rw [List.getD_eq_getElem?_getD, show ((j : Int)).toNat = j from rfl, List.getElem?_eq_getElem hj]
  rfl
theorem ok__law_at (T : Tx K mg) : FnOk P w K mg base CX0 1 T.f__law_at T.d__law_at ["_law_script", "_law_k"] (sp__law_at K) := by
  refine T.F__law_at.ok sc__law_at (spW_len fun _ => rfl) (fun cdv A outer s H vs Q E hr h => ?_)
  refine ⟨_, (pss_cons (ps_if (pt_cmpR op_lt (pv 1) (pe_callB (call_lenK (K := K) rfl) (by rfl) T.z_len (by decide +kernel) (pa_cons (pv 0) pa_nil)) (nomark _))
      (pss_one (ps_ret (pe_ix (ix_seqK (K := K) rfl) (pv 0) (pv 1) (fun _ _ => rfl))))
      pss_nil)
      (pss_one (ps_ret pe_int))), body_of h fun p hp => ?_⟩
  obtain ⟨ns, k⟩ := p
  have hp : 0 ≤ k := hp
  walk_at "start"
  walk_at "go"
  rw [List.length_map, List.length_map]
  refine ⟨fun hb => ?_, fun hb => ?_⟩
  · have h1 : k < ns.length := of_decide_eq_true hb
    walk_at "go"
    refine vr_ix (.inl .scr) (atI_ints hp h1) ?_
    exact fin_ret rfl
  · have h1 : ¬ k < ns.length := of_decide_eq_false hb
    walk_at "go"
    refine fin_ret ?_
    show PyData.int 0 = .int (ns.getD k.toNat 0)
    rw [List.getD_eq_getElem?_getD, List.getElem?_eq_none (by omega)]
    rfl
section
variable {c : Cn} {ρ : Slots} {S : Store} {Φ : Pv → Store → Prop} {E : XK}
theorem vc__law_at {ns : List Int} {k : Int} (h0 : 0 ≤ k) (h : Φ (.dat (.int (cell ns k))) S) : VC c ρ (fun vs H Q => sp__law_at c.K vs H Q E) [.scr ns, .dat (.int k)] S Φ :=
  vc_ret (ns, k) (.cons .scr (.cons .dat .nil)) h0 h
end
local macro_rules | `(tactic| walk_at "own") => `(tactic| ((with_reducible refine vc__law_at ?_ ?_); walk_at "side"))

/-! ### need_train: a good train, handed in as a list that is read -/
theorem dats_get {ds : List D} {i : Nat} {x : Pv} (e : (ds.map Pv.dat)[i]? = some x) : ∃ d, ds[i]? = some d ∧ x = .dat d := by
  rw [List.getElem?_map] at e
  cases e1 : ds[i]? with
  | none => rw [e1] at e; cases e
  | some d => rw [e1] at e; exact ⟨d, rfl, (Option.some.inj e).symm⟩
def trB (ds : List D) : Bool := decide (1 ≤ ds.length) && decide (ds.length ≤ 3) && ds.all stB

/-! ### need_train: of anything -/
def trG : D → Bool
  | .list ds => trB ds
  | _ => false
def sp_need_trainD (K : PySem.W.Frag) (C : Addr) : Sp := spW K (fun d : D => [.d d]) (fun _ => True) (fun d x S => ∃ ds, d = .list ds ∧ trB ds = true ∧ ∃ l, x = ptr l ∧ S = [(l, Cell.lst (ds.map .dat))]) (fun d e => trG d = false ∧ e = .ref C)
theorem ok_need_trainD (T : Tx K mg) : FnOk P w K mg base (L2N.CX P w) 4 T.f_need_train T.d_need_train ["thing"] (sp_need_trainD K T.C_BadTrain) := by
  refine okN T.F_need_train sc_need_train (spW_len fun _ => rfl) (fun cdv A outer s H vs Q E hr h => ?_)
  refine ⟨_, (pss_cons (ps_if (PW.pt (pw_or (pt_not (pt_val (pe_callB (call_isiK (K := K) rfl) (by rfl) T.z_isinstance (by decide +kernel) (pa_cons (pv 0) (pa_cons (pe_bltn (v := .ty "list") (by rfl) T.z_list (by decide +kernel) rfl) pa_nil))))) (pw_or1 (pt_not (pt_chain op_le op_le (pe_glob (v := .int 1) (by rfl) T.c_LEAST_STAGES ⟨_, rfl⟩) (pe_callB (call_lenK (K := K) rfl) (by rfl) T.z_len (by decide +kernel) (pa_cons (pv 0) pa_nil)) (pe_glob (v := .int 3) (by rfl) T.c_MOST_STAGES ⟨_, rfl⟩))))))
      (pss_one (L2N.ps_raise rfl (L2N.takes_of rfl rfl rfl rfl) (L2N.pmk_own PySem.F.excBase_ValueError T.x_BadTrain T.g_BadTrain T.k_BadTrain (raises_own T.r_BadTrain T.t_BadTrain) rfl)))
      pss_nil)
      (pss_cons (ps_for (passes_of rfl) rfl (pi_listK (K := K) rfl (pv 0)) (pg_name (i := 1) sc_need_train.nd rfl (Or.inl rfl))
      (pss_one (ps_if (pt_not (pt_val (pe_call (ok_is_stage T) (hr.mono (by decide)) (by rfl) T.g_is_stage T.F_is_stage.kp T.b_is_stage .nil pass0 (pa_cons (pv 1) pa_nil))))
      (pss_one (L2N.ps_raise rfl (L2N.takes_of rfl rfl rfl rfl) (L2N.pmk_own PySem.F.excBase_ValueError T.x_BadTrain T.g_BadTrain T.k_BadTrain (raises_own T.r_BadTrain T.t_BadTrain) rfl)))
      pss_nil)))
      (pss_one (ps_ret (pe_callTy (call_listK (K := K) rfl) (by rfl) T.z_list (by decide +kernel) (pa_cons (pv 0) pa_nil)))))), body_of h fun d _ => ?_⟩
  cases d with
  | list ds =>
    walk_at "start"
    walk_at "st"
    rw [dats_len]
    refine br_d (fun h1 => ?_) fun h1 => ?_
    · walk_at "goe"
      refine br_n (fun h3 => ?_) fun h3 => ?_
      · refine vs_raise T.C_BadTrain ⟨?_, rfl⟩
        show (decide (1 ≤ ds.length) && decide (ds.length ≤ 3) && ds.all stB) = false
        rw [decide_eq_false (show ¬ ds.length ≤ 3 by omega), Bool.and_false]
        rfl
      walk_at "goe"
      refine vs_seq (vs_for (vi_list ?_))
      walk_at "goe"
      refine ⟨_, .dat, fun i ρ S => (∃ x, ρ = [some (.dat (.list ds)), x] ∧ S = []) ∧ ∀ j d, j < i → ds[j]? = some d → stB d = true, ⟨⟨none, rfl, rfl⟩, fun j d hj _ => absurd hj (Nat.not_lt_zero _)⟩, ?_, ?_⟩
      · rintro i x ρ1 S1 e ⟨⟨y, rfl, rfl⟩, hall⟩
        obtain ⟨d, hd, rfl⟩ := dats_get e
        refine vg_name ?_
        walk_at "norm"
        walk_at "goe"
        cases hs : stB d with
        | false =>
          walk_at "goe"
          refine vs_raise T.C_BadTrain ⟨?_, rfl⟩
          show (_ && ds.all stB) = false
          rw [show ds.all stB = false from List.all_eq_false.mpr ⟨d, List.mem_of_getElem? hd, by rw [hs]; exact Bool.false_ne_true⟩, Bool.and_false]
        | true =>
          walk_at "goe"
          refine ⟨⟨_, rfl, rfl⟩, fun j e hj he => ?_⟩
          rcases Nat.lt_or_ge j i with z | z
          · exact hall j e z he
          · have ej : j = i := by omega
            subst ej
            rw [hd] at he
            rw [← Option.some.inj he]
            exact hs
      · rintro ρ1 S1 ⟨⟨y, rfl, rfl⟩, hall⟩
        have hB : trB ds = true := by
          show (decide (1 ≤ ds.length) && decide (ds.length ≤ 3) && ds.all stB) = true
          rw [decide_eq_true (show 1 ≤ ds.length by omega), decide_eq_true (show ds.length ≤ 3 by omega)]
          show ds.all stB = true
          rw [List.all_eq_true]
          intro d hd
          obtain ⟨j, hj⟩ := List.getElem?_of_mem hd
          have hlt := (List.getElem?_eq_some_iff.mp hj).1
          exact hall j d (by rw [List.length_map]; exact hlt) hj
        walk_at "goe"
        refine vc_list (.inl .dat) (nobs_dats _) fun l => ?_
        exact ⟨[(l, _)], ⟨ds, rfl, hB, l, rfl, rfl⟩, rfl, .sub (List.singleton_sublist.mpr List.mem_cons_self)⟩
    · walk_at "goe"
      refine vs_raise T.C_BadTrain ⟨?_, rfl⟩
      show (decide (1 ≤ ds.length) && decide (ds.length ≤ 3) && ds.all stB) = false
      rw [decide_eq_false (show ¬ 1 ≤ ds.length by omega)]
      rfl
  | _ =>
    walk_at "start"
    walk_at "st"
    exact vs_raise T.C_BadTrain ⟨rfl, rfl⟩
def sp_need_trainL (K : PySem.W.Frag) : Sp := spW K (fun ds : List D => [.l ds]) (fun ds => trB ds = true) (NewL id) nox
theorem ok_need_trainL (T : Tx K mg) : FnOk P w K mg base (L2N.CX P w) 4 T.f_need_train T.d_need_train ["thing"] (sp_need_trainL K) := by
  refine okN T.F_need_train sc_need_train (spW_len fun _ => rfl) (fun cdv A outer s H vs Q E hr h => ?_)
  refine ⟨_, (pss_cons (ps_if (PW.pt (pw_or (pt_not (pt_val (pe_callB (call_isiK (K := K) rfl) (by rfl) T.z_isinstance (by decide +kernel) (pa_cons (pv 0) (pa_cons (pe_bltn (v := .ty "list") (by rfl) T.z_list (by decide +kernel) rfl) pa_nil))))) (pw_or1 (pt_not (pt_chain op_le op_le (pe_glob (v := .int 1) (by rfl) T.c_LEAST_STAGES ⟨_, rfl⟩) (pe_callB (call_lenK (K := K) rfl) (by rfl) T.z_len (by decide +kernel) (pa_cons (pv 0) pa_nil)) (pe_glob (v := .int 3) (by rfl) T.c_MOST_STAGES ⟨_, rfl⟩))))))
      (pss_one (L2N.ps_raise rfl (L2N.takes_of rfl rfl rfl rfl) (L2N.pmk_own PySem.F.excBase_ValueError T.x_BadTrain T.g_BadTrain T.k_BadTrain (raises_own T.r_BadTrain T.t_BadTrain) rfl)))
      pss_nil)
      (pss_cons (ps_for (passes_of rfl) rfl (pi_listK (K := K) rfl (pv 0)) (pg_name (i := 1) sc_need_train.nd rfl (Or.inl rfl))
      (pss_one (ps_if (pt_not (pt_val (pe_call (ok_is_stage T) (hr.mono (by decide)) (by rfl) T.g_is_stage T.F_is_stage.kp T.b_is_stage .nil pass0 (pa_cons (pv 1) pa_nil))))
      (pss_one (L2N.ps_raise rfl (L2N.takes_of rfl rfl rfl rfl) (L2N.pmk_own PySem.F.excBase_ValueError T.x_BadTrain T.g_BadTrain T.k_BadTrain (raises_own T.r_BadTrain T.t_BadTrain) rfl)))
      pss_nil)))
      (pss_one (ps_ret (pe_callTy (call_listK (K := K) rfl) (by rfl) T.z_list (by decide +kernel) (pa_cons (pv 0) pa_nil)))))), body_of h fun ds hp => ?_⟩
  have hp : (decide (1 ≤ ds.length) && decide (ds.length ≤ 3) && ds.all stB) = true := hp
  rw [Bool.and_eq_true, Bool.and_eq_true] at hp
  obtain ⟨⟨h1, h3⟩, ha⟩ := hp
  have h1 : 1 ≤ ds.length := of_decide_eq_true h1
  have h3 : ds.length ≤ 3 := of_decide_eq_true h3
  have z1 : (1 : Int) ≤ ((ds.map Pv.dat).length : Nat) := by rw [dats_len]; omega
  have z3 : ((ds.map Pv.dat).length : Int) ≤ (3 : Int) := by rw [dats_len]; omega
  walk_at "start"
  walk_at "go"
  refine vs_for (vi_list ?_)
  walk_at "goe"
  refine ⟨_, .bor, fun i ρ S => S = [] ∧ ∃ x, ρ = [some (.bor (ds.map .dat)), x], ⟨rfl, none, rfl⟩, ?_, ?_⟩
  · rintro i x ρ1 S1 e ⟨rfl, y, rfl⟩
    obtain ⟨d, hd, rfl⟩ := dats_get e
    have hs : stB d = true := List.all_eq_true.mp ha d (List.mem_of_getElem? hd)
    walk_at "goe"
    rw [hs]
    walk_at "goe"
    exact ⟨rfl, _, rfl⟩
  · rintro ρ1 S1 ⟨rfl, y, rfl⟩
    walk_at "go"
    refine vc_list (.inl .bor) (nobs_dats _) fun l => ?_
    exact fin_new List.mem_cons_self rfl
theorem fn_or {CX : CXT} {k : Nat} {f : Addr} {fd : FuncData} {ps : List Str} {sp1 sp2 : Sp} (F : FnOk P w K mg base CX k f fd ps sp1) (G : FnOk P w K mg base CX k f fd ps sp2) : FnOk P w K mg base CX k f fd ps (fun vs H Q E => sp1 vs H Q E ∨ sp2 vs H Q E) :=
  ⟨fun vs H Q E h => h.elim (F.len vs H Q E) (G.len vs H Q E), fun A outer s H args us vs Q E h1 h2 h3 h4 h => h.elim (F.run A outer s H args us vs Q E h1 h2 h3 h4) (G.run A outer s H args us vs Q E h1 h2 h3 h4)⟩
def sp_need_train (K : PySem.W.Frag) (C : Addr) : Sp := fun vs H Q E => sp_need_trainD K C vs H Q E ∨ sp_need_trainL K vs H Q E
theorem ok_need_train (T : Tx K mg) : FnOk P w K mg base (L2N.CX P w) 4 T.f_need_train T.d_need_train ["thing"] (sp_need_train K T.C_BadTrain) := fn_or (ok_need_trainD T) (ok_need_trainL T)
section
variable {c : Cn} {ρ : Slots} {S : Store} {Φ : Pv → Store → Prop} {E : XK} {C : Addr}
theorem vc_need_trainL {x : Pv} {ds : List D} (hx : AxOf S x (.l ds)) (hp : trB ds = true) (h : ∀ l, Φ (ptr l) ((l, .lst (ds.map .dat)) :: S)) : VC c ρ (fun vs H Q => sp_need_train c.K C vs H Q E) [x] S Φ := fun A B F H σ en er vs vx Q q =>
  .inr (vc_new (args := fun ds : List D => [.l ds]) (pre := fun ds => trB ds = true) (f := id) (E := E) ds (.cons hx .nil) hp h A B F H σ en er vs vx Q q)
theorem vc_need_trainD {d : D} (hE : E = c.E) (h : ∀ ds l, d = .list ds → trB ds = true → Φ (ptr l) ((l, .lst (ds.map .dat)) :: S)) (hx : trG d = false → c.X (.ref C)) : VC c ρ (fun vs H Q => sp_need_train c.K C vs H Q E) [.dat d] S Φ := fun A B F H σ en er vs vx Q q =>
  .inl (vc_spW (E := E) d (.cons .dat .nil) trivial (fun x S1 h1 => by obtain ⟨ds, e, g, l, rfl, rfl⟩ := h1; exact h ds l e g) (fun e he => by obtain ⟨h1, rfl⟩ := he; exact ⟨hx h1, hE⟩) A B F H σ en er vs vx Q q)
theorem vc_need_bad {d : D} (hE : E = c.E) (hd : trG d = false) (hx : c.X (.ref C)) : VC c ρ (fun vs H Q => sp_need_train c.K C vs H Q E) [.dat d] S Φ := vc_need_trainD hE (fun ds l e g => by subst e; have hd : trB ds = false := hd; rw [g] at hd; cases hd) fun _ => hx
end

/-! ### trains by their teeth -/
abbrev stageD (ws : List Int) : D := .tuple (ws.map .int)
def trainD (t : List (List Int)) : List D := t.map stageD
structure GdS (ws : List Int) : Prop where
  lo : 2 ≤ ws.length
  hi : ws.length ≤ 5
  w : ∀ x ∈ ws, 2 ≤ x ∧ x ≤ 60
structure Gd (t : List (List Int)) : Prop where
  lo : 1 ≤ t.length
  hi : t.length ≤ 3
  st : ∀ ws ∈ t, GdS ws
theorem GdS.ok {ws : List Int} (g : GdS ws) : stB (stageD ws) = true := by
  show (decide (2 ≤ (ws.map PyData.int).length) && decide ((ws.map PyData.int).length ≤ 5) && (ws.map PyData.int).all (inR 2 60)) = true
  rw [List.length_map, decide_eq_true g.lo, decide_eq_true g.hi, List.all_map]
  show ws.all _ = true
  rw [List.all_eq_true]
  intro x hx
  show (decide (2 ≤ x) && decide (x ≤ 60)) = true
  rw [decide_eq_true (g.w x hx).1, decide_eq_true (g.w x hx).2]
  rfl
theorem Gd.ok {t : List (List Int)} (g : Gd t) : trB (trainD t) = true := by
  unfold trB trainD
  rw [List.length_map, decide_eq_true g.lo, decide_eq_true g.hi]
  show (t.map stageD).all stB = true
  rw [List.all_map, List.all_eq_true]
  exact fun ws hw => (g.st ws hw).ok

/-! ### _law_mixed, _law_train -/
def mix (z k : Int) : Int := ((z + 1) * 48271 + 7919 * k) * 48271 % 2147483647
def sp__law_mixed (K : PySem.W.Frag) : Sp := spW K (fun p : Int × Int => [.d (.int p.1), .d (.int p.2)]) (fun _ => True) (Ret fun p => .int (mix p.1 p.2)) nox
theorem ok__law_mixed (T : Tx K mg) : FnOk P w K mg base CX0 1 T.f__law_mixed T.d__law_mixed ["_law_cell", "_law_k"] (sp__law_mixed K) := by
  refine T.F__law_mixed.ok sc__law_mixed (spW_len fun _ => rfl) (fun cdv A outer s H vs Q E hr h => ?_)
  refine ⟨_, (pss_one (ps_ret (pe_op op_mod (pe_op op_times (pe_op (op_plusK (K := K) rfl) (pe_op op_times (pe_op (op_plusK (K := K) rfl) (pv 0) pe_int) pe_int) (pe_op op_times pe_int (pv 1))) pe_int) pe_int))), body_of h fun p hp => ?_⟩
  obtain ⟨z, k⟩ := p
  walk_at "start"
  walk_at "go"
  exact fin_ret rfl
section
variable {c : Cn} {ρ : Slots} {S : Store} {Φ : Pv → Store → Prop} {E : XK}
theorem vc__law_mixed {z k : Int} (h : Φ (.dat (.int (mix z k))) S) : VC c ρ (fun vs H Q => sp__law_mixed c.K vs H Q E) [.dat (.int z), .dat (.int k)] S Φ := vc_ret (z, k) (.cons .dat (.cons .dat .nil)) trivial h
end
local macro_rules | `(tactic| walk_at "own") => `(tactic| with_reducible refine vc__law_mixed ?_)
theorem tupP_dats (ds : List D) : tupP (ds.map .dat) = .dat (.tuple ds) := by
  unfold tupP
  rw [dats_map]
/-- the law's train -/
def ltSize (cell more : Int) (s : Nat) : Int := if cell / 3 % 3 > 0 then 2 + mix more (97 + s) % 4 else 2
def ltStage (cell more : Int) (s : Nat) : List Int := (List.range (ltSize cell more s).toNat).map fun (k : Nat) => 2 + mix more (11 * s + k) / 7 % (59 - cell / 9 % 2 * 50)
def ltTrain (cell more : Int) : List (List Int) := (List.range (1 + cell % 3).toNat).map (ltStage cell more)
theorem ltSize_in (cell more : Int) (s : Nat) : 2 ≤ ltSize cell more s ∧ ltSize cell more s ≤ 5 := by
  unfold ltSize
  split
  · have := mod_in (mix more (97 + s)) (n := 4) (by decide)
    omega
  · omega
theorem ltTrain_gd (cell more : Int) : Gd (ltTrain cell more) := by
  have h3 := mod_in cell (n := 3) (by decide)
  refine ⟨?_, ?_, fun ws hw => ?_⟩
  · unfold ltTrain
    rw [List.length_map, List.length_range]
    omega
  · unfold ltTrain
    rw [List.length_map, List.length_range]
    omega
  · unfold ltTrain at hw
    obtain ⟨s, _, rfl⟩ := List.mem_map.mp hw
    have hs := ltSize_in cell more s
    refine ⟨?_, ?_, fun x hx => ?_⟩
    · unfold ltStage
      rw [List.length_map, List.length_range]
      omega
    · unfold ltStage
      rw [List.length_map, List.length_range]
      omega
    · unfold ltStage at hx
      obtain ⟨k, _, rfl⟩ := List.mem_map.mp hx
      have h2 := mod_in (cell / 9) (n := 2) (by decide)
      have h59 := mod_in (mix more (11 * s + k) / 7) (n := 59 - cell / 9 % 2 * 50) (by omega)
      omega
def sp__law_train (K : PySem.W.Frag) : Sp := spW K (fun p : Int × Int => [.d (.int p.1), .d (.int p.2)]) (fun _ => True) (NewL fun p => trainD (ltTrain p.1 p.2)) nox
theorem ok__law_train (T : Tx K mg) : FnOk P w K mg base CX0 2 T.f__law_train T.d__law_train ["_law_cell", "_law_more"] (sp__law_train K) := by
  refine T.F__law_train.ok sc__law_train (spW_len fun _ => rfl) (fun cdv A outer s H vs Q E hr h => ?_)
  refine ⟨_, (pss_cons (ps_set (i := 2) sc__law_train.nd rfl (Or.inl rfl) (pe_lst pa_nil))
      (pss_cons (ps_for PassesOwn.never rfl (pi_range1 (by rfl) T.z_range (pa_cons (pe_op (op_plusK (K := K) rfl) pe_int (pe_op op_mod (pv 0) pe_int)) pa_nil)) (pg_name (i := 3) sc__law_train.nd rfl (Or.inr rfl))
      (pss_cons (ps_set (i := 4) sc__law_train.nd rfl (Or.inl rfl) pe_int)
      (pss_cons (ps_if (pt_cmpR op_gt (pe_op op_mod (pe_op op_fdivW (pv 0) pe_int) pe_int) pe_int (nomark _))
      (pss_one (ps_set (i := 4) sc__law_train.nd rfl (Or.inl rfl) (pe_op (op_plusK (K := K) rfl) pe_int (pe_op op_mod (pe_call (ok__law_mixed T) (hr.mono (by decide)) (by rfl) T.g__law_mixed T.F__law_mixed.kp T.b__law_mixed .nil pass0 (pa_cons (pv 1) (pa_cons (pe_op (op_plusK (K := K) rfl) pe_int (pv 3)) pa_nil))) pe_int))))
      pss_nil)
      (pss_cons (ps_set (i := 5) sc__law_train.nd rfl (Or.inr rfl) (pe_op op_times (pe_op op_mod (pe_op op_fdivW (pv 0) pe_int) pe_int) pe_int))
      (pss_one (ps_expr (pe_bmK (K := K) rfl (pe_bm PySem.F.plainAttrs_list PySem.F.slot_list_append PySem.F.type_list_append mt_append (pv 2) (pa_cons (pe_callTy (call_tupleK (K := K) rfl) (by rfl) T.z_tuple (by decide +kernel) (pa_cons (pe_lc (own := [("_law_k", 6)]) rfl sc__law_train.nd (pi_range1 (by rfl) T.z_range (pa_cons (pv 4) pa_nil)) (blkOk_by (own := [("_law_k", 6)]) (N := N__law_train) (sc := defScope s__law_train) (by decide +kernel)) (fun _ _ _ _ _ => (pg_name (i := 6) sc__law_train.nd rfl (Or.inl rfl))) (fun _ _ _ _ _ => pts_nil) (fun _ _ _ _ _ => (pe_op (op_plusK (K := K) rfl) pe_int (pe_op op_mod (pe_op op_fdivW (pe_call (ok__law_mixed T) (hr.mono (by decide)) (by rfl) T.g__law_mixed T.F__law_mixed.kp T.b__law_mixed .nil pass0 (pa_cons (pv 1) (pa_cons (pe_op (op_plusK (K := K) rfl) (pe_op op_times pe_int (pv 3)) (pv 6)) pa_nil))) pe_int) (pe_op op_sub pe_int (pv 5)))))) pa_nil)) pa_nil)))))))))
      (pss_one (ps_ret (pv 2))))), body_of h fun p hp => ?_⟩
  obtain ⟨cell, more⟩ := p
  have h3 := mod_in cell (n := 3) (by decide)
  have c3 : CDivW cell 3 := cdw (by decide) (by decide)
  have c9 : CDivW cell 9 := cdw (by decide) (by decide)
  have h2 := mod_in (cell / 9) (n := 2) (by decide)
  walk_at "start"
  refine vs_seq (vs_set (ve_lst0 fun l => ?_))
  walk_at "norm"
  refine vs_seq (vs_for (vi_range1 ?_))
  walk_at "goe"
  refine ⟨by omega, by omega, fun i ρ S => ∃ a b c d, ρ = [some (.dat (.int cell)), some (.dat (.int more)), some (ptr l), a, b, c, d] ∧ S = [(l, Cell.lst ((((List.range i).map (ltStage cell more)).map stageD).map Pv.dat))], ⟨_, _, _, _, rfl, rfl⟩, ?_, ?_⟩
  · rintro i x ρ1 S1 e ⟨a, b, c, d, rfl, rfl⟩
    obtain ⟨hi, rfl⟩ := rngP_get e
    rw [Int.zero_add]
    walk_at "goe"
    refine vs_wk ?_
    walk_at "st"
    refine vs_cut (fun ρ S => ρ = [some (.dat (.int cell)), some (.dat (.int more)), some (ptr l), some (.dat (.int i)), some (.dat (.int (ltSize cell more i))), c, d] ∧ S = [(l, Cell.lst ((((List.range i).map (ltStage cell more)).map stageD).map Pv.dat))]) ?_ ?_
    · walk_at "goe"
      refine br_d (fun hb => ?_) fun hb => ?_
      · walk_at "go"
        refine ⟨?_, rfl⟩
        unfold ltSize
        rw [if_pos hb]
      · walk_at "go"
        refine ⟨?_, rfl⟩
        unfold ltSize
        rw [if_neg hb]
    rintro ρ1 S1 ⟨rfl, rfl⟩
    have hs := ltSize_in cell more i
    walk_at "st"
    walk_at "goe"
    refine ve_lcm (by decide) (vi_range1 ?_)
    walk_at "goe"
    refine ⟨by omega, by omega, ((ltStage cell more i).map PyData.int).map Pv.dat, ?_, ?_, ?_, fun p => ?_⟩
    · rw [List.length_map, List.length_map, rngP_length]
      unfold ltStage
      rw [List.length_map, List.length_range]
    · rw [List.length_map, List.length_map]
      unfold ltStage
      rw [List.length_map, List.length_range]
      omega
    · intro k x e
      obtain ⟨hk, rfl⟩ := rngP_get e
      rw [Int.zero_add]
      have c7 : CDivW (mix more (11 * (i : Int) + (k : Int))) 7 := cdw (by decide) (by decide)
      have p59 : 0 < 59 - cell / 9 % 2 * 50 := by omega
      show VE _ [some (.dat (.int cell)), some (.dat (.int more)), some (ptr l), some (.dat (.int i)), some (.dat (.int (ltSize cell more i))), some (.dat (.int (cell / 9 % 2 * 50))), some (.dat (.int k))] _ _ _
      walk_at "goe"
      refine ⟨rfl, rfl, ?_⟩
      rw [List.getElem?_map, List.getElem?_map]
      unfold ltStage
      rw [List.getElem?_map, List.getElem?_range hk]
      rfl
    · walk_at "goe"
      refine vc_tupleL (.own (by walk_at "mem")) ?_
      rw [tupP_dats]
      refine ⟨1, _, rfl, rfl, ?_, ?_⟩
      · rw [List.length_map, List.length_map, List.length_map, List.length_range]
        omega
      · refine ⟨[(l, Cell.lst ((((List.range (i + 1)).map (ltStage cell more)).map stageD).map Pv.dat))], .sub ?_, _, _, _, _, rfl, rfl⟩
        rw [map_range_succ, List.map_append, List.map_append]
        exact List.Sublist.cons _ (List.Sublist.refl _)
  · rintro ρ1 S1 ⟨a, b, c, d, rfl, rfl⟩
    walk_at "go"
    refine fin_new (by walk_at "mem") ?_
    rw [rngP_length]
    rfl
section
variable {c : Cn} {ρ : Slots} {S : Store} {Φ : Pv → Store → Prop} {E : XK}
theorem vc__law_train {z k : Int} (h : ∀ l, Φ (ptr l) ((l, .lst ((trainD (ltTrain z k)).map .dat)) :: S)) : VC c ρ (fun vs H Q => sp__law_train c.K vs H Q E) [.dat (.int z), .dat (.int k)] S Φ :=
  vc_new (z, k) (.cons .dat (.cons .dat .nil)) trivial h
end

/-! ### _law_kinds, within an except suite -/
structure KnOf (T : Tx K mg) (D : Addr) (ks : List Bool) : Prop where
  ex : ExcC K D
  bs : ∃ b0 b1 b2 b3 b4 b5 b6 b7 b8 : Bool, PySem.W.kitOne K (.ref D) (.ref T.C_BadRatio) = some b0 ∧ PySem.W.kitOne K (.ref D) (.ref T.C_BadTrain) = some b1 ∧ PySem.W.kitOne K (.ref D) (.ref T.C_BadShop) = some b2 ∧ PySem.W.kitOne K (.ref D) (.ref T.C_BadPairs) = some b3 ∧
    PySem.W.kitOne K (.ref D) (.ref T.C_BadPlace) = some b4 ∧ PySem.W.kitOne K (.ref D) (.ref T.C_BadWheel) = some b5 ∧ PySem.W.kitOne K (.ref D) (.ref T.C_TooLong) = some b6 ∧ PySem.W.kitOne K (.ref D) (.ref T.C_NoText) = some b7 ∧
    PySem.W.kitOne K (.ref D) (.type "ValueError") = some b8 ∧ ks = [b0, b1, b2, b3, b4, b5, b6, b7, b8]
def spK (K : PySem.W.Frag) (a : Addr) (ks : List Bool) : Sp := spW K (fun _ : Unit => [.v (.ref a)]) (fun _ => True) (NewL fun _ => ks.map .bool) nox
def sp__law_kinds (K : PySem.W.Frag) (a : Addr) (cls : Value) (d : Option Addr) (kn : Addr → List Bool → Prop) : Sp := fun vs H Q E => ∃ D ks, cls = .ref D ∧ d = none ∧ kn D ks ∧ spK K a ks vs H Q E
theorem okQ__law_kinds (T : Tx K mg) {a : Addr} {oe : Obj} {cls : Value} {d : Option Addr} (hz : Zc cls d oe) (hf : ∃ vs, oe.data = .fields vs) : FnQ P w K mg base 1 T.f__law_kinds T.d__law_kinds ["_law_e"] (sp__law_kinds K a cls d (KnOf T)) (a, oe) := by
  refine okQ T.F__law_kinds sc__law_kinds (fun vs H Q E ⟨_, _, _, _, _, h⟩ => spW_len (n := 1) (fun _ => rfl) vs H Q E h) (fun cdv A outer s H vs Q E hr h => ?_)
  obtain ⟨D, ks, e1, e2, hk, h⟩ := h
  have hcl : oe.cls = .ref D := hz.1.trans e1
  have hdn : oe.dict = none := hz.2.trans e2
  have hex := hk.ex
  obtain ⟨b0, b1, b2, b3, b4, b5, b6, b7, b8, k0, k1, k2, k3, k4, k5, k6, k7, k8, rfl⟩ := hk.bs
  unfold spK at h
  refine ⟨_, (pss_cons (ps_set (i := 1) sc__law_kinds.nd rfl (Or.inl rfl) (pe_lst (pa_cons (pe_callB (call_isPK (K := K) rfl hex (List.mem_singleton_self _) hcl hdn hf) (by rfl) T.z_isinstance (by decide +kernel) (pa_cons (pv 0) (pa_cons (pe_glob (v := .ref T.C_BadRatio) (by rfl) T.g_BadRatio rfl) pa_nil))) (pa_cons (pe_callB (call_isPK (K := K) rfl hex (List.mem_singleton_self _) hcl hdn hf) (by rfl) T.z_isinstance (by decide +kernel) (pa_cons (pv 0) (pa_cons (pe_glob (v := .ref T.C_BadTrain) (by rfl) T.g_BadTrain rfl) pa_nil))) (pa_cons (pe_callB (call_isPK (K := K) rfl hex (List.mem_singleton_self _) hcl hdn hf) (by rfl) T.z_isinstance (by decide +kernel) (pa_cons (pv 0) (pa_cons (pe_glob (v := .ref T.C_BadShop) (by rfl) T.g_BadShop rfl) pa_nil))) (pa_cons (pe_callB (call_isPK (K := K) rfl hex (List.mem_singleton_self _) hcl hdn hf) (by rfl) T.z_isinstance (by decide +kernel) (pa_cons (pv 0) (pa_cons (pe_glob (v := .ref T.C_BadPairs) (by rfl) T.g_BadPairs rfl) pa_nil))) pa_nil))))))
      (pss_cons (ps_set (i := 1) sc__law_kinds.nd rfl (Or.inl rfl) (pe_op (op_plusK (K := K) rfl) (pv 1) (pe_lst (pa_cons (pe_callB (call_isPK (K := K) rfl hex (List.mem_singleton_self _) hcl hdn hf) (by rfl) T.z_isinstance (by decide +kernel) (pa_cons (pv 0) (pa_cons (pe_glob (v := .ref T.C_BadPlace) (by rfl) T.g_BadPlace rfl) pa_nil))) (pa_cons (pe_callB (call_isPK (K := K) rfl hex (List.mem_singleton_self _) hcl hdn hf) (by rfl) T.z_isinstance (by decide +kernel) (pa_cons (pv 0) (pa_cons (pe_glob (v := .ref T.C_BadWheel) (by rfl) T.g_BadWheel rfl) pa_nil))) (pa_cons (pe_callB (call_isPK (K := K) rfl hex (List.mem_singleton_self _) hcl hdn hf) (by rfl) T.z_isinstance (by decide +kernel) (pa_cons (pv 0) (pa_cons (pe_glob (v := .ref T.C_TooLong) (by rfl) T.g_TooLong rfl) pa_nil))) (pa_cons (pe_callB (call_isPK (K := K) rfl hex (List.mem_singleton_self _) hcl hdn hf) (by rfl) T.z_isinstance (by decide +kernel) (pa_cons (pv 0) (pa_cons (pe_glob (v := .ref T.C_NoText) (by rfl) T.g_NoText rfl) pa_nil))) pa_nil)))))))
      (pss_one (ps_ret (pe_op (op_plusK (K := K) rfl) (pv 1) (pe_lst (pa_cons (pe_callB (call_isPK (K := K) rfl hex (List.mem_singleton_self _) hcl hdn hf) (by rfl) T.z_isinstance (by decide +kernel) (pa_cons (pv 0) (pa_cons (pe_bltn (v := .ty "ValueError") (by rfl) T.z_ValueError (by decide +kernel) rfl) pa_nil))) pa_nil))))))), body_of h fun _ _ => ?_⟩
  walk_at "start"
  walk_at "st"
  refine vc_isE k0 ?_
  walk_at "goe"
  refine vc_isE k1 ?_
  walk_at "goe"
  refine vc_isE k2 ?_
  walk_at "goe"
  refine vc_isE k3 ?_
  walk_at "goe"
  walk_at "st"
  refine vc_isE k4 ?_
  walk_at "goe"
  refine vc_isE k5 ?_
  walk_at "goe"
  refine vc_isE k6 ?_
  walk_at "goe"
  refine vc_isE k7 ?_
  walk_at "goe"
  refine vr_plusL .dat .dat (by exact Nat.le_of_ble_eq_true rfl) fun l1 => ?_
  walk_at "goe"
  refine vc_isEb k8 ?_
  walk_at "goe"
  refine vr_plusL (.own (by walk_at "mem")) .dat (by exact Nat.le_of_ble_eq_true rfl) fun l2 => ?_
  exact fin_new List.mem_cons_self rfl
section
variable {c : Cn} {ρ : Slots} {S : Store} {Φ : Pv → Store → Prop} {E : XK}
theorem vc__law_kinds {a D : Addr} {kn : Addr → List Bool → Prop} {ks : List Bool} (hk : kn D ks) (h : ∀ l, Φ (ptr l) ((l, .lst ((ks.map PyData.bool).map .dat)) :: S)) : VC c ρ (fun vs H Q => sp__law_kinds c.K a (.ref D) none kn vs H Q E) [ptr a] S Φ := fun A B F H σ en er vs vx Q q =>
  ⟨D, ks, rfl, rfl, hk, vc_new (args := fun _ : Unit => [.v (.ref a)]) (f := fun _ => ks.map .bool) (E := E) (pre := fun _ => True) () (.cons .val .nil) trivial h A B F H σ en er vs vx Q q⟩
end

/-! ### the kinds -/
def bits (i j : Int) : List Bool := (List.range 9).map fun (k : Nat) => [i, j].any fun z => decide (z = (0 : Int) + (k : Int))
theorem kn_NoText (T : Tx K mg) : KnOf T T.C_NoText (bits 7 8) :=
  ⟨⟨T.a1_NoText, T.a2_NoText, T.r_NoText, T.a3_NoText, T.a4_NoText, T.q_spec, T.q_takes, T.a5_NoText⟩, false, false, false, false, false, false, false, true, true,
    kit_ref T.s_NoText_NoText T.i_BadRatio T.t_BadRatio T.s_NoText_BadRatio, kit_ref T.s_NoText_NoText T.i_BadTrain T.t_BadTrain T.s_NoText_BadTrain, kit_ref T.s_NoText_NoText T.i_BadShop T.t_BadShop T.s_NoText_BadShop, kit_ref T.s_NoText_NoText T.i_BadPairs T.t_BadPairs T.s_NoText_BadPairs, kit_ref T.s_NoText_NoText T.i_BadPlace T.t_BadPlace T.s_NoText_BadPlace, kit_ref T.s_NoText_NoText T.i_BadWheel T.t_BadWheel T.s_NoText_BadWheel, kit_ref T.s_NoText_NoText T.i_TooLong T.t_TooLong T.s_NoText_TooLong, kit_ref T.s_NoText_NoText T.i_NoText T.t_NoText T.s_NoText_NoText, kit_val T.v_NoText, by decide⟩
theorem kn_BadTrain (T : Tx K mg) : KnOf T T.C_BadTrain (bits 1 8) :=
  ⟨⟨T.a1_BadTrain, T.a2_BadTrain, T.r_BadTrain, T.a3_BadTrain, T.a4_BadTrain, T.q_spec, T.q_takes, T.a5_BadTrain⟩, false, true, false, false, false, false, false, false, true,
    kit_ref T.s_BadTrain_BadTrain T.i_BadRatio T.t_BadRatio T.s_BadTrain_BadRatio, kit_ref T.s_BadTrain_BadTrain T.i_BadTrain T.t_BadTrain T.s_BadTrain_BadTrain, kit_ref T.s_BadTrain_BadTrain T.i_BadShop T.t_BadShop T.s_BadTrain_BadShop, kit_ref T.s_BadTrain_BadTrain T.i_BadPairs T.t_BadPairs T.s_BadTrain_BadPairs, kit_ref T.s_BadTrain_BadTrain T.i_BadPlace T.t_BadPlace T.s_BadTrain_BadPlace, kit_ref T.s_BadTrain_BadTrain T.i_BadWheel T.t_BadWheel T.s_BadTrain_BadWheel, kit_ref T.s_BadTrain_BadTrain T.i_TooLong T.t_TooLong T.s_BadTrain_TooLong, kit_ref T.s_BadTrain_BadTrain T.i_NoText T.t_NoText T.s_BadTrain_NoText, kit_val T.v_BadTrain, by decide⟩

theorem train_len (t : List (List Int)) : ((trainD t).map Pv.dat).length = t.length := by unfold trainD; rw [List.length_map, List.length_map]
/-! ### written -/
def tos (i : Int) : Str := ((toString i : String) : Str)
def wst (ws : List Int) : Str := Txt.join ":" (ws.map tos)
def wrt (t : List (List Int)) : Str := Txt.join " " (t.map wst)
theorem wt_len : ∀ n < 59, (wt n).length ≤ 2 := by decide +kernel
theorem tos_len {i : Int} (h : 2 ≤ i ∧ i ≤ 60) : (tos i).length ≤ 2 := by
  obtain ⟨n, rfl⟩ : ∃ n : Nat, i = 2 + (n : Int) := ⟨(i - 2).toNat, by omega⟩
  exact wt_len n (by omega)
theorem sum_len {k : Nat} : ∀ {l : List Str}, (∀ x ∈ l, x.length ≤ k) → (l.map (·.length)).sum ≤ k * l.length
  | [], _ => by simp
  | x :: l, h => by
    have h1 := h x List.mem_cons_self
    have h2 := sum_len (l := l) fun y hy => h y (List.mem_cons_of_mem _ hy)
    rw [List.map_cons, List.sum_cons, List.length_cons, Nat.mul_succ]
    omega
theorem wst_len {ws : List Int} (g : GdS ws) : (wst ws).length ≤ 14 := by
  have h1 := sum_len (l := ws.map tos) (k := 2) fun x hx => by
    obtain ⟨i, hi, rfl⟩ := List.mem_map.mp hx
    exact tos_len (g.w i hi)
  have h2 := g.hi
  unfold wst Txt.join
  rw [size_glued]
  rw [List.length_map] at h1 ⊢
  show _ + (ws.length - 1) * 1 ≤ 14
  omega
theorem wrt_len {t : List (List Int)} (g : Gd t) : (wrt t).length ≤ 50 := by
  have h1 := sum_len (l := t.map wst) (k := 14) fun x hx => by
    obtain ⟨ws, hw, rfl⟩ := List.mem_map.mp hx
    exact wst_len (g.st ws hw)
  have h2 := g.hi
  unfold wrt Txt.join
  rw [size_glued]
  rw [List.length_map] at h1 ⊢
  show _ + (t.length - 1) * 1 ≤ 50
  omega
theorem ints_at {ws : List Int} {k : Nat} {x : Pv} (e : ((ws.map PyData.int).map Pv.dat)[k]? = some x) : ∃ i, ws[k]? = some i ∧ x = .dat (.int i) := by
  obtain ⟨d, hd, rfl⟩ := dats_get e
  rw [List.getElem?_map] at hd
  cases e1 : ws[k]? with
  | none => rw [e1] at hd; cases hd
  | some i => rw [e1] at hd; exact ⟨i, rfl, by rw [← Option.some.inj hd]⟩
theorem stages_at {t : List (List Int)} {k : Nat} {x : Pv} (e : ((trainD t).map Pv.dat)[k]? = some x) : ∃ ws, t[k]? = some ws ∧ x = .dat (stageD ws) := by
  obtain ⟨d, hd, rfl⟩ := dats_get e
  unfold trainD at hd
  rw [List.getElem?_map] at hd
  cases e1 : t[k]? with
  | none => rw [e1] at hd; cases hd
  | some ws => rw [e1] at hd; exact ⟨ws, rfl, by rw [← Option.some.inj hd]⟩
theorem log_small {i : Int} (h : 2 ≤ i ∧ i ≤ 60) : i.natAbs.log2 < 1920 := Nat.lt_of_lt_of_le (PySem.Flt.log2_lt_of (k := 6) (by decide) (by omega)) (by decide)
def sp_written_stage (K : PySem.W.Frag) : Sp := spW K (fun ws : List Int => [.d (stageD ws)]) GdS (Ret fun ws => .str (wst ws)) nox
theorem ok_written_stage (T : Tx K mg) : FnOk P w K mg base CX0 1 T.f_written_stage T.d_written_stage ["stage"] (sp_written_stage K) := by
  refine T.F_written_stage.ok sc_written_stage (spW_len fun _ => rfl) (fun cdv A outer s H vs Q E hr h => ?_)
  refine ⟨_, (pss_one (ps_ret (pe_joinK (K := K) rfl pe_str (pe_lc (own := [("teeth", 1)]) rfl sc_written_stage.nd (pi_tupK (K := K) rfl (pv 0)) (blkOk_by (own := [("teeth", 1)]) (N := N_written_stage) (sc := defScope s_written_stage) (by decide +kernel)) (fun _ _ _ _ _ => (pg_name (i := 1) sc_written_stage.nd rfl (Or.inl rfl))) (fun _ _ _ _ _ => pts_nil) (fun _ _ _ _ _ => (pe_callTy call_str_int (by rfl) T.z_str (by decide +kernel) (pa_cons (pv 1) pa_nil))))))), body_of h fun ws g => ?_⟩
  have g5 := g.hi
  walk_at "start"
  refine vs_ret (ve_m1 (ve_str ⟨_, rfl, ve_lcm (by decide) (vi_tup ?_)⟩))
  walk_at "goe"
  refine ⟨_, .dat, ((ws.map tos).map PyData.str).map Pv.dat, by simp, by simp; omega, ?_, fun p => ?_⟩
  · intro k x e
    obtain ⟨i, hi, rfl⟩ := ints_at e
    walk_at "goe"
    refine vc_strI (log_small (g.w i (List.mem_of_getElem? hi))) ⟨rfl, rfl, ?_⟩
    rw [List.getElem?_map, List.getElem?_map, List.getElem?_map, hi]
    rfl
  · refine vr_join (ys := ws.map tos) (.own List.mem_cons_self) ?_ (fin_ret rfl)
    have h1 := sum_len (l := ws.map tos) (k := 2) fun x hx => by
      obtain ⟨i, hi, rfl⟩ := List.mem_map.mp hx
      exact tos_len (g.w i hi)
    rw [List.length_map] at h1 ⊢
    show _ + ws.length * 1 ≤ 16777216
    omega
section
variable {c : Cn} {ρ : Slots} {S : Store} {Φ : Pv → Store → Prop} {E : XK}
theorem vc_written_stage {ws : List Int} (g : GdS ws) (h : Φ (.dat (.str (wst ws))) S) : VC c ρ (fun vs H Q => sp_written_stage c.K vs H Q E) [.dat (stageD ws)] S Φ := vc_ret ws (.cons .dat .nil) g h
end
def sp_written (K : PySem.W.Frag) : Sp := spW K (fun t : List (List Int) => [.l (trainD t)]) Gd (Ret fun t => .str (wrt t)) nox
theorem ok_written (T : Tx K mg) : FnOk P w K mg base (L2N.CX P w) 5 T.f_written T.d_written ["train"] (sp_written K) := by
  refine okN T.F_written sc_written (spW_len fun _ => rfl) (fun cdv A outer s H vs Q E hr h => ?_)
  refine ⟨_, (pss_one (ps_ret (pe_joinK (K := K) rfl pe_str (pe_lc (own := [("stage", 1)]) rfl sc_written.nd (pi_listK (K := K) rfl (pe_call (ok_need_train T) (hr.mono (by decide)) (by rfl) T.g_need_train T.F_need_train.kp T.b_need_train .nil (L2N.passes_call (L2N.takes_of rfl rfl rfl rfl) (fun _ _ _ _ h => h)) (pa_cons (pv 0) pa_nil))) (blkOk_by (own := [("stage", 1)]) (N := N_written) (sc := defScope s_written) (by decide +kernel)) (fun _ _ _ _ _ => (pg_name (i := 1) sc_written.nd rfl (Or.inl rfl))) (fun _ _ _ _ _ => pts_nil) (fun _ _ _ _ _ => (pe_call (ok_written_stage T) (hr.mono (by decide)) (by rfl) T.g_written_stage T.F_written_stage.kp T.b_written_stage .nil pass0 (pa_cons (pv 1) pa_nil))))))), body_of h fun t g => ?_⟩
  have g3 := g.hi
  walk_at "start"
  refine vs_ret (ve_m1 (ve_str ⟨_, rfl, ve_lcm (by decide) (vi_list (ve_freeze ?_))⟩))
  walk_at "goe"
  refine vc_need_trainL (.lst (.bor (nobs_dats _)) (dats_map _)) g.ok fun l => ?_
  refine ⟨0, l, _, _, rfl, rfl, dats_map _, _, .dat, ((t.map wst).map PyData.str).map Pv.dat, by simp [trainD], by simp; omega, ?_, fun p => ?_⟩
  · intro k x e
    obtain ⟨ws, hw, rfl⟩ := stages_at e
    walk_at "goe"
    refine vc_written_stage (g.st ws (List.mem_of_getElem? hw)) ⟨rfl, rfl, ?_⟩
    rw [List.getElem?_map, List.getElem?_map, List.getElem?_map, hw]
    rfl
  · refine vr_join (ys := t.map wst) (.own List.mem_cons_self) ?_ (fin_ret rfl)
    have h1 := sum_len (l := t.map wst) (k := 14) fun x hx => by
      obtain ⟨ws, hw, rfl⟩ := List.mem_map.mp hx
      exact wst_len (g.st ws hw)
    rw [List.length_map] at h1 ⊢
    show _ + t.length * 1 ≤ 16777216
    omega
section
variable {c : Cn} {ρ : Slots} {S : Store} {Φ : Pv → Store → Prop} {E : XK}
theorem vc_written {x : Pv} {t : List (List Int)} (hx : AxOf S x (.l (trainD t))) (g : Gd t) (h : Φ (.dat (.str (wrt t))) S) : VC c ρ (fun vs H Q => sp_written c.K vs H Q E) [x] S Φ := vc_ret t (.cons hx .nil) g h
end

/-! ### read_stage -/
def sp_read_stage (K : PySem.W.Frag) (C : Addr) : Sp := spW K (fun part : Str => [.d (.str part)]) (fun part => part.length ≤ 1000) (fun part x S => 0 ∉ wordsT part ∧ x = .dat (.tuple ((wordsT part).map .int)) ∧ S = []) (fun part e => 0 ∈ wordsT part ∧ e = .ref C)
theorem ok_read_stage (T : Tx K mg) : FnOk P w K mg base (L2N.CX P w) 1 T.f_read_stage T.d_read_stage ["part"] (sp_read_stage K T.C_NoText) := by
  refine okN T.F_read_stage sc_read_stage (spW_len fun _ => rfl) (fun cdv A outer s H vs Q E hr h => ?_)
  refine ⟨_, (pss_cons (ps_setDc (i := 1) (own := [("teeth", 4)]) rfl sc_read_stage.nd rfl rfl (sw_dict rfl rfl rfl (by decide +kernel)) (pi_range2 (by rfl) T.z_range (pa_cons (pe_glob (v := .int 2) (by rfl) T.c_LEAST_TEETH ⟨_, rfl⟩) (pa_cons (pe_op (op_plusK (K := K) rfl) (pe_glob (v := .int 60) (by rfl) T.c_MOST_TEETH ⟨_, rfl⟩) pe_int) pa_nil))) (blkOk_by (own := [("teeth", 4)]) (N := N_read_stage) (sc := defScope s_read_stage) (by decide +kernel)) (fun _ _ _ _ _ => (pg_name (i := 4) sc_read_stage.nd rfl (Or.inl rfl))) (fun _ _ _ _ _ => (pe_callTy call_str_int (by rfl) T.z_str (by decide +kernel) (pa_cons (pv 4) pa_nil))) (fun _ _ _ _ _ => (pv 4)))
      (pss_cons (ps_set (i := 2) sc_read_stage.nd rfl (Or.inl rfl) (pe_lst pa_nil))
      (pss_cons (ps_for (passes_of rfl) rfl (pi_listK (K := K) rfl (pe_split (pv 0) pe_str)) (pg_name (i := 3) sc_read_stage.nd rfl (Or.inl rfl))
      (pss_cons (ps_if (pt_cmp (pc_dnotin (hu_of hr) (pv 3) (pv 1)))
      (pss_one (L2N.ps_raise rfl (L2N.takes_of rfl rfl rfl rfl) (L2N.pmk_own PySem.F.excBase_ValueError T.x_NoText T.g_NoText T.k_NoText (raises_own T.r_NoText T.t_NoText) rfl)))
      pss_nil)
      (pss_one (ps_expr (pe_bmK (K := K) rfl (pe_bm PySem.F.plainAttrs_list PySem.F.slot_list_append PySem.F.type_list_append mt_append (pv 2) (pa_cons (pe_dget (hu_of hr) (pv 1) (pv 3) (fun _ _ => rfl)) pa_nil)))))))
      (pss_one (ps_ret (pe_callTy (call_tupleK (K := K) rfl) (by rfl) T.z_tuple (by decide +kernel) (pa_cons (pv 2) pa_nil))))))), body_of h fun part hp => ?_⟩
  have hp : part.length ≤ 1000 := hp
  walk_at "start"
  refine vs_seq (vs_set (ve_dcS (by decide) ?_))
  walk_at "goe"
  have n59 : ((60 : Int) + 1 - 2).toNat = 59 := rfl
  refine ⟨_, _, wt, fun i => 2 + (i : Int), Wh, rfl, by omega, by omega, by omega, by omega, ⟨Nat.le_refl 0, fun i h => absurd h (Nat.not_lt_zero i), fun w _ => rfl⟩, ?_, ?_, ?_, fun wd kvs hw => ?_⟩
  · intro i S2 hi
    rw [n59] at hi
    walk_at "goe"
    exact vc_strI (log_small (by omega)) ⟨rfl, rfl⟩
  · intro i S2 hi
    walk_at "goe"
    exact ⟨rfl, rfl⟩
  · intro i kvs hi hG
    rw [n59] at hi
    exact ⟨by have := hG.len; omega, wh_put hi hG⟩
  rw [n59] at hw
  refine vs_seq (vs_set (ve_lst0 fun ls => ?_))
  walk_at "norm"
  refine vs_seq (vs_for (vi_list (ve_freeze (ve_m1 ?_))))
  walk_at "goe"
  refine vr_split (by decide) (by rw [sizeLine_eq]; omega) fun p => ?_
  have hlen : (Txt.split part ":").length ≤ 1002 := Nat.le_trans (PyProof.Rows.split_le part ":") (by omega)
  refine ⟨0, p, _, _, rfl, rfl, dats_map _, _, .dat, fun i ρ S => ∃ x3, ρ = [some (.dat (.str part)), some (ptr wd), some (ptr ls), x3, none] ∧ S = [(ls, Cell.lst ((((wordsT part).take i).map PyData.int).map .dat)), (wd, Cell.dks kvs)] ∧ 0 ∉ (wordsT part).take i, ⟨_, rfl, rfl, List.not_mem_nil⟩, ?_, ?_⟩
  · rintro i x ρ1 S1 e ⟨x3, rfl, rfl, hno⟩
    obtain ⟨d, hd, rfl⟩ := dats_get e
    obtain ⟨word, hword, rfl⟩ : ∃ u, (Txt.split part ":")[i]? = some u ∧ d = .str u := by
      rw [List.getElem?_map] at hd
      cases e1 : (Txt.split part ":")[i]? with
      | none => rw [e1] at hd; cases hd
      | some u => rw [e1] at hd; exact ⟨u, rfl, by rw [← Option.some.inj hd]⟩
    have hi : i < (Txt.split part ":").length := (List.getElem?_eq_some_iff.mp hword).1
    have hwt : (wordsT part)[i]? = some (wheelOf word) := by
      unfold wordsT
      rw [List.getElem?_map, hword]
      rfl
    have hil : i < (wordsT part).length := (List.getElem?_eq_some_iff.mp hwt).1
    have htk : (wordsT part).take (i + 1) = (wordsT part).take i ++ [wheelOf word] := by
      rw [List.take_succ, hwt]
      rfl
    refine vg_name ?_
    walk_at "norm"
    refine vs_seq (vs_if (vt_B (ve_dnotinS ?_)))
    walk_at "goe"
    refine ⟨wd, kvs, word, rfl, rfl, List.mem_cons_of_mem _ List.mem_cons_self, _, rfl, ?_⟩
    rcases wh_val hw word with ⟨z, hv⟩ | ⟨z, _, hv⟩
    · rw [hv]
      refine br_t rfl ?_
      exact vs_raise T.C_NoText ⟨z ▸ List.mem_of_getElem? hwt, rfl⟩
    · rw [hv]
      refine br_f rfl (vs_next ?_)
      refine vs_app ?_
      walk_at "goe"
      refine ve_dgetS ?_
      walk_at "goe"
      refine ⟨wd, kvs, word, _, rfl, rfl, List.mem_cons_of_mem _ List.mem_cons_self, hv, 0, _, rfl, rfl, ?_, _, rfl, ?_, ?_⟩
      · rw [List.length_map, List.length_map, List.length_take]
        omega
      · rw [htk, List.map_append, List.map_append]
        rfl
      · rw [htk, List.mem_append, List.mem_singleton]
        exact fun y => y.elim hno fun y => z y.symm
  · rintro ρ1 S1 ⟨x3, rfl, rfl, hno⟩
    have hall : (wordsT part).take ((Txt.split part ":").map PyData.str |>.map Pv.dat).length = wordsT part := by
      rw [List.take_of_length_le]
      unfold wordsT
      rw [List.length_map, List.length_map, List.length_map]
      exact Nat.le_refl _
    rw [hall] at hno ⊢
    walk_at "goe"
    refine vc_tupleL (.own (by walk_at "mem")) ?_
    rw [tupP_dats]
    exact ⟨[], ⟨hno, rfl, rfl⟩, rfl, .sub (List.nil_sublist _)⟩
section
variable {c : Cn} {ρ : Slots} {S : Store} {Φ : Pv → Store → Prop} {E : XK} {C : Addr}
theorem vc_read_stage {part : Str} (hE : E = c.E) (hp : part.length ≤ 1000) (h : 0 ∉ wordsT part → Φ (.dat (stageD (wordsT part))) S) (hx : 0 ∈ wordsT part → c.X (.ref C)) : VC c ρ (fun vs H Q => sp_read_stage c.K C vs H Q E) [.dat (.str part)] S Φ :=
  vc_spW part (.cons .dat .nil) hp (fun x S1 h1 => by obtain ⟨hn, rfl, rfl⟩ := h1; exact h hn) fun e he => by obtain ⟨hz, rfl⟩ := he; exact ⟨hx hz, hE⟩
end
/-! ### read -/
theorem OkT.gd {tx : Str} (h : OkT (rdT tx)) : Gd (rdT tx) := by
  refine ⟨?_, h.1, fun ws hw => ?_⟩
  · unfold rdT
    rw [List.length_map]
    exact List.length_pos_iff.mpr (split_ne _ _)
  · have k := h.2 ws hw
    refine ⟨k.2.1, k.2.2, fun x hx => ?_⟩
    unfold rdT at hw
    obtain ⟨part, _, rfl⟩ := List.mem_map.mp hw
    rcases wordsT_in hx with z | z
    · subst z
      exact absurd hx k.1
    · exact z
theorem OkT.of {tx : Str} (h : trB (trainD (rdT tx)) = true) : OkT (rdT tx) := by
  have h : (decide (1 ≤ (trainD (rdT tx)).length) && decide ((trainD (rdT tx)).length ≤ 3) && (trainD (rdT tx)).all stB) = true := h
  rw [Bool.and_eq_true, Bool.and_eq_true] at h
  obtain ⟨⟨_, h3⟩, ha⟩ := h
  have h3 := of_decide_eq_true h3
  unfold trainD at h3 ha
  rw [List.length_map] at h3
  refine ⟨h3, fun ws hw => ?_⟩
  have k : (decide (2 ≤ (ws.map PyData.int).length) && decide ((ws.map PyData.int).length ≤ 5) && (ws.map PyData.int).all (inR 2 60)) = true := List.all_eq_true.mp ha (stageD ws) (List.mem_map.mpr ⟨ws, hw, rfl⟩)
  rw [Bool.and_eq_true, Bool.and_eq_true, List.length_map] at k
  obtain ⟨⟨k1, k2⟩, k3⟩ := k
  refine ⟨fun z => ?_, of_decide_eq_true k1, of_decide_eq_true k2⟩
  have := List.all_eq_true.mp k3 (.int 0) (List.mem_map.mpr ⟨0, z, rfl⟩)
  exact absurd this (by decide)
def GdX (d : D) : Prop := ∃ tx, d = .str tx ∧ OkT (rdT tx)
theorem GdX.str {tx : Str} (h : GdX (.str tx)) : OkT (rdT tx) := by
  obtain ⟨_, e, k⟩ := h
  cases e
  exact k
def sp_read (K : PySem.W.Frag) (C : Addr) : Sp := spW K (fun d : D => [.d d]) (fun d => ∀ tx, d = .str tx → tx.length ≤ 1000) (fun d x S => ∃ tx, d = .str tx ∧ OkT (rdT tx) ∧ ∃ l, x = ptr l ∧ S = [(l, Cell.lst ((trainD (rdT tx)).map .dat))]) (fun d e => ¬ GdX d ∧ e = .ref C)
namespace RD
theorem ok_need_train (T : Tx K mg) : FnOk P w K mg base (L2N.CX P w) 4 T.f_need_train T.d_need_train ["thing"] (sp_need_trainD K T.C_BadTrain) := ok_need_trainD T
theorem ok_read (T : Tx K mg) : FnOk P w K mg base (L2.CX P w) 5 T.f_read T.d_read ["text"] (sp_read K T.C_NoText) := by
  refine okC T.F_read sc_read (spW_len fun _ => rfl) (fun cdv A outer s H vs Q E hr h => ?_)
  refine ⟨_, (pss_cons (ps_if (pt_not (pt_val (pe_callB (call_isiK (K := K) rfl) (by rfl) T.z_isinstance (by decide +kernel) (pa_cons (pv 0) (pa_cons (pe_bltn (v := .ty "str") (by rfl) T.z_str (by decide +kernel) rfl) pa_nil)))))
      (pss_one (L2N.ps_raise rfl (takes_NC (L2.takes_of rfl rfl rfl rfl)) (L2N.pmk_own PySem.F.excBase_ValueError T.x_NoText T.g_NoText T.k_NoText (raises_own T.r_NoText T.t_NoText) rfl)))
      pss_nil)
      (pss_cons (ps_setLcX (W := fun cls d _ H => E cls d H) (E := E) (own := [("part", 2)]) (i := 1) rfl sc_read.nd rfl rfl (sw_true rfl rfl rfl (by decide +kernel)) rfl rfl (L2.takes_of rfl rfl rfl rfl) (fun _ _ _ _ h => h) (pi_listK (K := K) rfl (pe_split (pv 0) pe_str)) (blkOk_by (own := [("part", 2)]) (N := N_read) (sc := defScope s_read) (by decide +kernel)) (fun _ _ _ _ _ => (pg_name (i := 2) sc_read.nd rfl (Or.inl rfl))) (fun _ _ _ _ _ psB => (pe_call (ok_read_stage T) (hr.mono (by decide)) (by rfl) T.g_read_stage T.F_read_stage.kp T.b_read_stage .nil psB (pa_cons (pv 2) pa_nil))))
      (pss_one (ps_try_onlyX rfl rfl ⟨rfl, by decide, .inl T.g_BadTrain⟩ (passesAt_of rfl) (L2.takes_of rfl rfl rfl rfl) (fun W pn xe tk _ _ => (pss_one (ps_ret (pe_callS (ok_need_train T) (hr.mono (by decide)) (by rfl) T.g_need_train T.F_need_train.kp T.b_need_train (fun σ => L2N.passAt tk σ) (pa_cons (pv 1) pa_nil)))))
      (fun a oe cls d pn hz hf tkS hot => (pss_one (ps_raiseHN hot tkS (pmk5_expr PySem.F.excBase_ValueError T.x_NoText T.g_NoText T.k_NoText (raises_own T.r_NoText T.t_NoText) rfl pe_str)))))))), body_of h fun d hp => ?_⟩
  have hp : ∀ tx, d = .str tx → tx.length ≤ 1000 := hp
  cases d with
  | str tx =>
    have hp := hp tx rfl
    walk_at "start"
    walk_at "st"
    refine vs_seq (vs_set (ve_freeze (ve_lcm (by decide) (vi_list (ve_freeze (ve_m1 ?_))))))
    walk_at "goe"
    refine vr_split (by decide) (by rw [sizeLine_eq]; omega) fun p => ?_
    have hlen : (Txt.split tx " ").length ≤ 1002 := Nat.le_trans (PyProof.Rows.split_le tx " ") (by omega)
    have hne : (trainD (rdT tx)).length = (Txt.split tx " ").length := by
      unfold trainD rdT
      rw [List.length_map, List.length_map]
    refine ⟨0, p, _, _, rfl, rfl, dats_map _, _, .dat, (trainD (rdT tx)).map Pv.dat, ?_, ?_, ?_, fun q => ?_⟩
    · rw [List.length_map, List.length_map, List.length_map, hne]
    · rw [List.length_map, hne]
      omega
    · intro k x e
      obtain ⟨d, hd, rfl⟩ := dats_get e
      obtain ⟨part, hpart, rfl⟩ : ∃ u, (Txt.split tx " ")[k]? = some u ∧ d = .str u := by
        rw [List.getElem?_map] at hd
        cases e1 : (Txt.split tx " ")[k]? with
        | none => rw [e1] at hd; cases hd
        | some u => rw [e1] at hd; exact ⟨u, rfl, by rw [← Option.some.inj hd]⟩
      have hin := List.mem_of_getElem? hpart
      walk_at "goe"
      refine vc_read_stage rfl (Nat.le_trans (split_part hin) hp) (fun hn => ⟨rfl, rfl, ?_⟩) fun hz => ⟨fun g => ?_, rfl⟩
      · unfold trainD rdT
        rw [List.getElem?_map, List.getElem?_map, List.getElem?_map, hpart]
        rfl
      · exact (g.str.2 _ (List.mem_map.mpr ⟨part, hin, rfl⟩)).1 hz
    · refine ⟨0, q, _, _, rfl, rfl, dats_map _, ?_⟩
      refine vs_tryRetO ?_
      unfold TryA
      walk_at "goe"
      refine ⟨.list (trainD (rdT tx)), .cons .dat .nil, trivial, fun x S2 h => ?_, fun C hC => ?_⟩
      · obtain ⟨ds, e, g, l, rfl, rfl⟩ := h
        cases e
        exact ⟨[(l, _)], ⟨tx, rfl, OkT.of g, l, rfl, rfl⟩, rfl, .sub (List.sublist_append_left _ _)⟩
      · obtain ⟨g, rfl⟩ := hC
        refine ⟨exm_own T.r_BadTrain T.i_BadTrain T.t_BadTrain T.s_BadTrain_BadTrain, fun a => ?_⟩
        refine vs_raise T.C_NoText ⟨fun y => ?_, rfl⟩
        have k := (OkT.gd y.str).ok
        have g : trB (trainD (rdT tx)) = false := g
        rw [k] at g
        cases g
  | _ =>
    walk_at "start"
    walk_at "st"
    exact vs_raise T.C_NoText ⟨fun ⟨_, e, _⟩ => (nomatch e), rfl⟩
end RD
theorem ok_read (T : Tx K mg) : FnOk P w K mg base (L2.CX P w) 5 T.f_read T.d_read ["text"] (sp_read K T.C_NoText) := RD.ok_read T

/-! ### _law_wheel, _law_due -/
theorem wordsOf_map (is : List Int) : (is.map PyData.int).map Pv.dat = is.map fun i => .dat (.int i) := by rw [List.map_map]; rfl
def sp__law_wheel (K : PySem.W.Frag) : Sp := spW K (fun w : Str => [.d (.str w)]) (fun _ => True) (Ret fun w => .int (wheelOf w)) nox
theorem ok__law_wheel (T : Tx K mg) : FnOk P w K mg base CX0 1 T.f__law_wheel T.d__law_wheel ["_law_word"] (sp__law_wheel K) := by
  refine T.F__law_wheel.ok sc__law_wheel (spW_len fun _ => rfl) (fun cdv A outer s H vs Q E hr h => ?_)
  refine ⟨_, (pss_cons (ps_for PassesOwn.never rfl (pi_range2 (by rfl) T.z_range (pa_cons pe_int (pa_cons pe_int pa_nil))) (pg_name (i := 1) sc__law_wheel.nd rfl (Or.inl rfl))
      (pss_one (ps_if (pt_cmpR op_eq (pv 0) (pe_callTy call_str_int (by rfl) T.z_str (by decide +kernel) (pa_cons (pv 1) pa_nil)) (nomark _))
      (pss_one (ps_ret (pv 1)))
      pss_nil)))
      (pss_one (ps_ret pe_int))), body_of h fun word _ => ?_⟩
  walk_at "start"
  refine vs_seq (vs_for (vi_range2 ?_))
  walk_at "goe"
  refine ⟨by omega, by omega, by omega, by omega, fun i ρ S => (∃ y, ρ = [some (.dat (.str word)), y] ∧ S = []) ∧ ∀ j < i, word ≠ wt j, ⟨⟨_, rfl, rfl⟩, fun j h => absurd h (Nat.not_lt_zero j)⟩, ?_, ?_⟩
  · rintro i x ρ1 S1 e ⟨⟨y, rfl, rfl⟩, hall⟩
    obtain ⟨hi, rfl⟩ := rngP_get e
    have hi : i < 59 := hi
    walk_at "goe"
    refine vc_strI (log_small (by omega)) ?_
    refine vr_eqT ?_
    walk_at "goe"
    refine br_d (fun hb => ?_) fun hb => ?_
    · walk_at "goe"
      refine fin_ret ?_
      have hb : word = wt i := hb
      rw [hb, wheelOf_at hi]
    · walk_at "goe"
      refine ⟨⟨_, rfl, rfl⟩, fun j hj => ?_⟩
      rcases Nat.lt_or_ge j i with z | z
      · exact hall j z
      · have ej : j = i := by omega
        subst ej
        exact hb
  · rintro ρ1 S1 ⟨⟨y, rfl, rfl⟩, hall⟩
    rw [rngP_length] at hall
    have hall : ∀ j < 59, word ≠ wt j := hall
    walk_at "goe"
    refine fin_ret ?_
    rcases wheelOf_cases word with ⟨i, hi, e, _⟩ | ⟨_, z⟩
    · exact absurd e (hall i hi)
    · rw [z]
section
variable {c : Cn} {ρ : Slots} {S : Store} {Φ : Pv → Store → Prop} {E : XK}
theorem vc__law_wheel {word : Str} (h : Φ (.dat (.int (wheelOf word))) S) : VC c ρ (fun vs H Q => sp__law_wheel c.K vs H Q E) [.dat (.str word)] S Φ := vc_ret word (.cons .dat .nil) trivial h
end
def sp__law_due (K : PySem.W.Frag) : Sp := spW K (fun tx : Str => [.d (.str tx)]) (fun tx => tx.length ≤ 1000) (fun tx x S => (OkT (rdT tx) ∧ NewL (fun tx => trainD (rdT tx)) tx x S) ∨ (¬ OkT (rdT tx) ∧ x = .dat .none ∧ S = [])) nox
theorem strs_at {parts : List Str} {k : Nat} {x : Pv} (e : ((parts.map PyData.str).map Pv.dat)[k]? = some x) : ∃ u, parts[k]? = some u ∧ x = .dat (.str u) := by
  obtain ⟨d, hd, rfl⟩ := dats_get e
  rw [List.getElem?_map] at hd
  cases e1 : parts[k]? with
  | none => rw [e1] at hd; cases hd
  | some u => rw [e1] at hd; exact ⟨u, rfl, by rw [← Option.some.inj hd]⟩
theorem ok__law_due (T : Tx K mg) : FnOk P w K mg base CX0 2 T.f__law_due T.d__law_due ["_law_text"] (sp__law_due K) := by
  refine T.F__law_due.ok sc__law_due (spW_len fun _ => rfl) (fun cdv A outer s H vs Q E hr h => ?_)
  refine ⟨_, (pss_cons (ps_set (i := 1) sc__law_due.nd rfl (Or.inl rfl) (pe_split (pv 0) pe_str))
      (pss_cons (ps_if (pt_cmpR op_gt (pe_callB (call_lenK (K := K) rfl) (by rfl) T.z_len (by decide +kernel) (pa_cons (pv 1) pa_nil)) pe_int (nomark _))
      (pss_one (ps_ret pe_non))
      pss_nil)
      (pss_cons (ps_set (i := 2) sc__law_due.nd rfl (Or.inl rfl) (pe_lst pa_nil))
      (pss_cons (ps_for PassesOwn.never rfl (pi_listK (K := K) rfl (pv 1)) (pg_name (i := 3) sc__law_due.nd rfl (Or.inl rfl))
      (pss_cons (ps_set (i := 4) sc__law_due.nd rfl (Or.inl rfl) (pe_callTy (call_tupleK (K := K) rfl) (by rfl) T.z_tuple (by decide +kernel) (pa_cons (pe_lc (own := [("_law_word", 5)]) rfl sc__law_due.nd (pi_listK (K := K) rfl (pe_split (pv 3) pe_str)) (blkOk_by (own := [("_law_word", 5)]) (N := N__law_due) (sc := defScope s__law_due) (by decide +kernel)) (fun _ _ _ _ _ => (pg_name (i := 5) sc__law_due.nd rfl (Or.inl rfl))) (fun _ _ _ _ _ => pts_nil) (fun _ _ _ _ _ => (pe_call (ok__law_wheel T) (hr.mono (by decide)) (by rfl) T.g__law_wheel T.F__law_wheel.kp T.b__law_wheel .nil pass0 (pa_cons (pv 5) pa_nil)))) pa_nil)))
      (pss_cons (ps_if (PW.pt (pw_or (pt_cmpR (op_inK (K := K) rfl) pe_int (pv 4) (by rfl)) (pw_or1 (pt_not (pt_chain op_le op_le pe_int (pe_callB (call_lenK (K := K) rfl) (by rfl) T.z_len (by decide +kernel) (pa_cons (pv 4) pa_nil)) pe_int)))))
      (pss_one (ps_ret pe_non))
      pss_nil)
      (pss_one (ps_expr (pe_bmK (K := K) rfl (pe_bm PySem.F.plainAttrs_list PySem.F.slot_list_append PySem.F.type_list_append mt_append (pv 2) (pa_cons (pv 4) pa_nil))))))))
      (pss_one (ps_ret (pv 2))))))), body_of h fun tx hp => ?_⟩
  have hp : tx.length ≤ 1000 := hp
  walk_at "start"
  refine vs_seq (vs_set (ve_freeze (ve_m1 ?_)))
  walk_at "goe"
  refine vr_split (by decide) (by rw [sizeLine_eq]; omega) fun p => ?_
  refine ⟨0, p, _, _, rfl, rfl, dats_map _, ?_⟩
  have hlen : (Txt.split tx " ").length ≤ 1002 := Nat.le_trans (PyProof.Rows.split_le tx " ") (by omega)
  have hrl : (rdT tx).length = (Txt.split tx " ").length := by unfold rdT; rw [List.length_map]
  walk_at "st"
  rw [List.length_map, List.length_map]
  refine br_d (fun hb => ?_) fun hb => ?_
  · walk_at "goe"
    exact ⟨[], .inr ⟨fun k => by have := k.1; omega, rfl, rfl⟩, rfl, .sub (List.nil_sublist _)⟩
  walk_at "goe"
  refine vs_seq (vs_set (ve_lst0 fun l => ?_))
  walk_at "norm"
  refine vs_seq (vs_for (vi_list ?_))
  walk_at "goe"
  refine ⟨_, .dat, fun i ρ S => ∃ a b, ρ = [some (.dat (.str tx)), some (.dat (.list ((Txt.split tx " ").map PyData.str))), some (ptr l), a, b, none] ∧ S = [(l, Cell.lst ((trainD ((rdT tx).take i)).map Pv.dat))] ∧ ∀ ws ∈ (rdT tx).take i, OkS ws, ⟨_, _, rfl, rfl, fun ws h => nomatch h⟩, ?_, ?_⟩
  · rintro i x ρ1 S1 e ⟨a, b, rfl, rfl, hall⟩
    obtain ⟨part, hpart, rfl⟩ := strs_at e
    have hin := List.mem_of_getElem? hpart
    have hpl : part.length ≤ 1000 := Nat.le_trans (split_part hin) hp
    have hi : i < (Txt.split tx " ").length := (List.getElem?_eq_some_iff.mp hpart).1
    have hrt : (rdT tx)[i]? = some (wordsT part) := by
      unfold rdT
      rw [List.getElem?_map, hpart]
      rfl
    have hwin : wordsT part ∈ rdT tx := List.mem_of_getElem? hrt
    have htk : (rdT tx).take (i + 1) = (rdT tx).take i ++ [wordsT part] := by
      rw [List.take_succ, hrt]
      rfl
    have hln : (Txt.split part ":").length ≤ 1002 := Nat.le_trans (PyProof.Rows.split_le part ":") (by omega)
    have hwl : (wordsT part).length = (Txt.split part ":").length := by unfold wordsT; rw [List.length_map]
    refine vg_name ?_
    walk_at "norm"
    refine vs_wk ?_
    walk_at "st"
    refine ve_lcm (by decide) (vi_list (ve_freeze (ve_m1 ?_)))
    walk_at "goe"
    refine vr_split (by decide) (by rw [sizeLine_eq]; omega) fun p => ?_
    refine ⟨0, p, _, _, rfl, rfl, dats_map _, _, .dat, ((wordsT part).map PyData.int).map Pv.dat, ?_, ?_, ?_, fun q => ?_⟩
    · rw [List.length_map, List.length_map, List.length_map, List.length_map, hwl]
    · rw [List.length_map, List.length_map, hwl]
      omega
    · intro k x e
      obtain ⟨word, hword, rfl⟩ := strs_at e
      walk_at "goe"
      refine vc__law_wheel ⟨rfl, rfl, ?_⟩
      unfold wordsT
      rw [List.getElem?_map, List.getElem?_map, List.getElem?_map, hword]
      rfl
    walk_at "goe"
    refine vc_tupleL (.own (by walk_at "mem")) ?_
    rw [tupP_dats]
    dsimp only [List.eraseIdx_cons_zero]
    walk_at "st"
    refine vr_inI (is := wordsT part) (by rw [← wordsOf_map]; exact .inr .dat) ?_
    have hno : ∀ P : Prop, ¬ OkS (wordsT part) → (OkT (rdT tx) → P) := fun P h k => absurd (k.2 _ hwin) h
    refine ⟨_, rfl, fun hb => ?_, fun hb => ?_⟩
    · have hb : (wordsT part).any (fun j => decide (j = 0)) = true := hb
      obtain ⟨x, hx, e⟩ := List.any_eq_true.mp hb
      have e : x = 0 := of_decide_eq_true e
      subst e
      refine br_t rfl ?_
      walk_at "goe"
      exact ⟨[], .inr ⟨fun k => (k.2 _ hwin).1 hx, rfl, rfl⟩, rfl, .sub (List.nil_sublist _)⟩
    have hb : (wordsT part).any (fun j => decide (j = 0)) = false := hb
    have h0 : 0 ∉ wordsT part := fun z => by
      have := List.any_eq_false.mp hb 0 z
      exact this (decide_eq_true rfl)
    walk_at "goe"
    rw [List.length_map, List.length_map]
    refine br_d (fun h2 => ?_) fun h2 => ?_
    · walk_at "goe"
      refine br_n (fun h5 => ?_) fun h5 => ?_
      · walk_at "goe"
        exact ⟨[], .inr ⟨fun k => by have := (k.2 _ hwin).2.2; omega, rfl, rfl⟩, rfl, .sub (List.nil_sublist _)⟩
      · walk_at "goe"
        refine ⟨1, _, rfl, rfl, ?_, ?_⟩
        · unfold trainD
          rw [List.length_map, List.length_map, List.length_take]
          omega
        · refine ⟨[(l, Cell.lst ((trainD ((rdT tx).take (i + 1))).map Pv.dat))], .sub ?_, _, _, rfl, rfl, fun ws hws => ?_⟩
          · rw [htk]
            unfold trainD
            rw [List.map_append, List.map_append]
            exact List.Sublist.cons _ (List.Sublist.refl _)
          · rw [htk, List.mem_append, List.mem_singleton] at hws
            rcases hws with z | z
            · exact hall ws z
            · subst z
              exact ⟨h0, by omega, by omega⟩
    · walk_at "goe"
      exact ⟨[], .inr ⟨fun k => by have := (k.2 _ hwin).2.1; omega, rfl, rfl⟩, rfl, .sub (List.nil_sublist _)⟩
  · rintro ρ1 S1 ⟨a, b, rfl, rfl, hall⟩
    have htk : (rdT tx).take ((Txt.split tx " ").map PyData.str |>.map Pv.dat).length = rdT tx := by
      rw [List.take_of_length_le]
      rw [List.length_map, List.length_map, hrl]
      exact Nat.le_refl _
    rw [htk] at hall ⊢
    walk_at "goe"
    exact ⟨[(l, _)], .inl ⟨⟨by omega, hall⟩, l, rfl, rfl⟩, rfl, .sub (List.Sublist.refl _)⟩
section
variable {c : Cn} {ρ : Slots} {S : Store} {Φ : Pv → Store → Prop} {E : XK}
theorem vc__law_due {tx : Str} (hp : tx.length ≤ 1000) (h1 : ∀ l, OkT (rdT tx) → Φ (ptr l) ((l, Cell.lst ((trainD (rdT tx)).map .dat)) :: S)) (h2 : ¬ OkT (rdT tx) → Φ (.dat .none) S) : VC c ρ (fun vs H Q => sp__law_due c.K vs H Q E) [.dat (.str tx)] S Φ :=
  vc_spW tx (.cons .dat .nil) hp (fun x S1 r => by
    rcases r with ⟨k, l, rfl, rfl⟩ | ⟨k, rfl, rfl⟩
    · exact h1 l k
    · exact h2 k) (fun _ h => h.elim)
end
/-! ### _law_told -/
def sp__law_told (K : PySem.W.Frag) : Sp := spW K (fun d : D => [.d d]) (fun d => ∀ tx, d = .str tx → tx.length ≤ 1000)
  (fun d x S => (∃ tx, d = .str tx ∧ OkT (rdT tx) ∧ ∃ l, x = ptr l ∧ S = [(l, Cell.lst ((trainD (rdT tx)).map .dat))]) ∨ (¬ GdX d ∧ x = .dat (.tuple ((bits 7 8).map .bool)) ∧ S = [])) nox
theorem ok__law_told (T : Tx K mg) : FnOk P w K mg base CX0 6 T.f__law_told T.d__law_told ["_law_thing"] (sp__law_told K) := by
  refine T.F__law_told.ok sc__law_told (spW_len fun _ => rfl) (fun cdv A outer s H vs Q E hr h => ?_)
  refine ⟨_, (pss_one (L2.ps_try_as (i := 1) rfl rfl sc__law_told.nd rfl rfl ⟨rfl, by decide, .inl T.g_TrainError⟩ takesC (fun W pn xe tk _ => (pss_one (ps_ret (pe_callS (ok_read T) (hr.mono (by decide)) (by rfl) T.g_read T.F_read.kp T.b_read (fun σ => L2.passAt tk σ) (pa_cons (pv 0) pa_nil)))))
      (fun a oe cls d pn hz hf => (pss_one (ps_ret (pe_callTy (call_tupleK (K := K) rfl) (by rfl) T.z_tuple (by decide +kernel) (pa_cons (pe_callQ (okQ__law_kinds T (a := a) (oe := oe) (cls := cls) (d := d) hz hf) ((room_suite hr).mono (by decide)) List.mem_cons_self (by rfl) T.g__law_kinds T.F__law_kinds.kp T.b__law_kinds (pa_cons (pv 1) pa_nil)) pa_nil))))))), body_of (t := fun D σ H => tRet (tCallS _ (WE (wAs _ _ _ _ _ D)) _) D σ H) h fun d hp => ?_⟩
  walk_at "start"
  refine vs_tryRet ?_
  unfold TryA
  walk_at "goe"
  refine ⟨d, .cons .dat .nil, hp, fun x S2 h => ?_, fun C hC => ?_⟩
  · obtain ⟨tx, e, k, l, rfl, rfl⟩ := h
    exact ⟨[(l, _)], .inl ⟨tx, e, k, l, rfl, rfl⟩, rfl, .sub (by rw [List.append_nil]; exact List.Sublist.refl _)⟩
  · obtain ⟨g, rfl⟩ := hC
    refine ⟨exm_own T.r_TrainError T.i_TrainError T.t_TrainError T.s_NoText_TrainError, fun a => ?_⟩
    walk_at "norm"
    walk_at "goe"
    refine vc__law_kinds (kn_NoText T) fun l => ?_
    walk_at "goe"
    refine vc_tupleL (.own (by walk_at "mem")) ?_
    rw [tupP_dats]
    exact ⟨[], .inr ⟨g, rfl, rfl⟩, rfl, .sub (List.nil_sublist _)⟩
section
variable {c : Cn} {ρ : Slots} {S : Store} {Φ : Pv → Store → Prop} {E : XK}
theorem vc__law_told {d : D} (hp : ∀ tx, d = .str tx → tx.length ≤ 1000) (h1 : ∀ l tx, d = .str tx → OkT (rdT tx) → Φ (ptr l) ((l, Cell.lst ((trainD (rdT tx)).map .dat)) :: S)) (h2 : ¬ GdX d → Φ (.dat (.tuple ((bits 7 8).map .bool))) S) : VC c ρ (fun vs H Q => sp__law_told c.K vs H Q E) [.dat d] S Φ :=
  vc_spW d (.cons .dat .nil) hp (fun x S1 r => by
    rcases r with ⟨tx, e, k, l, rfl, rfl⟩ | ⟨k, rfl, rfl⟩
    · exact h1 l tx e k
    · exact h2 k) (fun _ h => h.elim)
theorem vc_readG {tx : Str} {C : Addr} (hp : tx.length ≤ 1000) (k : OkT (rdT tx)) (h : ∀ l, Φ (ptr l) ((l, Cell.lst ((trainD (rdT tx)).map .dat)) :: S)) : VC c ρ (fun vs H Q => sp_read c.K C vs H Q E) [.dat (.str tx)] S Φ :=
  vc_spW (.str tx) (.cons .dat .nil) (fun u e => by cases e; exact hp) (fun x S1 r => by
    obtain ⟨u, e, _, l, rfl, rfl⟩ := r
    cases e
    exact h l) (fun e he => absurd ⟨tx, rfl, k⟩ he.1)
end

/-! ### _law_changed -/
theorem atI_str {a : Str} {z : Int} (h : 0 ≤ z ∧ z < a.length) : ∃ s, atI a.cps.toList z = some s := by
  obtain ⟨k, rfl⟩ : ∃ k : Nat, z = k := ⟨z.toNat, by omega⟩
  have hk : k < a.cps.toList.length := by
    have h2 : k < a.length := by omega
    rw [Array.length_toList]
    exact h2
  exact ⟨_, atI_nat (List.getElem?_eq_getElem hk)⟩
theorem vr_ixAll {c : Cn} {ρ : Slots} {S : Store} {Φ : Pv → Store → Prop} {x : Pv} {xs : List Pv} {z : Int} {Pr : D → Prop} (hs : Sq S x xs) (hz : 0 ≤ z ∧ z < xs.length) (hp : ∀ y ∈ xs, ∃ d, y = .dat d ∧ Pr d) (h : ∀ d, Pr d → Φ (.dat d) S) : VR c ρ (rIx c.K) x (.dat (.int z)) S Φ := by
  obtain ⟨k, rfl⟩ : ∃ k : Nat, z = k := ⟨z.toNat, by omega⟩
  have hk : k < xs.length := by omega
  obtain ⟨d, e, hd⟩ := hp xs[k] (List.getElem_mem hk)
  exact vr_ix hs (atI_nat (List.getElem?_eq_getElem hk)) (by rw [e]; exact h d hd)
def sp__law_changed (K : PySem.W.Frag) : Sp := spW K (fun p : Str × Int => [.d (.str p.1), .d (.int p.2)]) (fun p => p.1.length ≤ 1000) (fun p x S => ∃ t : Str, x = .dat (.str t) ∧ t.length ≤ 2 * p.1.length + 2 ∧ S = []) nox
theorem fin_chg {p : Str × Int} {t : Str} {S : Store} (h : t.length ≤ 2 * p.1.length + 2) : Fin (fun (p : Str × Int) x S => ∃ t : Str, x = .dat (.str t) ∧ t.length ≤ 2 * p.1.length + 2 ∧ S = []) p (.dat (.str t)) S := ⟨[], ⟨t, rfl, h, rfl⟩, rfl, .sub (List.nil_sublist S)⟩
theorem ok__law_changed (T : Tx K mg) : FnOk P w K mg base CX0 1 T.f__law_changed T.d__law_changed ["_law_text", "_law_cell"] (sp__law_changed K) := by
  refine T.F__law_changed.ok sc__law_changed (spW_len fun _ => rfl) (fun cdv A outer s H vs Q E hr h => ?_)
  refine ⟨_, (pss_cons (ps_set (i := 2) sc__law_changed.nd rfl (Or.inl rfl) pe_str)
      (pss_cons (ps_set (i := 3) sc__law_changed.nd rfl (Or.inl rfl) (pe_op op_mod (pe_op op_fdivW (pv 1) pe_int) (pe_op (op_plusK (K := K) rfl) (pe_callB call_len_str (by rfl) T.z_len (by decide +kernel) (pa_cons (pv 0) pa_nil)) pe_int)))
      (pss_cons (ps_set (i := 4) sc__law_changed.nd rfl (Or.inl rfl) (pe_ix (ix_seqK (K := K) rfl) (pv 2) (pe_op op_mod (pe_op op_fdivW (pv 1) pe_int) (pe_callB call_len_str (by rfl) T.z_len (by decide +kernel) (pa_cons (pv 2) pa_nil))) (fun _ _ => rfl)))
      (pss_cons (ps_if (pt_cmpR (op_eqK (K := K) rfl hr.units) (pe_op op_mod (pe_op op_fdivW (pv 1) pe_int) pe_int) pe_int (nomark _))
      (pss_one (ps_set (i := 4) sc__law_changed.nd rfl (Or.inl rfl) (pe_ix (ix_seqK (K := K) rfl) pe_str (pe_op op_mod (pe_op op_fdivW (pv 1) pe_int) pe_int) (fun _ _ => rfl))))
      pss_nil)
      (pss_cons (ps_if (pt_cmpR (op_eqK (K := K) rfl hr.units) (pe_op op_mod (pv 1) pe_int) pe_int (nomark _))
      (pss_one (ps_ret (pe_op op_add_str (pe_slice sl_str (pv 0) po_none (po_some (pv 3))) (pe_slice sl_str (pv 0) (po_some (pe_op (op_plusK (K := K) rfl) (pv 3) pe_int)) po_none))))
      pss_nil)
      (pss_cons (ps_if (pt_cmpR (op_eqK (K := K) rfl hr.units) (pe_op op_mod (pv 1) pe_int) pe_int (nomark _))
      (pss_one (ps_ret (pe_op op_add_str (pe_op op_add_str (pe_slice sl_str (pv 0) po_none (po_some (pv 3))) (pv 4)) (pe_slice sl_str (pv 0) (po_some (pv 3)) po_none))))
      pss_nil)
      (pss_cons (ps_if (pt_cmpR (op_eqK (K := K) rfl hr.units) (pe_op op_mod (pv 1) pe_int) pe_int (nomark _))
      (pss_one (ps_ret (pe_op op_add_str (pe_op op_add_str (pe_slice sl_str (pv 0) po_none (po_some (pv 3))) (pv 4)) (pe_slice sl_str (pv 0) (po_some (pe_op (op_plusK (K := K) rfl) (pv 3) pe_int)) po_none))))
      pss_nil)
      (pss_one (ps_ret (pe_ix (ix_seqK (K := K) rfl) (pe_lst (pa_cons (pe_op op_add_str pe_str (pv 0)) (pa_cons (pe_op op_add_str pe_str (pv 0)) (pa_cons (pe_op op_add_str (pv 0) pe_str) (pa_cons (pe_op op_add_str pe_str (pv 0)) (pa_cons (pe_op op_add_str (pv 0) pe_str) (pa_cons (pe_op op_add_str (pv 0) pe_str) pa_nil))))))) (pe_op op_mod (pe_op op_fdivW (pv 1) pe_int) pe_int) (fun _ _ => rfl))))))))))), body_of h fun p hp => ?_⟩
  obtain ⟨tx, cell⟩ := p
  have hp : tx.length ≤ 1000 := hp
  have c4 : CDivW cell 4 := cdw (by decide) (by decide)
  have c400 : CDivW cell 400 := cdw (by decide) (by decide)
  have hsz : tx.length ≤ sizeLine := by rw [sizeLine_eq]; omega
  walk_at "start"
  refine vs_cut (fun ρ S => ∃ sg : Str, (1 ≤ sg.length ∧ sg.length ≤ 200) ∧ ρ = [some (.dat (.str tx)), some (.dat (.int cell)), some (.dat (.str sg)), none, none] ∧ S = []) ?_ ?_
  · walk_at "goe"
    exact ⟨_, by decide, rfl, rfl⟩
  rintro ρ1 S1 ⟨sg, hsg, rfl, rfl⟩
  have hss : sg.length ≤ sizeLine := by rw [sizeLine_eq]; omega
  walk_at "st"
  refine vc_lenS hsz ?_
  walk_at "goe"
  have ha := mod_in (cell / 4) (n := (tx.length : Int) + 1) (by omega)
  generalize cell / 4 % ((tx.length : Int) + 1) = at_ at ha ⊢
  walk_at "st"
  refine vc_lenS hss ?_
  walk_at "goe"
  obtain ⟨s0, hs0⟩ := atI_str (a := sg) (mod_in (cell / 400) (n := (sg.length : Int)) (by omega))
  refine vr_ixS hss hs0 ?_
  refine vs_cut (fun ρ S => ∃ s1 : Nat, ρ = [some (.dat (.str tx)), some (.dat (.int cell)), some (.dat (.str sg)), some (.dat (.int at_)), some (.dat (.str ⟨#[s1]⟩))] ∧ S = []) ?_ ?_
  · walk_at "goe"
    refine br_d (fun hb => ?_) fun hb => ?_
    · walk_at "goe"
      obtain ⟨s1, hs1⟩ := atI_str (a := "0 :123456789") (z := cell / 400 % 12) (mod_in (cell / 400) (n := 12) (by decide))
      exact vr_ixS (by decide) hs1 ⟨s1, rfl, rfl⟩
    · walk_at "goe"
  rintro ρ1 S1 ⟨s1, rfl, rfl⟩
  have l1 : (Str.mk #[s1]).length = 1 := rfl
  have cl : ∀ lo hi, (cutS tx lo hi).length ≤ tx.length := fun lo hi => cutS_length tx lo hi
  walk_at "st"
  refine br_d (fun hb => ?_) fun hb => ?_
  · walk_at "goe"
    refine ve_cutS ?_
    walk_at "goe"
    refine ⟨hsz, ?_⟩
    walk_at "goe"
    refine ve_cutS ?_
    walk_at "goe"
    refine ⟨hsz, ?_⟩
    walk_at "goe"
    refine vr_plusS (Nat.le_trans (Nat.add_le_add (cl _ _) (cl _ _)) (by rw [sizeLine_eq]; omega)) ?_
    refine fin_chg ?_
    rw [PySem.strLen_append]
    refine Nat.le_trans (Nat.add_le_add (cl _ _) (cl _ _)) ?_
    dsimp only
    omega
  walk_at "goe"
  walk_at "st"
  have mid : ∀ lo hi lo2 hi2, (cutS tx lo hi).length + (Str.mk #[s1]).length ≤ sizeLine ∧ (cutS tx lo hi ++ Str.mk #[s1]).length + (cutS tx lo2 hi2).length ≤ sizeLine ∧ (cutS tx lo hi ++ Str.mk #[s1] ++ cutS tx lo2 hi2).length ≤ 2 * tx.length + 2 := fun lo hi lo2 hi2 => by
    have k1 := cl lo hi
    have k2 := cl lo2 hi2
    have e1 := PySem.strLen_append (cutS tx lo hi) (Str.mk #[s1])
    have e2 := PySem.strLen_append (cutS tx lo hi ++ Str.mk #[s1]) (cutS tx lo2 hi2)
    have e3 := sizeLine_eq
    rw [e2, e1, l1]
    omega
  refine br_d (fun hb => ?_) fun hb => ?_
  · walk_at "goe"
    refine ve_cutS ?_
    walk_at "goe"
    refine ⟨hsz, ?_⟩
    walk_at "goe"
    refine vr_plusS (mid _ _ none none).1 ?_
    refine ve_cutS ?_
    walk_at "goe"
    refine ⟨hsz, ?_⟩
    walk_at "goe"
    refine vr_plusS (mid _ _ _ _).2.1 ?_
    exact fin_chg (mid _ _ _ _).2.2
  walk_at "goe"
  walk_at "st"
  refine br_d (fun hb => ?_) fun hb => ?_
  · walk_at "goe"
    refine ve_cutS ?_
    walk_at "goe"
    refine ⟨hsz, ?_⟩
    walk_at "goe"
    refine vr_plusS (mid _ _ none none).1 ?_
    refine ve_cutS ?_
    walk_at "goe"
    refine ⟨hsz, ?_⟩
    walk_at "goe"
    refine vr_plusS (mid _ _ _ _).2.1 ?_
    exact fin_chg (mid _ _ _ _).2.2
  walk_at "goe"
  have two : ∀ u : Str, u.length ≤ 2 → (u.length + tx.length ≤ sizeLine ∧ tx.length + u.length ≤ sizeLine) ∧ (∃ t : Str, PyData.str (u ++ tx) = .str t ∧ t.length ≤ 2 * tx.length + 2) ∧ ∃ t : Str, PyData.str (tx ++ u) = .str t ∧ t.length ≤ 2 * tx.length + 2 := fun u hu => by
    have e1 := PySem.strLen_append u tx
    have e2 := PySem.strLen_append tx u
    have e3 := sizeLine_eq
    exact ⟨⟨by omega, by omega⟩, ⟨_, rfl, by omega⟩, _, rfl, by omega⟩
  refine vr_plusS (two _ (by decide)).1.1 ?_
  walk_at "goe"
  refine vr_plusS (two _ (by decide)).1.1 ?_
  walk_at "goe"
  refine vr_plusS (two _ (by decide)).1.2 ?_
  walk_at "goe"
  refine vr_plusS (two _ (by decide)).1.1 ?_
  walk_at "goe"
  refine vr_plusS (two _ (by decide)).1.2 ?_
  walk_at "goe"
  refine vr_plusS (two _ (by decide)).1.2 ?_
  walk_at "goe"
  refine vr_ixAll (Pr := fun d => ∃ t : Str, d = .str t ∧ t.length ≤ 2 * tx.length + 2) (.inl .dat) (mod_in (cell / 4) (by decide)) ?_ fun d hd => by
    obtain ⟨t, rfl, ht⟩ := hd
    exact fin_chg ht
  simp only [List.map_cons, List.map_nil, List.forall_mem_cons]
  refine ⟨⟨_, rfl, (two _ (by decide)).2.1⟩, ⟨_, rfl, (two _ (by decide)).2.1⟩, ⟨_, rfl, (two _ (by decide)).2.2⟩, ⟨_, rfl, (two _ (by decide)).2.1⟩, ⟨_, rfl, (two _ (by decide)).2.2⟩, ⟨_, rfl, (two _ (by decide)).2.2⟩, fun y h => nomatch h⟩
section
variable {c : Cn} {ρ : Slots} {S : Store} {Φ : Pv → Store → Prop} {E : XK}
theorem vc__law_changed {tx : Str} {z : Int} (hp : tx.length ≤ 1000) (h : ∀ t : Str, t.length ≤ 2 * tx.length + 2 → Φ (.dat (.str t)) S) : VC c ρ (fun vs H Q => sp__law_changed c.K vs H Q E) [.dat (.str tx), .dat (.int z)] S Φ :=
  vc_spW (tx, z) (.cons .dat (.cons .dat .nil)) hp (fun x S1 r => by
    obtain ⟨t, rfl, hl, rfl⟩ := r
    exact h t hl) (fun _ h => h.elim)
end

/-! ### the law -/
theorem fit_train (t : List (List Int)) : Fit 2 (.list (trainD t)) := fit_list (n := 1) (fit_map (fun ws => fit_tup (n := 0) (fit_map (fun _ => fit_int) ws)) _)
def sp_law (K : PySem.W.Frag) : Sp := spW K (fun ns : List Int => [.s ns]) (fun ns => ns.length ≤ 63) (Ret fun _ => .bool true) nox
theorem ok_law (T : Tx K mg) : FnOk P w K mg base CX0 7 T.f_law T.d_law ["_law_script"] (sp_law K) := by
  refine T.F_law.ok sc_law (spW_len fun _ => rfl) (fun cdv A outer s H vs Q E hr h => ?_)
  refine ⟨_, (pss_cons (ps_set (i := 1) sc_law.nd rfl (Or.inl rfl) (pe_call (ok__law_train T) (hr.mono (by decide)) (by rfl) T.g__law_train T.F__law_train.kp T.b__law_train .nil pass0 (pa_cons (pe_call (ok__law_at T) (hr.mono (by decide)) (by rfl) T.g__law_at T.F__law_at.kp T.b__law_at .nil pass0 (pa_cons (pv 0) (pa_cons pe_int pa_nil))) (pa_cons (pe_call (ok__law_at T) (hr.mono (by decide)) (by rfl) T.g__law_at T.F__law_at.kp T.b__law_at .nil pass0 (pa_cons (pv 0) (pa_cons pe_int pa_nil))) pa_nil))))
      (pss_cons (ps_set (i := 2) sc_law.nd rfl (Or.inl rfl) (pe_call (ok_written T) (hr.mono (by decide)) (by rfl) T.g_written T.F_written.kp T.b_written .nil passN (pa_cons (pe_callTy (call_listK (K := K) rfl) (by rfl) T.z_list (by decide +kernel) (pa_cons (pv 1) pa_nil)) pa_nil)))
      (pss_cons (ps_set (i := 3) sc_law.nd rfl (Or.inl rfl) (pe_joinK (K := K) rfl pe_str (pe_lc (own := [("_law_stage", 10)]) rfl sc_law.nd (pi_listK (K := K) rfl (pv 1)) (blkOk_by (own := [("_law_stage", 10)]) (N := N_law) (sc := defScope s_law) (by decide +kernel)) (fun _ _ _ _ _ => (pg_name (i := 10) sc_law.nd rfl (Or.inl rfl))) (fun _ _ _ _ _ => pts_nil) (fun _ _ _ _ _ => (by exact (pe_joinK (K := K) rfl pe_str (pe_lc (own := [("_law_wheel_here", 11)]) rfl sc_law.nd (pi_tupK (K := K) rfl (pv 10)) (blkOk_nest (own := [("_law_wheel_here", 11)]) (N := N_law) (sc0 := defScope s_law) rfl (by decide +kernel)) (fun _ _ _ _ _ => (pg_name (i := 11) sc_law.nd rfl (Or.inl rfl))) (fun _ _ _ _ _ => pts_nil) (fun _ _ _ _ _ => (pe_callTy call_str_int (by rfl) T.z_str (by decide +kernel) (pa_cons (pv 11) pa_nil))))))))))
      (pss_cons (ps_if (PW.pt (pw_or (pt_not (pt_val (pe_callB (call_isiK (K := K) rfl) (by rfl) T.z_isinstance (by decide +kernel) (pa_cons (pv 2) (pa_cons (pe_bltn (v := .ty "str") (by rfl) T.z_str (by decide +kernel) rfl) pa_nil))))) (pw_or1 (pt_cmpR op_ne (pv 2) (pv 3) (nomark _)))))
      (pss_one (ps_ret pe_bl))
      pss_nil)
      (pss_cons (ps_for PassesOwn.never rfl (pi_range1 (by rfl) T.z_range (pa_cons (pe_op op_sub (pe_op op_mod (pe_call (ok__law_at T) (hr.mono (by decide)) (by rfl) T.g__law_at T.F__law_at.kp T.b__law_at .nil pass0 (pa_cons (pv 0) (pa_cons pe_int pa_nil))) pe_int) pe_int) pa_nil)) (pg_name (i := 4) sc_law.nd rfl (Or.inl rfl))
      (pss_one (ps_set (i := 2) sc_law.nd rfl (Or.inl rfl) (pe_call (ok__law_changed T) (hr.mono (by decide)) (by rfl) T.g__law_changed T.F__law_changed.kp T.b__law_changed .nil pass0 (pa_cons (pv 2) (pa_cons (pe_call (ok__law_mixed T) (hr.mono (by decide)) (by rfl) T.g__law_mixed T.F__law_mixed.kp T.b__law_mixed .nil pass0 (pa_cons (pe_call (ok__law_at T) (hr.mono (by decide)) (by rfl) T.g__law_at T.F__law_at.kp T.b__law_at .nil pass0 (pa_cons (pv 0) (pa_cons (pe_op (op_plusK (K := K) rfl) pe_int (pv 4)) pa_nil))) (pa_cons (pv 4) pa_nil))) pa_nil))))))
      (pss_cons (ps_set (i := 5) sc_law.nd rfl (Or.inl rfl) (pe_callTy (call_tupleK (K := K) rfl) (by rfl) T.z_tuple (by decide +kernel) (pa_cons (pe_lc (own := [("_law_k", 4)]) rfl sc_law.nd (pi_range1 (by rfl) T.z_range (pa_cons pe_int pa_nil)) (blkOk_by (own := [("_law_k", 4)]) (N := N_law) (sc := defScope s_law) (by decide +kernel)) (fun _ _ _ _ _ => (pg_name (i := 4) sc_law.nd rfl (Or.inl rfl))) (fun _ _ _ _ _ => pts_nil) (fun _ _ _ _ _ => (pe_cmpR (op_inK (K := K) rfl) (pv 4) (pe_tup (pa_cons pe_int (pa_cons pe_int pa_nil))) (by rfl)))) pa_nil)))
      (pss_cons (ps_set (i := 6) sc_law.nd rfl (Or.inl rfl) (pe_lst (pa_cons pe_non (pa_cons pe_int (pa_cons (pv 1) (pa_cons pe_bl (pa_cons pe_dnewK (pa_cons (pe_tup (pa_cons (pv 2) pa_nil)) (pa_cons (pe_lst (pa_cons pe_str pa_nil)) pa_nil)))))))))
      (pss_cons (ps_if (pt_cmpR (op_neK (K := K) rfl hr.units) (pe_call (ok__law_told T) (hr.mono (by decide)) (by rfl) T.g__law_told T.F__law_told.kp T.b__law_told .nil pass0 (pa_cons (pe_ix (ix_seqK (K := K) rfl) (pv 6) (pe_op op_mod (pe_call (ok__law_at T) (hr.mono (by decide)) (by rfl) T.g__law_at T.F__law_at.kp T.b__law_at .nil pass0 (pa_cons (pv 0) (pa_cons pe_int pa_nil))) pe_int) (fun _ _ => rfl)) pa_nil)) (pv 5) (nomark _))
      (pss_one (ps_ret pe_bl))
      pss_nil)
      (pss_cons (ps_set (i := 7) sc_law.nd rfl (Or.inl rfl) (pe_call (ok__law_told T) (hr.mono (by decide)) (by rfl) T.g__law_told T.F__law_told.kp T.b__law_told .nil pass0 (pa_cons (pv 2) pa_nil)))
      (pss_cons (ps_set (i := 3) sc_law.nd rfl (Or.inl rfl) (pe_call (ok__law_due T) (hr.mono (by decide)) (by rfl) T.g__law_due T.F__law_due.kp T.b__law_due .nil pass0 (pa_cons (pv 2) pa_nil)))
      (pss_cons (ps_if (pt_cmpR op_isN (pv 3) pe_non (nomark _))
      (pss_one (ps_ret (pe_cmpR (op_eqK (K := K) rfl hr.units) (pv 7) (pv 5) (nomark _))))
      pss_nil)
      (pss_cons (ps_if (PW.pt (pw_or (pt_not (pt_val (pe_callB (call_isiK (K := K) rfl) (by rfl) T.z_isinstance (by decide +kernel) (pa_cons (pv 7) (pa_cons (pe_bltn (v := .ty "list") (by rfl) T.z_list (by decide +kernel) rfl) pa_nil))))) (pw_or (pt_cmpR (op_neK (K := K) rfl hr.units) (pv 7) (pv 3) (nomark _)) (pw_or1 (pt_not (pt_val (pe_callB (cr_allK (K := K) rfl rfl) (by rfl) T.z_all (by decide +kernel) (pa_cons (pe_lc (own := [("_law_stage", 10)]) rfl sc_law.nd (pi_listK (K := K) rfl (pv 7)) (blkOk_by (own := [("_law_stage", 10)]) (N := N_law) (sc := defScope s_law) (by decide +kernel)) (fun _ _ _ _ _ => (pg_name (i := 10) sc_law.nd rfl (Or.inl rfl))) (fun _ _ _ _ _ => pts_nil) (fun _ _ _ _ _ => (pe_callB (call_isiK (K := K) rfl) (by rfl) T.z_isinstance (by decide +kernel) (pa_cons (pv 10) (pa_cons (pe_bltn (v := .ty "tuple") (by rfl) T.z_tuple (by decide +kernel) rfl) pa_nil))))) pa_nil))))))))
      (pss_one (ps_ret pe_bl))
      pss_nil)
      (pss_cons (ps_set (i := 8) sc_law.nd rfl (Or.inl rfl) (pe_callTy (call_listK (K := K) rfl) (by rfl) T.z_list (by decide +kernel) (pa_cons (pv 7) pa_nil)))
      (pss_cons (ps_set (i := 9) sc_law.nd rfl (Or.inl rfl) (pe_call (ok_read T) (hr.mono (by decide)) (by rfl) T.g_read T.F_read.kp T.b_read .nil passC (pa_cons (pv 2) pa_nil)))
      (pss_cons (ps_expr (pe_bm0K (K := K) rfl (pe_bm0 PySem.F.plainAttrs_list PySem.F.slot_list_clear PySem.F.type_list_clear mt_clear (pv 9))))
      (pss_one (ps_ret (pe_and (pe_cmpR (op_eqK (K := K) rfl hr.units) (pv 7) (pv 8) (nomark _)) (pe_one (pe_cmpR (op_eqK (K := K) rfl hr.units) (pe_call (ok_read T) (hr.mono (by decide)) (by rfl) T.g_read T.F_read.kp T.b_read .nil passC (pa_cons (pv 2) pa_nil)) (pv 3) (nomark _))))))))))))))))))))), body_of h fun ns hp => ?_⟩
  walk_at "start"
  have g := ltTrain_gd (cell ns 0) (cell ns 1)
  walk_at "st"
  refine vc__law_train fun l0 => ?_
  generalize ltTrain (cell ns 0) (cell ns 1) = t at g ⊢
  walk_at "goe"
  refine vs_freeze 0 1 rfl rfl (dats_map _) ?_
  dsimp only [List.eraseIdx_cons_zero]
  walk_at "norm"
  have g3 := g.hi
  walk_at "st"
  refine vc_list (.inl .dat) (nobs_dats _) fun lh => ?_
  walk_at "goe"
  refine vc_written (.lst (.own (by walk_at "mem")) (dats_map _)) g ?_
  walk_at "goe"
  refine vs_pre (S' := []) (.sub (List.nil_sublist _)) ?_
  refine vs_seq (vs_set (ve_wk (ve_m1 (ve_str ⟨_, rfl, ve_lcm (by decide) (vi_list ?_)⟩))))
  walk_at "goe"
  refine ⟨_, .dat, ((t.map wst).map PyData.str).map Pv.dat, by simp [trainD], by simp; omega, ?_, fun p => ?_⟩
  · intro k x e
    obtain ⟨ws, hw, rfl⟩ := stages_at e
    have gs := g.st ws (List.mem_of_getElem? hw)
    have g5 := gs.hi
    refine ve_wk (ve_m1 (ve_str ⟨_, rfl, ve_lcm (by decide) (vi_tup ?_)⟩))
    walk_at "goe"
    refine ⟨_, .dat, ((ws.map tos).map PyData.str).map Pv.dat, by simp, by simp; omega, ?_, fun p => ?_⟩
    · intro k x e
      obtain ⟨i, hi, rfl⟩ := ints_at e
      walk_at "goe"
      refine vc_strI (log_small (gs.w i (List.mem_of_getElem? hi))) ⟨rfl, rfl, ?_⟩
      rw [List.getElem?_map, List.getElem?_map, List.getElem?_map, hi]
      rfl
    · refine vr_join (ys := ws.map tos) (.own List.mem_cons_self) ?_ ⟨_, .sub (List.Sublist.cons _ (List.Sublist.refl _)), rfl, rfl, ?_⟩
      · have h1 := sum_len (l := ws.map tos) (k := 2) fun x hx => by
          obtain ⟨i, hi, rfl⟩ := List.mem_map.mp hx
          exact tos_len (gs.w i hi)
        rw [List.length_map] at h1 ⊢
        show _ + ws.length * 1 ≤ 16777216
        omega
      · rw [List.getElem?_map, List.getElem?_map, List.getElem?_map, hw]
        rfl
  refine vr_join (ys := t.map wst) (.own List.mem_cons_self) ?_ ⟨[], .sub (List.nil_sublist _), ?_⟩
  · have h1 := sum_len (l := t.map wst) (k := 14) fun x hx => by
      obtain ⟨ws, hw, rfl⟩ := List.mem_map.mp hx
      exact wst_len (g.st ws hw)
    rw [List.length_map] at h1 ⊢
    show _ + t.length * 1 ≤ 16777216
    omega
  have ew : Txt.join " " (t.map wst) = wrt t := rfl
  rw [ew]
  walk_at "st"
  refine vr_neT ?_
  rw [decide_eq_true (rfl : wrt t = wrt t)]
  walk_at "goe"
  have hL : (wrt t).length ≤ 50 := wrt_len g
  generalize wrt t = u0 at hL ⊢
  have h4 := mod_in (cell ns 2) (n := 4) (by decide)
  refine vs_seq (vs_for (vi_range1 ?_))
  walk_at "goe"
  refine ⟨by omega, by omega, fun i ρ S => ∃ (u : Str) (x4 : Option Pv), u.length + 2 ≤ 52 * 2 ^ i ∧ ρ = [some (.scr ns), some (.dat (.list (trainD t))), some (.dat (.str u)), some (.dat (.str u0)), x4, none, none, none, none, none, none, none] ∧ S = [], ⟨u0, none, by omega, rfl, rfl⟩, ?_, ?_⟩
  · rintro i x ρ1 S1 e ⟨u, x4, hu, rfl, rfl⟩
    obtain ⟨hi, rfl⟩ := rngP_get e
    rw [Int.zero_add]
    have hi2 : i ≤ 1 := by omega
    have hp2 : 2 ^ i ≤ 2 ^ 1 := Nat.pow_le_pow_right (by decide) hi2
    walk_at "goe"
    refine vc__law_changed (by omega) fun v hv => ?_
    refine ⟨v, _, ?_, rfl, rfl⟩
    rw [Nat.pow_succ]
    omega
  rintro ρ1 S1 ⟨u, x4, hu, rfl, rfl⟩
  have hu : u.length ≤ 1000 := by
    rw [rngP_length] at hu
    have h2 : (cell ns 2 % 4 - 1).toNat ≤ 2 := by omega
    have := Nat.pow_le_pow_right (n := 2) (by decide) h2
    omega
  walk_at "st"
  refine ve_lcm (by decide) (vi_range1 ?_)
  walk_at "goe"
  refine ⟨by omega, by omega, ((bits 7 8).map PyData.bool).map .dat, rfl, by rw [List.length_map, List.length_map]; exact Nat.lt_of_lt_of_le (show 9 < 10 by decide) (by decide), ?_, fun q => ?_⟩
  · intro k x e2
    obtain ⟨hk, rfl⟩ := rngP_get e2
    have hk : k < 9 := hk
    walk_at "goe"
    refine vr_inI (is := [7, 8]) (.inr .dat) ?_
    refine ⟨rfl, rfl, ?_⟩
    unfold bits
    rw [List.getElem?_map, List.getElem?_map, List.getElem?_map, List.getElem?_range hk]
    rfl
  walk_at "goe"
  refine vc_tupleL (.own (by walk_at "mem")) ?_
  rw [tupP_dats]
  refine vs_pre (S' := []) (.sub (List.nil_sublist _)) ?_
  generalize hfs : ((bits 7 8).map PyData.bool) = fs
  have ffs : Fit 1 (.tuple fs) := by rw [← hfs]; exact fit_tup (n := 0) (fit_map (fun _ => fit_bool) _)
  walk_at "st"
  refine ve_dnewK ?_
  walk_at "goe"
  walk_at "st"
  refine vr_ixAll (Pr := fun d => ∀ tx, d ≠ .str tx) (.inl .dat) (mod_in (cell ns 5) (by decide)) ?_ fun d hd => ?_
  · refine List.forall_mem_cons.mpr ⟨⟨_, rfl, fun _ z => nomatch z⟩, ?_⟩
    refine List.forall_mem_cons.mpr ⟨⟨_, rfl, fun _ z => nomatch z⟩, ?_⟩
    refine List.forall_mem_cons.mpr ⟨⟨_, rfl, fun _ z => nomatch z⟩, ?_⟩
    refine List.forall_mem_cons.mpr ⟨⟨_, rfl, fun _ z => nomatch z⟩, ?_⟩
    refine List.forall_mem_cons.mpr ⟨⟨_, rfl, fun _ z => nomatch z⟩, ?_⟩
    refine List.forall_mem_cons.mpr ⟨⟨_, rfl, fun _ z => nomatch z⟩, ?_⟩
    refine List.forall_mem_cons.mpr ⟨⟨_, rfl, fun _ z => nomatch z⟩, ?_⟩
    exact fun _ z => nomatch z
  walk_at "goe"
  refine vc__law_told (fun tx e => absurd e (hd tx)) (fun l tx e => absurd e (hd tx)) fun _ => ?_
  rw [hfs]
  walk_at "goe"
  refine vr_neS .dat .dat ffs ?_
  walk_at "goe"
  walk_at "st"
  refine vc__law_told (fun _ e => by cases e; exact hu) (fun lf tx e k => ?_) fun ng => ?_
  · cases e
    refine vs_freeze 0 7 rfl rfl (dats_map _) ?_
    dsimp only [List.eraseIdx_cons_zero]
    walk_at "norm"
    walk_at "st"
    refine vc__law_due hu (fun ld _ => ?_) fun nk => absurd k nk
    refine vs_freeze 0 3 rfl rfl (dats_map _) ?_
    dsimp only [List.eraseIdx_cons_zero]
    walk_at "norm"
    have gu : Gd (rdT u) := OkT.gd k
    walk_at "st"
    refine vr_isN trivial ⟨false, rfl, ?_⟩
    refine br_f rfl ?_
    walk_at "goe"
    walk_at "st"
    refine vr_neS .dat .dat (fit_train _) ?_
    walk_at "goe"
    refine ve_lcm (by decide) (vi_list ?_)
    walk_at "goe"
    refine ⟨_, .dat, ((rdT u).map fun _ => true).map fun b => .dat (.bool b), ?_, ?_, ?_, fun q => ?_⟩
    · unfold trainD
      rw [List.length_map, List.length_map, List.length_map, List.length_map]
    · rw [List.length_map, List.length_map]
      have := gu.hi
      omega
    · intro k x e
      obtain ⟨ws, hw, rfl⟩ := stages_at e
      walk_at "goe"
      refine ⟨rfl, rfl, ?_⟩
      rw [List.getElem?_map, List.getElem?_map, hw]
      rfl
    walk_at "goe"
    refine vc_all (.own (by walk_at "mem")) ?_
    rw [show ((rdT u).map fun _ => true).all id = true from by rw [List.all_map]; exact List.all_eq_true.mpr fun _ _ => rfl]
    walk_at "goe"
    refine vs_pre (S' := []) (.sub (List.nil_sublist _)) ?_
    walk_at "st"
    refine vc_list (.inl .dat) (nobs_dats _) fun lk => ?_
    walk_at "goe"
    walk_at "st"
    refine vc_readG hu k fun la => ?_
    walk_at "goe"
    walk_at "st"
    refine ⟨0, la, _, rfl, rfl, ?_⟩
    walk_at "norm"
    walk_at "goe"
    refine vr_eqS .dat (.own (by walk_at "mem") (Das.dats _)) (fit_train _) ?_
    walk_at "goe"
    refine vc_readG hu k fun la2 => ?_
    walk_at "goe"
    refine vr_eqS (.own (by walk_at "mem") (Das.dats _)) .dat (fit_train _) ?_
    exact fin_ret rfl
  · rw [hfs]
    walk_at "goe"
    walk_at "st"
    refine vc__law_due hu (fun ld k => absurd ⟨u, rfl, k⟩ ng) fun nk => ?_
    walk_at "st"
    refine vr_isN trivial ⟨true, rfl, ?_⟩
    refine br_t rfl ?_
    walk_at "goe"
    refine vr_eqS .dat .dat ffs ?_
    exact fin_ret rfl
theorem law_in {K : PySem.W.Frag} {H : Hp} {a : Addr} {ns : List Int} (hl : ns.length ≤ 63) (hS : SqL K H a (ns.map V.int)) : sp_law K [.ref a] H (fun v _ => v = .bl true) fun _ _ _ => False := law_inW hl hS

end
theorem all_mk {l : PySem.W.OpenLaw} {w : World} {K : PySem.W.Frag} {h : Heap} {mg : Str → Option Value} {fa : Addr} (X : K.In h) (G : h.Ns mainGlobals mg) (hfa : mg "law" = some (.ref fa))
    {f_is_whole : Addr} {od_is_whole an_is_whole : Option Addr} {sl_is_whole : Array (Option Value)} {oc_is_whole kV_is_whole dc_is_whole pm_is_whole cd_is_whole ct_is_whole : Value}
    (a_is_whole : PySem.W.nsIn K mainGlobals "is_whole" = some (some (.ref f_is_whole))) (l_is_whole : K.lookup f_is_whole = some ⟨oc_is_whole, od_is_whole, .func (PySem.W.fnOf "is_whole" "is_whole" (defArgs s_is_whole) (defBody s_is_whole) (defScope s_is_whole) .none kV_is_whole dc_is_whole pm_is_whole an_is_whole cd_is_whole ct_is_whole), sl_is_whole⟩) (e_is_whole : PySem.W.codeIn K cd_is_whole "is_whole" = true) (k_is_whole : PySem.W.keepIn K (.ref f_is_whole) = true)
    {f_is_wheel : Addr} {od_is_wheel an_is_wheel : Option Addr} {sl_is_wheel : Array (Option Value)} {oc_is_wheel kV_is_wheel dc_is_wheel pm_is_wheel cd_is_wheel ct_is_wheel : Value}
    (a_is_wheel : PySem.W.nsIn K mainGlobals "is_wheel" = some (some (.ref f_is_wheel))) (l_is_wheel : K.lookup f_is_wheel = some ⟨oc_is_wheel, od_is_wheel, .func (PySem.W.fnOf "is_wheel" "is_wheel" (defArgs s_is_wheel) (defBody s_is_wheel) (defScope s_is_wheel) .none kV_is_wheel dc_is_wheel pm_is_wheel an_is_wheel cd_is_wheel ct_is_wheel), sl_is_wheel⟩) (e_is_wheel : PySem.W.codeIn K cd_is_wheel "is_wheel" = true) (k_is_wheel : PySem.W.keepIn K (.ref f_is_wheel) = true)
    {f_is_stage : Addr} {od_is_stage an_is_stage : Option Addr} {sl_is_stage : Array (Option Value)} {oc_is_stage kV_is_stage dc_is_stage pm_is_stage cd_is_stage ct_is_stage : Value}
    (a_is_stage : PySem.W.nsIn K mainGlobals "is_stage" = some (some (.ref f_is_stage))) (l_is_stage : K.lookup f_is_stage = some ⟨oc_is_stage, od_is_stage, .func (PySem.W.fnOf "is_stage" "is_stage" (defArgs s_is_stage) (defBody s_is_stage) (defScope s_is_stage) .none kV_is_stage dc_is_stage pm_is_stage an_is_stage cd_is_stage ct_is_stage), sl_is_stage⟩) (e_is_stage : PySem.W.codeIn K cd_is_stage "is_stage" = true) (k_is_stage : PySem.W.keepIn K (.ref f_is_stage) = true)
    {f_need_train : Addr} {od_need_train an_need_train : Option Addr} {sl_need_train : Array (Option Value)} {oc_need_train kV_need_train dc_need_train pm_need_train cd_need_train ct_need_train : Value}
    (a_need_train : PySem.W.nsIn K mainGlobals "need_train" = some (some (.ref f_need_train))) (l_need_train : K.lookup f_need_train = some ⟨oc_need_train, od_need_train, .func (PySem.W.fnOf "need_train" "need_train" (defArgs s_need_train) (defBody s_need_train) (defScope s_need_train) .none kV_need_train dc_need_train pm_need_train an_need_train cd_need_train ct_need_train), sl_need_train⟩) (e_need_train : PySem.W.codeIn K cd_need_train "need_train" = true) (k_need_train : PySem.W.keepIn K (.ref f_need_train) = true)
    {f_written : Addr} {od_written an_written : Option Addr} {sl_written : Array (Option Value)} {oc_written kV_written dc_written pm_written cd_written ct_written : Value}
    (a_written : PySem.W.nsIn K mainGlobals "written" = some (some (.ref f_written))) (l_written : K.lookup f_written = some ⟨oc_written, od_written, .func (PySem.W.fnOf "written" "written" (defArgs s_written) (defBody s_written) (defScope s_written) .none kV_written dc_written pm_written an_written cd_written ct_written), sl_written⟩) (e_written : PySem.W.codeIn K cd_written "written" = true) (k_written : PySem.W.keepIn K (.ref f_written) = true)
    {f_written_stage : Addr} {od_written_stage an_written_stage : Option Addr} {sl_written_stage : Array (Option Value)} {oc_written_stage kV_written_stage dc_written_stage pm_written_stage cd_written_stage ct_written_stage : Value}
    (a_written_stage : PySem.W.nsIn K mainGlobals "written_stage" = some (some (.ref f_written_stage))) (l_written_stage : K.lookup f_written_stage = some ⟨oc_written_stage, od_written_stage, .func (PySem.W.fnOf "written_stage" "written_stage" (defArgs s_written_stage) (defBody s_written_stage) (defScope s_written_stage) .none kV_written_stage dc_written_stage pm_written_stage an_written_stage cd_written_stage ct_written_stage), sl_written_stage⟩) (e_written_stage : PySem.W.codeIn K cd_written_stage "written_stage" = true) (k_written_stage : PySem.W.keepIn K (.ref f_written_stage) = true)
    {f_read : Addr} {od_read an_read : Option Addr} {sl_read : Array (Option Value)} {oc_read kV_read dc_read pm_read cd_read ct_read : Value}
    (a_read : PySem.W.nsIn K mainGlobals "read" = some (some (.ref f_read))) (l_read : K.lookup f_read = some ⟨oc_read, od_read, .func (PySem.W.fnOf "read" "read" (defArgs s_read) (defBody s_read) (defScope s_read) .none kV_read dc_read pm_read an_read cd_read ct_read), sl_read⟩) (e_read : PySem.W.codeIn K cd_read "read" = true) (k_read : PySem.W.keepIn K (.ref f_read) = true)
    {f_read_stage : Addr} {od_read_stage an_read_stage : Option Addr} {sl_read_stage : Array (Option Value)} {oc_read_stage kV_read_stage dc_read_stage pm_read_stage cd_read_stage ct_read_stage : Value}
    (a_read_stage : PySem.W.nsIn K mainGlobals "read_stage" = some (some (.ref f_read_stage))) (l_read_stage : K.lookup f_read_stage = some ⟨oc_read_stage, od_read_stage, .func (PySem.W.fnOf "read_stage" "read_stage" (defArgs s_read_stage) (defBody s_read_stage) (defScope s_read_stage) .none kV_read_stage dc_read_stage pm_read_stage an_read_stage cd_read_stage ct_read_stage), sl_read_stage⟩) (e_read_stage : PySem.W.codeIn K cd_read_stage "read_stage" = true) (k_read_stage : PySem.W.keepIn K (.ref f_read_stage) = true)
    {f__law_at : Addr} {od__law_at an__law_at : Option Addr} {sl__law_at : Array (Option Value)} {oc__law_at kV__law_at dc__law_at pm__law_at cd__law_at ct__law_at : Value}
    (a__law_at : PySem.W.nsIn K mainGlobals "_law_at" = some (some (.ref f__law_at))) (l__law_at : K.lookup f__law_at = some ⟨oc__law_at, od__law_at, .func (PySem.W.fnOf "_law_at" "_law_at" (defArgs s__law_at) (defBody s__law_at) (defScope s__law_at) .none kV__law_at dc__law_at pm__law_at an__law_at cd__law_at ct__law_at), sl__law_at⟩) (e__law_at : PySem.W.codeIn K cd__law_at "_law_at" = true) (k__law_at : PySem.W.keepIn K (.ref f__law_at) = true)
    {f__law_mixed : Addr} {od__law_mixed an__law_mixed : Option Addr} {sl__law_mixed : Array (Option Value)} {oc__law_mixed kV__law_mixed dc__law_mixed pm__law_mixed cd__law_mixed ct__law_mixed : Value}
    (a__law_mixed : PySem.W.nsIn K mainGlobals "_law_mixed" = some (some (.ref f__law_mixed))) (l__law_mixed : K.lookup f__law_mixed = some ⟨oc__law_mixed, od__law_mixed, .func (PySem.W.fnOf "_law_mixed" "_law_mixed" (defArgs s__law_mixed) (defBody s__law_mixed) (defScope s__law_mixed) .none kV__law_mixed dc__law_mixed pm__law_mixed an__law_mixed cd__law_mixed ct__law_mixed), sl__law_mixed⟩) (e__law_mixed : PySem.W.codeIn K cd__law_mixed "_law_mixed" = true) (k__law_mixed : PySem.W.keepIn K (.ref f__law_mixed) = true)
    {f__law_train : Addr} {od__law_train an__law_train : Option Addr} {sl__law_train : Array (Option Value)} {oc__law_train kV__law_train dc__law_train pm__law_train cd__law_train ct__law_train : Value}
    (a__law_train : PySem.W.nsIn K mainGlobals "_law_train" = some (some (.ref f__law_train))) (l__law_train : K.lookup f__law_train = some ⟨oc__law_train, od__law_train, .func (PySem.W.fnOf "_law_train" "_law_train" (defArgs s__law_train) (defBody s__law_train) (defScope s__law_train) .none kV__law_train dc__law_train pm__law_train an__law_train cd__law_train ct__law_train), sl__law_train⟩) (e__law_train : PySem.W.codeIn K cd__law_train "_law_train" = true) (k__law_train : PySem.W.keepIn K (.ref f__law_train) = true)
    {f__law_kinds : Addr} {od__law_kinds an__law_kinds : Option Addr} {sl__law_kinds : Array (Option Value)} {oc__law_kinds kV__law_kinds dc__law_kinds pm__law_kinds cd__law_kinds ct__law_kinds : Value}
    (a__law_kinds : PySem.W.nsIn K mainGlobals "_law_kinds" = some (some (.ref f__law_kinds))) (l__law_kinds : K.lookup f__law_kinds = some ⟨oc__law_kinds, od__law_kinds, .func (PySem.W.fnOf "_law_kinds" "_law_kinds" (defArgs s__law_kinds) (defBody s__law_kinds) (defScope s__law_kinds) .none kV__law_kinds dc__law_kinds pm__law_kinds an__law_kinds cd__law_kinds ct__law_kinds), sl__law_kinds⟩) (e__law_kinds : PySem.W.codeIn K cd__law_kinds "_law_kinds" = true) (k__law_kinds : PySem.W.keepIn K (.ref f__law_kinds) = true)
    {f__law_changed : Addr} {od__law_changed an__law_changed : Option Addr} {sl__law_changed : Array (Option Value)} {oc__law_changed kV__law_changed dc__law_changed pm__law_changed cd__law_changed ct__law_changed : Value}
    (a__law_changed : PySem.W.nsIn K mainGlobals "_law_changed" = some (some (.ref f__law_changed))) (l__law_changed : K.lookup f__law_changed = some ⟨oc__law_changed, od__law_changed, .func (PySem.W.fnOf "_law_changed" "_law_changed" (defArgs s__law_changed) (defBody s__law_changed) (defScope s__law_changed) .none kV__law_changed dc__law_changed pm__law_changed an__law_changed cd__law_changed ct__law_changed), sl__law_changed⟩) (e__law_changed : PySem.W.codeIn K cd__law_changed "_law_changed" = true) (k__law_changed : PySem.W.keepIn K (.ref f__law_changed) = true)
    {f__law_wheel : Addr} {od__law_wheel an__law_wheel : Option Addr} {sl__law_wheel : Array (Option Value)} {oc__law_wheel kV__law_wheel dc__law_wheel pm__law_wheel cd__law_wheel ct__law_wheel : Value}
    (a__law_wheel : PySem.W.nsIn K mainGlobals "_law_wheel" = some (some (.ref f__law_wheel))) (l__law_wheel : K.lookup f__law_wheel = some ⟨oc__law_wheel, od__law_wheel, .func (PySem.W.fnOf "_law_wheel" "_law_wheel" (defArgs s__law_wheel) (defBody s__law_wheel) (defScope s__law_wheel) .none kV__law_wheel dc__law_wheel pm__law_wheel an__law_wheel cd__law_wheel ct__law_wheel), sl__law_wheel⟩) (e__law_wheel : PySem.W.codeIn K cd__law_wheel "_law_wheel" = true) (k__law_wheel : PySem.W.keepIn K (.ref f__law_wheel) = true)
    {f__law_due : Addr} {od__law_due an__law_due : Option Addr} {sl__law_due : Array (Option Value)} {oc__law_due kV__law_due dc__law_due pm__law_due cd__law_due ct__law_due : Value}
    (a__law_due : PySem.W.nsIn K mainGlobals "_law_due" = some (some (.ref f__law_due))) (l__law_due : K.lookup f__law_due = some ⟨oc__law_due, od__law_due, .func (PySem.W.fnOf "_law_due" "_law_due" (defArgs s__law_due) (defBody s__law_due) (defScope s__law_due) .none kV__law_due dc__law_due pm__law_due an__law_due cd__law_due ct__law_due), sl__law_due⟩) (e__law_due : PySem.W.codeIn K cd__law_due "_law_due" = true) (k__law_due : PySem.W.keepIn K (.ref f__law_due) = true)
    {f__law_told : Addr} {od__law_told an__law_told : Option Addr} {sl__law_told : Array (Option Value)} {oc__law_told kV__law_told dc__law_told pm__law_told cd__law_told ct__law_told : Value}
    (a__law_told : PySem.W.nsIn K mainGlobals "_law_told" = some (some (.ref f__law_told))) (l__law_told : K.lookup f__law_told = some ⟨oc__law_told, od__law_told, .func (PySem.W.fnOf "_law_told" "_law_told" (defArgs s__law_told) (defBody s__law_told) (defScope s__law_told) .none kV__law_told dc__law_told pm__law_told an__law_told cd__law_told ct__law_told), sl__law_told⟩) (e__law_told : PySem.W.codeIn K cd__law_told "_law_told" = true) (k__law_told : PySem.W.keepIn K (.ref f__law_told) = true)
    {f_law : Addr} {od_law an_law : Option Addr} {sl_law : Array (Option Value)} {oc_law kV_law dc_law pm_law cd_law ct_law : Value}
    (a_law : PySem.W.nsIn K mainGlobals "law" = some (some (.ref f_law))) (l_law : K.lookup f_law = some ⟨oc_law, od_law, .func (PySem.W.fnOf "law" "law" (defArgs s_law) (defBody s_law) (defScope s_law) .none kV_law dc_law pm_law an_law cd_law ct_law), sl_law⟩) (e_law : PySem.W.codeIn K cd_law "law" = true) (k_law : PySem.W.keepIn K (.ref f_law) = true)
    (z_ValueError : PySem.W.nsIn K mainGlobals "ValueError" = some none)
    (z_all : PySem.W.nsIn K mainGlobals "all" = some none)
    (z_bool : PySem.W.nsIn K mainGlobals "bool" = some none)
    (z_int : PySem.W.nsIn K mainGlobals "int" = some none)
    (z_isinstance : PySem.W.nsIn K mainGlobals "isinstance" = some none)
    (z_len : PySem.W.nsIn K mainGlobals "len" = some none)
    (z_list : PySem.W.nsIn K mainGlobals "list" = some none)
    (z_range : PySem.W.nsIn K mainGlobals "range" = some none)
    (z_str : PySem.W.nsIn K mainGlobals "str" = some none)
    (z_tuple : PySem.W.nsIn K mainGlobals "tuple" = some none)
    {t_LEAST_TEETH : Tok} (c_LEAST_TEETH : PySem.W.nsIn K mainGlobals "LEAST_TEETH" = some (some (.int 2 t_LEAST_TEETH)))
    {t_MOST_TEETH : Tok} (c_MOST_TEETH : PySem.W.nsIn K mainGlobals "MOST_TEETH" = some (some (.int 60 t_MOST_TEETH)))
    {t_LEAST_WHEELS : Tok} (c_LEAST_WHEELS : PySem.W.nsIn K mainGlobals "LEAST_WHEELS" = some (some (.int 2 t_LEAST_WHEELS)))
    {t_MOST_WHEELS : Tok} (c_MOST_WHEELS : PySem.W.nsIn K mainGlobals "MOST_WHEELS" = some (some (.int 5 t_MOST_WHEELS)))
    {t_LEAST_STAGES : Tok} (c_LEAST_STAGES : PySem.W.nsIn K mainGlobals "LEAST_STAGES" = some (some (.int 1 t_LEAST_STAGES)))
    {t_MOST_STAGES : Tok} (c_MOST_STAGES : PySem.W.nsIn K mainGlobals "MOST_STAGES" = some (some (.int 3 t_MOST_STAGES)))
    {C_TrainError C_BadRatio C_BadTrain C_BadShop C_BadPairs C_BadPlace C_BadWheel C_TooLong C_NoText : Addr}
    (g_TrainError : PySem.W.nsIn K mainGlobals "TrainError" = some (some (.ref C_TrainError)))
    (g_BadRatio : PySem.W.nsIn K mainGlobals "BadRatio" = some (some (.ref C_BadRatio)))
    (g_BadTrain : PySem.W.nsIn K mainGlobals "BadTrain" = some (some (.ref C_BadTrain)))
    (g_BadShop : PySem.W.nsIn K mainGlobals "BadShop" = some (some (.ref C_BadShop)))
    (g_BadPairs : PySem.W.nsIn K mainGlobals "BadPairs" = some (some (.ref C_BadPairs)))
    (g_BadPlace : PySem.W.nsIn K mainGlobals "BadPlace" = some (some (.ref C_BadPlace)))
    (g_BadWheel : PySem.W.nsIn K mainGlobals "BadWheel" = some (some (.ref C_BadWheel)))
    (g_TooLong : PySem.W.nsIn K mainGlobals "TooLong" = some (some (.ref C_TooLong)))
    (g_NoText : PySem.W.nsIn K mainGlobals "NoText" = some (some (.ref C_NoText)))
    (r_TrainError : PySem.W.subIn K (.ref C_TrainError) (.type "BaseException") = some true)
    (t_TrainError : PySem.W.typeIn K (.ref C_TrainError) = some (.type "type"))
    (i_TrainError : PySem.W.isClsIn K C_TrainError = true)
    (r_BadRatio : PySem.W.subIn K (.ref C_BadRatio) (.type "BaseException") = some true)
    (t_BadRatio : PySem.W.typeIn K (.ref C_BadRatio) = some (.type "type"))
    (i_BadRatio : PySem.W.isClsIn K C_BadRatio = true)
    (r_BadTrain : PySem.W.subIn K (.ref C_BadTrain) (.type "BaseException") = some true)
    (t_BadTrain : PySem.W.typeIn K (.ref C_BadTrain) = some (.type "type"))
    (i_BadTrain : PySem.W.isClsIn K C_BadTrain = true)
    (r_BadShop : PySem.W.subIn K (.ref C_BadShop) (.type "BaseException") = some true)
    (t_BadShop : PySem.W.typeIn K (.ref C_BadShop) = some (.type "type"))
    (i_BadShop : PySem.W.isClsIn K C_BadShop = true)
    (r_BadPairs : PySem.W.subIn K (.ref C_BadPairs) (.type "BaseException") = some true)
    (t_BadPairs : PySem.W.typeIn K (.ref C_BadPairs) = some (.type "type"))
    (i_BadPairs : PySem.W.isClsIn K C_BadPairs = true)
    (r_BadPlace : PySem.W.subIn K (.ref C_BadPlace) (.type "BaseException") = some true)
    (t_BadPlace : PySem.W.typeIn K (.ref C_BadPlace) = some (.type "type"))
    (i_BadPlace : PySem.W.isClsIn K C_BadPlace = true)
    (r_BadWheel : PySem.W.subIn K (.ref C_BadWheel) (.type "BaseException") = some true)
    (t_BadWheel : PySem.W.typeIn K (.ref C_BadWheel) = some (.type "type"))
    (i_BadWheel : PySem.W.isClsIn K C_BadWheel = true)
    (r_TooLong : PySem.W.subIn K (.ref C_TooLong) (.type "BaseException") = some true)
    (t_TooLong : PySem.W.typeIn K (.ref C_TooLong) = some (.type "type"))
    (i_TooLong : PySem.W.isClsIn K C_TooLong = true)
    (r_NoText : PySem.W.subIn K (.ref C_NoText) (.type "BaseException") = some true)
    (t_NoText : PySem.W.typeIn K (.ref C_NoText) = some (.type "type"))
    (i_NoText : PySem.W.isClsIn K C_NoText = true)
    (q_spec : PySem.W.specialIn K (.builtin "object.__class__") "__get__" = some (some (.builtin "getset_descriptor.__get__")))
    (q_takes : PySem.W.takesIn K (.builtin "object.__class__") = some true)
    (x_BadTrain : PySem.W.excIn K C_BadTrain [.type "ValueError", .type "Exception", .type "BaseException", .type "object"] "ValueError.__new__" = true)
    (k_BadTrain : PySem.W.keepIn K (.ref C_BadTrain) = true)
    (a1_BadTrain : PySem.W.findIn K (.ref C_BadTrain) "__getattribute__" = some (some (.builtin "BaseException.__getattribute__")))
    (a2_BadTrain : PySem.W.findIn K (.ref C_BadTrain) "__getattr__" = some none)
    (a3_BadTrain : PySem.W.hasDictIn K C_BadTrain = true)
    (a4_BadTrain : PySem.W.findIn K (.ref C_BadTrain) "__class__" = some (some (.builtin "object.__class__")))
    (a5_BadTrain : PySem.W.mroIn K C_BadTrain (.type "object") = some true)
    (v_BadTrain : PySem.W.subIn K (.ref C_BadTrain) (.type "ValueError") = some true)
    (s_BadTrain_TrainError : PySem.W.subIn K (.ref C_BadTrain) (.ref C_TrainError) = some true)
    (s_BadTrain_BadRatio : PySem.W.subIn K (.ref C_BadTrain) (.ref C_BadRatio) = some false)
    (s_BadTrain_BadTrain : PySem.W.subIn K (.ref C_BadTrain) (.ref C_BadTrain) = some true)
    (s_BadTrain_BadShop : PySem.W.subIn K (.ref C_BadTrain) (.ref C_BadShop) = some false)
    (s_BadTrain_BadPairs : PySem.W.subIn K (.ref C_BadTrain) (.ref C_BadPairs) = some false)
    (s_BadTrain_BadPlace : PySem.W.subIn K (.ref C_BadTrain) (.ref C_BadPlace) = some false)
    (s_BadTrain_BadWheel : PySem.W.subIn K (.ref C_BadTrain) (.ref C_BadWheel) = some false)
    (s_BadTrain_TooLong : PySem.W.subIn K (.ref C_BadTrain) (.ref C_TooLong) = some false)
    (s_BadTrain_NoText : PySem.W.subIn K (.ref C_BadTrain) (.ref C_NoText) = some false)
    (x_NoText : PySem.W.excIn K C_NoText [.type "ValueError", .type "Exception", .type "BaseException", .type "object"] "ValueError.__new__" = true)
    (k_NoText : PySem.W.keepIn K (.ref C_NoText) = true)
    (a1_NoText : PySem.W.findIn K (.ref C_NoText) "__getattribute__" = some (some (.builtin "BaseException.__getattribute__")))
    (a2_NoText : PySem.W.findIn K (.ref C_NoText) "__getattr__" = some none)
    (a3_NoText : PySem.W.hasDictIn K C_NoText = true)
    (a4_NoText : PySem.W.findIn K (.ref C_NoText) "__class__" = some (some (.builtin "object.__class__")))
    (a5_NoText : PySem.W.mroIn K C_NoText (.type "object") = some true)
    (v_NoText : PySem.W.subIn K (.ref C_NoText) (.type "ValueError") = some true)
    (s_NoText_TrainError : PySem.W.subIn K (.ref C_NoText) (.ref C_TrainError) = some true)
    (s_NoText_BadRatio : PySem.W.subIn K (.ref C_NoText) (.ref C_BadRatio) = some false)
    (s_NoText_BadTrain : PySem.W.subIn K (.ref C_NoText) (.ref C_BadTrain) = some false)
    (s_NoText_BadShop : PySem.W.subIn K (.ref C_NoText) (.ref C_BadShop) = some false)
    (s_NoText_BadPairs : PySem.W.subIn K (.ref C_NoText) (.ref C_BadPairs) = some false)
    (s_NoText_BadPlace : PySem.W.subIn K (.ref C_NoText) (.ref C_BadPlace) = some false)
    (s_NoText_BadWheel : PySem.W.subIn K (.ref C_NoText) (.ref C_BadWheel) = some false)
    (s_NoText_TooLong : PySem.W.subIn K (.ref C_NoText) (.ref C_TooLong) = some false)
    (s_NoText_NoText : PySem.W.subIn K (.ref C_NoText) (.ref C_NoText) = some true)
    : ∃ fd : FuncData, (∀ (s : Shared) (v : Value), BindsTo s fd ⟨[v], []⟩ [("_law_script", v)]) ∧ ∀ base : Heap, K.In base → base.Ns mainGlobals mg → FnOk l.prog w K mg base CX0 7 fa fd ["_law_script"] (sp_law K) := by
  have e := hfa.symm.trans (PySem.W.mg_of X G a_law)
  cases e
  let T : Tx K mg := {
    f_is_whole := f_is_whole, d_is_whole := _, F_is_whole := fun_mk (st := s_is_whole) l_is_whole e_is_whole k_is_whole, g_is_whole := PySem.W.mg_of X G a_is_whole, b_is_whole := (fun_mk (st := s_is_whole) l_is_whole e_is_whole k_is_whole).binds (ps := ["thing", "least", "greatest"]) fun _ _ _ _ _ _ us hl => match us, hl with | [_, _, _], _ => rfl,
    f_is_wheel := f_is_wheel, d_is_wheel := _, F_is_wheel := fun_mk (st := s_is_wheel) l_is_wheel e_is_wheel k_is_wheel, g_is_wheel := PySem.W.mg_of X G a_is_wheel, b_is_wheel := (fun_mk (st := s_is_wheel) l_is_wheel e_is_wheel k_is_wheel).binds (ps := ["thing"]) fun _ _ _ _ _ _ us hl => match us, hl with | [_], _ => rfl,
    f_is_stage := f_is_stage, d_is_stage := _, F_is_stage := fun_mk (st := s_is_stage) l_is_stage e_is_stage k_is_stage, g_is_stage := PySem.W.mg_of X G a_is_stage, b_is_stage := (fun_mk (st := s_is_stage) l_is_stage e_is_stage k_is_stage).binds (ps := ["thing"]) fun _ _ _ _ _ _ us hl => match us, hl with | [_], _ => rfl,
    f_need_train := f_need_train, d_need_train := _, F_need_train := fun_mk (st := s_need_train) l_need_train e_need_train k_need_train, g_need_train := PySem.W.mg_of X G a_need_train, b_need_train := (fun_mk (st := s_need_train) l_need_train e_need_train k_need_train).binds (ps := ["thing"]) fun _ _ _ _ _ _ us hl => match us, hl with | [_], _ => rfl,
    f_written := f_written, d_written := _, F_written := fun_mk (st := s_written) l_written e_written k_written, g_written := PySem.W.mg_of X G a_written, b_written := (fun_mk (st := s_written) l_written e_written k_written).binds (ps := ["train"]) fun _ _ _ _ _ _ us hl => match us, hl with | [_], _ => rfl,
    f_written_stage := f_written_stage, d_written_stage := _, F_written_stage := fun_mk (st := s_written_stage) l_written_stage e_written_stage k_written_stage, g_written_stage := PySem.W.mg_of X G a_written_stage, b_written_stage := (fun_mk (st := s_written_stage) l_written_stage e_written_stage k_written_stage).binds (ps := ["stage"]) fun _ _ _ _ _ _ us hl => match us, hl with | [_], _ => rfl,
    f_read := f_read, d_read := _, F_read := fun_mk (st := s_read) l_read e_read k_read, g_read := PySem.W.mg_of X G a_read, b_read := (fun_mk (st := s_read) l_read e_read k_read).binds (ps := ["text"]) fun _ _ _ _ _ _ us hl => match us, hl with | [_], _ => rfl,
    f_read_stage := f_read_stage, d_read_stage := _, F_read_stage := fun_mk (st := s_read_stage) l_read_stage e_read_stage k_read_stage, g_read_stage := PySem.W.mg_of X G a_read_stage, b_read_stage := (fun_mk (st := s_read_stage) l_read_stage e_read_stage k_read_stage).binds (ps := ["part"]) fun _ _ _ _ _ _ us hl => match us, hl with | [_], _ => rfl,
    f__law_at := f__law_at, d__law_at := _, F__law_at := fun_mk (st := s__law_at) l__law_at e__law_at k__law_at, g__law_at := PySem.W.mg_of X G a__law_at, b__law_at := (fun_mk (st := s__law_at) l__law_at e__law_at k__law_at).binds (ps := ["_law_script", "_law_k"]) fun _ _ _ _ _ _ us hl => match us, hl with | [_, _], _ => rfl,
    f__law_mixed := f__law_mixed, d__law_mixed := _, F__law_mixed := fun_mk (st := s__law_mixed) l__law_mixed e__law_mixed k__law_mixed, g__law_mixed := PySem.W.mg_of X G a__law_mixed, b__law_mixed := (fun_mk (st := s__law_mixed) l__law_mixed e__law_mixed k__law_mixed).binds (ps := ["_law_cell", "_law_k"]) fun _ _ _ _ _ _ us hl => match us, hl with | [_, _], _ => rfl,
    f__law_train := f__law_train, d__law_train := _, F__law_train := fun_mk (st := s__law_train) l__law_train e__law_train k__law_train, g__law_train := PySem.W.mg_of X G a__law_train, b__law_train := (fun_mk (st := s__law_train) l__law_train e__law_train k__law_train).binds (ps := ["_law_cell", "_law_more"]) fun _ _ _ _ _ _ us hl => match us, hl with | [_, _], _ => rfl,
    f__law_kinds := f__law_kinds, d__law_kinds := _, F__law_kinds := fun_mk (st := s__law_kinds) l__law_kinds e__law_kinds k__law_kinds, g__law_kinds := PySem.W.mg_of X G a__law_kinds, b__law_kinds := (fun_mk (st := s__law_kinds) l__law_kinds e__law_kinds k__law_kinds).binds (ps := ["_law_e"]) fun _ _ _ _ _ _ us hl => match us, hl with | [_], _ => rfl,
    f__law_changed := f__law_changed, d__law_changed := _, F__law_changed := fun_mk (st := s__law_changed) l__law_changed e__law_changed k__law_changed, g__law_changed := PySem.W.mg_of X G a__law_changed, b__law_changed := (fun_mk (st := s__law_changed) l__law_changed e__law_changed k__law_changed).binds (ps := ["_law_text", "_law_cell"]) fun _ _ _ _ _ _ us hl => match us, hl with | [_, _], _ => rfl,
    f__law_wheel := f__law_wheel, d__law_wheel := _, F__law_wheel := fun_mk (st := s__law_wheel) l__law_wheel e__law_wheel k__law_wheel, g__law_wheel := PySem.W.mg_of X G a__law_wheel, b__law_wheel := (fun_mk (st := s__law_wheel) l__law_wheel e__law_wheel k__law_wheel).binds (ps := ["_law_word"]) fun _ _ _ _ _ _ us hl => match us, hl with | [_], _ => rfl,
    f__law_due := f__law_due, d__law_due := _, F__law_due := fun_mk (st := s__law_due) l__law_due e__law_due k__law_due, g__law_due := PySem.W.mg_of X G a__law_due, b__law_due := (fun_mk (st := s__law_due) l__law_due e__law_due k__law_due).binds (ps := ["_law_text"]) fun _ _ _ _ _ _ us hl => match us, hl with | [_], _ => rfl,
    f__law_told := f__law_told, d__law_told := _, F__law_told := fun_mk (st := s__law_told) l__law_told e__law_told k__law_told, g__law_told := PySem.W.mg_of X G a__law_told, b__law_told := (fun_mk (st := s__law_told) l__law_told e__law_told k__law_told).binds (ps := ["_law_thing"]) fun _ _ _ _ _ _ us hl => match us, hl with | [_], _ => rfl,
    f_law := fa, d_law := _, F_law := fun_mk (st := s_law) l_law e_law k_law, g_law := PySem.W.mg_of X G a_law, b_law := (fun_mk (st := s_law) l_law e_law k_law).binds (ps := ["_law_script"]) fun _ _ _ _ _ _ us hl => match us, hl with | [_], _ => rfl,
    z_ValueError := PySem.W.mg_none_of X G z_ValueError,
    z_all := PySem.W.mg_none_of X G z_all,
    z_bool := PySem.W.mg_none_of X G z_bool,
    z_int := PySem.W.mg_none_of X G z_int,
    z_isinstance := PySem.W.mg_none_of X G z_isinstance,
    z_len := PySem.W.mg_none_of X G z_len,
    z_list := PySem.W.mg_none_of X G z_list,
    z_range := PySem.W.mg_none_of X G z_range,
    z_str := PySem.W.mg_none_of X G z_str,
    z_tuple := PySem.W.mg_none_of X G z_tuple,
    t_LEAST_TEETH := t_LEAST_TEETH, c_LEAST_TEETH := PySem.W.mg_of X G c_LEAST_TEETH,
    t_MOST_TEETH := t_MOST_TEETH, c_MOST_TEETH := PySem.W.mg_of X G c_MOST_TEETH,
    t_LEAST_WHEELS := t_LEAST_WHEELS, c_LEAST_WHEELS := PySem.W.mg_of X G c_LEAST_WHEELS,
    t_MOST_WHEELS := t_MOST_WHEELS, c_MOST_WHEELS := PySem.W.mg_of X G c_MOST_WHEELS,
    t_LEAST_STAGES := t_LEAST_STAGES, c_LEAST_STAGES := PySem.W.mg_of X G c_LEAST_STAGES,
    t_MOST_STAGES := t_MOST_STAGES, c_MOST_STAGES := PySem.W.mg_of X G c_MOST_STAGES,
    C_TrainError := C_TrainError, C_BadRatio := C_BadRatio, C_BadTrain := C_BadTrain, C_BadShop := C_BadShop, C_BadPairs := C_BadPairs, C_BadPlace := C_BadPlace, C_BadWheel := C_BadWheel, C_TooLong := C_TooLong, C_NoText := C_NoText,
    g_TrainError := PySem.W.mg_of X G g_TrainError,
    g_BadRatio := PySem.W.mg_of X G g_BadRatio,
    g_BadTrain := PySem.W.mg_of X G g_BadTrain,
    g_BadShop := PySem.W.mg_of X G g_BadShop,
    g_BadPairs := PySem.W.mg_of X G g_BadPairs,
    g_BadPlace := PySem.W.mg_of X G g_BadPlace,
    g_BadWheel := PySem.W.mg_of X G g_BadWheel,
    g_TooLong := PySem.W.mg_of X G g_TooLong,
    g_NoText := PySem.W.mg_of X G g_NoText,
    r_TrainError := r_TrainError,
    t_TrainError := t_TrainError,
    i_TrainError := i_TrainError,
    r_BadRatio := r_BadRatio,
    t_BadRatio := t_BadRatio,
    i_BadRatio := i_BadRatio,
    r_BadTrain := r_BadTrain,
    t_BadTrain := t_BadTrain,
    i_BadTrain := i_BadTrain,
    r_BadShop := r_BadShop,
    t_BadShop := t_BadShop,
    i_BadShop := i_BadShop,
    r_BadPairs := r_BadPairs,
    t_BadPairs := t_BadPairs,
    i_BadPairs := i_BadPairs,
    r_BadPlace := r_BadPlace,
    t_BadPlace := t_BadPlace,
    i_BadPlace := i_BadPlace,
    r_BadWheel := r_BadWheel,
    t_BadWheel := t_BadWheel,
    i_BadWheel := i_BadWheel,
    r_TooLong := r_TooLong,
    t_TooLong := t_TooLong,
    i_TooLong := i_TooLong,
    r_NoText := r_NoText,
    t_NoText := t_NoText,
    i_NoText := i_NoText,
    q_spec := q_spec,
    q_takes := q_takes,
    x_BadTrain := x_BadTrain,
    k_BadTrain := k_BadTrain,
    a1_BadTrain := a1_BadTrain,
    a2_BadTrain := a2_BadTrain,
    a3_BadTrain := a3_BadTrain,
    a4_BadTrain := a4_BadTrain,
    a5_BadTrain := a5_BadTrain,
    v_BadTrain := v_BadTrain,
    s_BadTrain_TrainError := s_BadTrain_TrainError,
    s_BadTrain_BadRatio := s_BadTrain_BadRatio,
    s_BadTrain_BadTrain := s_BadTrain_BadTrain,
    s_BadTrain_BadShop := s_BadTrain_BadShop,
    s_BadTrain_BadPairs := s_BadTrain_BadPairs,
    s_BadTrain_BadPlace := s_BadTrain_BadPlace,
    s_BadTrain_BadWheel := s_BadTrain_BadWheel,
    s_BadTrain_TooLong := s_BadTrain_TooLong,
    s_BadTrain_NoText := s_BadTrain_NoText,
    x_NoText := x_NoText,
    k_NoText := k_NoText,
    a1_NoText := a1_NoText,
    a2_NoText := a2_NoText,
    a3_NoText := a3_NoText,
    a4_NoText := a4_NoText,
    a5_NoText := a5_NoText,
    v_NoText := v_NoText,
    s_NoText_TrainError := s_NoText_TrainError,
    s_NoText_BadRatio := s_NoText_BadRatio,
    s_NoText_BadTrain := s_NoText_BadTrain,
    s_NoText_BadShop := s_NoText_BadShop,
    s_NoText_BadPairs := s_NoText_BadPairs,
    s_NoText_BadPlace := s_NoText_BadPlace,
    s_NoText_BadWheel := s_NoText_BadWheel,
    s_NoText_TooLong := s_NoText_TooLong,
    s_NoText_NoText := s_NoText_NoText }
  exact ⟨T.d_law, fun s v => .of_eq rfl, fun base _ _ => ok_law T⟩
end Wwheeltrain_k14_texts
open PySem PySem.W PyProof.Rows
set_option maxHeartbeats 0 in
theorem PySem.Challenge.cw_wheeltrain_k14_texts_holds : PySem.Challenge.rw_wheeltrain_k14_texts.Holds := by
  w_on; o_law; k_head; (case hw => w_witness2)
  k_fill
  refine L2.walk_of (l := PySem.Challenge.rw_wheeltrain_k14_texts) (n := 63) (k := 7) (x := "_law_script") (CX := fun _ => L2.CX0) (sp := fun w => Wwheeltrain_k14_texts.sp_law _) rfl (by decide) rfl ⟨rfl, by decide, by decide⟩ (fun w h Y => PySem.W.kIn_of Y) ?F (fun _ H a ns hl _ hS => Wwheeltrain_k14_texts.law_in hl hS) (fun _ _ _ _ _ h => h)
  case F =>
    intro w mg fa h KX G hmg
    refine' Wwheeltrain_k14_texts.all_mk KX G hmg ?a_is_whole ?l_is_whole ?e_is_whole ?k_is_whole ?a_is_wheel ?l_is_wheel ?e_is_wheel ?k_is_wheel ?a_is_stage ?l_is_stage ?e_is_stage ?k_is_stage ?a_need_train ?l_need_train ?e_need_train ?k_need_train ?a_written ?l_written ?e_written ?k_written ?a_written_stage ?l_written_stage ?e_written_stage ?k_written_stage ?a_read ?l_read ?e_read ?k_read ?a_read_stage ?l_read_stage ?e_read_stage ?k_read_stage ?a__law_at ?l__law_at ?e__law_at ?k__law_at ?a__law_mixed ?l__law_mixed ?e__law_mixed ?k__law_mixed ?a__law_train ?l__law_train ?e__law_train ?k__law_train ?a__law_kinds ?l__law_kinds ?e__law_kinds ?k__law_kinds ?a__law_changed ?l__law_changed ?e__law_changed ?k__law_changed ?a__law_wheel ?l__law_wheel ?e__law_wheel ?k__law_wheel ?a__law_due ?l__law_due ?e__law_due ?k__law_due ?a__law_told ?l__law_told ?e__law_told ?k__law_told ?a_law ?l_law ?e_law ?k_law ?z_ValueError ?z_all ?z_bool ?z_int ?z_isinstance ?z_len ?z_list ?z_range ?z_str ?z_tuple ?c_LEAST_TEETH ?c_MOST_TEETH ?c_LEAST_WHEELS ?c_MOST_WHEELS ?c_LEAST_STAGES ?c_MOST_STAGES ?g_TrainError ?g_BadRatio ?g_BadTrain ?g_BadShop ?g_BadPairs ?g_BadPlace ?g_BadWheel ?g_TooLong ?g_NoText ?r_TrainError ?t_TrainError ?i_TrainError ?r_BadRatio ?t_BadRatio ?i_BadRatio ?r_BadTrain ?t_BadTrain ?i_BadTrain ?r_BadShop ?t_BadShop ?i_BadShop ?r_BadPairs ?t_BadPairs ?i_BadPairs ?r_BadPlace ?t_BadPlace ?i_BadPlace ?r_BadWheel ?t_BadWheel ?i_BadWheel ?r_TooLong ?t_TooLong ?i_TooLong ?r_NoText ?t_NoText ?i_NoText ?q_spec ?q_takes ?x_BadTrain ?k_BadTrain ?a1_BadTrain ?a2_BadTrain ?a3_BadTrain ?a4_BadTrain ?a5_BadTrain ?v_BadTrain ?s_BadTrain_TrainError ?s_BadTrain_BadRatio ?s_BadTrain_BadTrain ?s_BadTrain_BadShop ?s_BadTrain_BadPairs ?s_BadTrain_BadPlace ?s_BadTrain_BadWheel ?s_BadTrain_TooLong ?s_BadTrain_NoText ?x_NoText ?k_NoText ?a1_NoText ?a2_NoText ?a3_NoText ?a4_NoText ?a5_NoText ?v_NoText ?s_NoText_TrainError ?s_NoText_BadRatio ?s_NoText_BadTrain ?s_NoText_BadShop ?s_NoText_BadPairs ?s_NoText_BadPlace ?s_NoText_BadWheel ?s_NoText_TooLong ?s_NoText_NoText
    (case a_is_whole => k_is)
    (case l_is_whole => k_is)
    (case e_is_whole => k_is)
    (case k_is_whole => k_is)
    (case a_is_wheel => k_is)
    (case l_is_wheel => k_is)
    (case e_is_wheel => k_is)
    (case k_is_wheel => k_is)
    (case a_is_stage => k_is)
    (case l_is_stage => k_is)
    (case e_is_stage => k_is)
    (case k_is_stage => k_is)
    (case a_need_train => k_is)
    (case l_need_train => k_is)
    (case e_need_train => k_is)
    (case k_need_train => k_is)
    (case a_written => k_is)
    (case l_written => k_is)
    (case e_written => k_is)
    (case k_written => k_is)
    (case a_written_stage => k_is)
    (case l_written_stage => k_is)
    (case e_written_stage => k_is)
    (case k_written_stage => k_is)
    (case a_read => k_is)
    (case l_read => k_is)
    (case e_read => k_is)
    (case k_read => k_is)
    (case a_read_stage => k_is)
    (case l_read_stage => k_is)
    (case e_read_stage => k_is)
    (case k_read_stage => k_is)
    (case a__law_at => k_is)
    (case l__law_at => k_is)
    (case e__law_at => k_is)
    (case k__law_at => k_is)
    (case a__law_mixed => k_is)
    (case l__law_mixed => k_is)
    (case e__law_mixed => k_is)
    (case k__law_mixed => k_is)
    (case a__law_train => k_is)
    (case l__law_train => k_is)
    (case e__law_train => k_is)
    (case k__law_train => k_is)
    (case a__law_kinds => k_is)
    (case l__law_kinds => k_is)
    (case e__law_kinds => k_is)
    (case k__law_kinds => k_is)
    (case a__law_changed => k_is)
    (case l__law_changed => k_is)
    (case e__law_changed => k_is)
    (case k__law_changed => k_is)
    (case a__law_wheel => k_is)
    (case l__law_wheel => k_is)
    (case e__law_wheel => k_is)
    (case k__law_wheel => k_is)
    (case a__law_due => k_is)
    (case l__law_due => k_is)
    (case e__law_due => k_is)
    (case k__law_due => k_is)
    (case a__law_told => k_is)
    (case l__law_told => k_is)
    (case e__law_told => k_is)
    (case k__law_told => k_is)
    (case a_law => k_is)
    (case l_law => k_is)
    (case e_law => k_is)
    (case k_law => k_is)
    (case z_ValueError => k_is)
    (case z_all => k_is)
    (case z_bool => k_is)
    (case z_int => k_is)
    (case z_isinstance => k_is)
    (case z_len => k_is)
    (case z_list => k_is)
    (case z_range => k_is)
    (case z_str => k_is)
    (case z_tuple => k_is)
    (case c_LEAST_TEETH => k_is)
    (case c_MOST_TEETH => k_is)
    (case c_LEAST_WHEELS => k_is)
    (case c_MOST_WHEELS => k_is)
    (case c_LEAST_STAGES => k_is)
    (case c_MOST_STAGES => k_is)
    (case g_TrainError => k_is)
    (case g_BadRatio => k_is)
    (case g_BadTrain => k_is)
    (case g_BadShop => k_is)
    (case g_BadPairs => k_is)
    (case g_BadPlace => k_is)
    (case g_BadWheel => k_is)
    (case g_TooLong => k_is)
    (case g_NoText => k_is)
    (case r_TrainError => k_is)
    (case t_TrainError => k_is)
    (case i_TrainError => k_is)
    (case r_BadRatio => k_is)
    (case t_BadRatio => k_is)
    (case i_BadRatio => k_is)
    (case r_BadTrain => k_is)
    (case t_BadTrain => k_is)
    (case i_BadTrain => k_is)
    (case r_BadShop => k_is)
    (case t_BadShop => k_is)
    (case i_BadShop => k_is)
    (case r_BadPairs => k_is)
    (case t_BadPairs => k_is)
    (case i_BadPairs => k_is)
    (case r_BadPlace => k_is)
    (case t_BadPlace => k_is)
    (case i_BadPlace => k_is)
    (case r_BadWheel => k_is)
    (case t_BadWheel => k_is)
    (case i_BadWheel => k_is)
    (case r_TooLong => k_is)
    (case t_TooLong => k_is)
    (case i_TooLong => k_is)
    (case r_NoText => k_is)
    (case t_NoText => k_is)
    (case i_NoText => k_is)
    (case q_spec => k_is)
    (case q_takes => k_is)
    (case x_BadTrain => k_exc)
    (case k_BadTrain => k_is)
    (case a1_BadTrain => k_is)
    (case a2_BadTrain => k_is)
    (case a3_BadTrain => k_is)
    (case a4_BadTrain => k_is)
    (case a5_BadTrain => k_is)
    (case v_BadTrain => k_is)
    (case s_BadTrain_TrainError => k_is)
    (case s_BadTrain_BadRatio => k_is)
    (case s_BadTrain_BadTrain => k_is)
    (case s_BadTrain_BadShop => k_is)
    (case s_BadTrain_BadPairs => k_is)
    (case s_BadTrain_BadPlace => k_is)
    (case s_BadTrain_BadWheel => k_is)
    (case s_BadTrain_TooLong => k_is)
    (case s_BadTrain_NoText => k_is)
    (case x_NoText => k_exc)
    (case k_NoText => k_is)
    (case a1_NoText => k_is)
    (case a2_NoText => k_is)
    (case a3_NoText => k_is)
    (case a4_NoText => k_is)
    (case a5_NoText => k_is)
    (case v_NoText => k_is)
    (case s_NoText_TrainError => k_is)
    (case s_NoText_BadRatio => k_is)
    (case s_NoText_BadTrain => k_is)
    (case s_NoText_BadShop => k_is)
    (case s_NoText_BadPairs => k_is)
    (case s_NoText_BadPlace => k_is)
    (case s_NoText_BadWheel => k_is)
    (case s_NoText_TooLong => k_is)
    (case s_NoText_NoText => k_is)
