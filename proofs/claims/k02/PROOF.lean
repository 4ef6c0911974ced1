import PyProof.Rows.All
import Wide.All
import OpenK.AllK
import Wide.FinOn
import HandS.ForMost
import HandS.DictComp
import HandS.Deep
import HandS.ListItems
import HandS.StrMore
import HandS.TupAny
import HandS.TupMul
import HandS.IsInst
import HandS.Zip
import PySem.Challenge.RW_notfound_k02_fitted
set_option Elab.async false
set_option linter.all false
set_option maxRecDepth 100000
set_option maxHeartbeats 4000000
/-! The data layer: what values mean as plain data, however the heap lies. -/
namespace DL
open PySem PySem.Spec L2

/-- plain data -/
inductive D where
  | non | bl (b : Bool) | int (i : Int) | str (x : Str)
  | tup (l : List D) | lst (l : List D) | scr (l : List D)
  | dic (ks : List Key) (vs : List D)

/-! ### heaps that grow -/
def Ex (H H' : Hp) : Prop := ∀ a o, H a = some o → H' a = some o
theorem Ex.refl (H : Hp) : Ex H H := fun _ _ h => h
theorem Ex.trans {H H1 H2 : Hp} (a : Ex H H1) (b : Ex H1 H2) : Ex H H2 := fun x o h => b x o (a x o h)
theorem Ex.new {H : Hp} {p : Addr} {o : HO} (h : H p = none) : Ex H (upd H p o) := fun a u e => by
  rw [upd_ne (ne_of_none e h)]
  exact e
theorem Ex.mut {H H' : Hp} {p : Addr} {o : HO} (e : Ex H H') (h : H p = none) : Ex H (upd H' p o) := fun a u ha => by
  rw [upd_ne (ne_of_none ha h)]
  exact e a u ha
theorem Ex.back {H H' : Hp} {p : Addr} (e : Ex H H') (h : H' p = none) : H p = none := by
  cases h1 : H p with
  | none => rfl
  | some o => rw [e p o h1] at h; cases h
theorem Ex.both {H H' : Hp} {p : Addr} {o : HO} (e : Ex H H') (h : H' p = none) : Ex (upd H p o) (upd H' p o) := fun a u ha => by
  by_cases q : a = p
  · subst q; rw [upd_same] at ha ⊢; exact ha
  · rw [upd_ne q] at ha ⊢; exact e a u ha

/-- from the frozen part B of H to B' of H' -/
structure Ext (B H B' H' : Hp) : Prop where
  hh : Ex H H'
  bb : Ex B B'
  bh : Ex B' H'
  sep : ∀ a, H a ≠ none → B a = none → B' a = none
theorem Ext.refl {B H : Hp} (h : Ex B H) : Ext B H B H := ⟨.refl _, .refl _, h, fun _ _ h => h⟩
theorem Ext.trans {B H B1 H1 B2 H2 : Hp} (a : Ext B H B1 H1) (b : Ext B1 H1 B2 H2) : Ext B H B2 H2 :=
  ⟨a.hh.trans b.hh, a.bb.trans b.bb, b.bh, fun x h1 h2 => b.sep x (fun e => h1 (a.hh.back e)) (a.sep x h1 h2)⟩
/-- a new frozen object -/
theorem Ext.new {B H : Hp} {p : Addr} {o : HO} (h : Ex B H) (hp : H p = none) : Ext B H (upd B p o) (upd H p o) :=
  ⟨.new hp, .new (h.back hp), h.both hp, fun a h1 h2 => by
    rw [upd_ne (fun e => h1 (by rw [e]; exact hp))]; exact h2⟩
/-- a new object of one's own -/
theorem Ext.own {B H : Hp} {p : Addr} {o : HO} (h : Ex B H) (hp : H p = none) : Ext B H B (upd H p o) :=
  ⟨.new hp, .refl _, h.mut (h.back hp), fun _ _ h => h⟩

/-! ### what a value means -/
def KsOk (ks : List Key) : Prop := ∀ x : Str, (Sum.inr x : Key) ∈ ks → PySem.PyData.strOk x = true ∧ x.length ≤ sizeLine
def okS (x : Str) : Prop := PySem.PyData.strOk x = true ∧ x.length ≤ sizeLine
mutual
inductive Rep (K : PySem.W.Frag) (B : Hp) : V → D → Prop
  | non : Rep K B .non .non
  | bl (b : Bool) : Rep K B (.bl b) (.bl b)
  | int (i : Int) : Rep K B (.int i) (.int i)
  | str (x : Str) : okS x → Rep K B (.str x) (.str x)
  | tup {a : Addr} {xs : List V} {ds : List D} : SqT K B a xs → Reps K B xs ds → Rep K B (.ref a) (.tup ds)
  | lst {a : Addr} {xs : List V} {ds : List D} : B a = some (.lst xs) → Reps K B xs ds → Rep K B (.ref a) (.lst ds)
  | scr {a : Addr} {xs : List V} {ds : List D} : SqL K B a xs → Reps K B xs ds → Rep K B (.ref a) (.scr ds)
  | dic {a : Addr} {kvs : List (Key × V)} {ks : List Key} {ds : List D} : B a = some (.dK kvs) → kvs.map (·.1) = ks → KsOk ks → Reps K B (kvs.map (·.2)) ds → Rep K B (.ref a) (.dic ks ds)
inductive Reps (K : PySem.W.Frag) (B : Hp) : List V → List D → Prop
  | nil : Reps K B [] []
  | cons {v : V} {vs : List V} {d : D} {ds : List D} : Rep K B v d → Reps K B vs ds → Reps K B (v :: vs) (d :: ds)
end
theorem Rd.ex {H H' : Hp} {a : Addr} {u : HO} (e : Ex H H') (h : Rd H a u) : Rd H' a u := by
  rcases h with h | ⟨o, h⟩
  · exact .inl (e a _ h)
  · exact .inr ⟨o, e a _ h⟩
theorem sqT_ex {K : PySem.W.Frag} {H H' : Hp} {a : Addr} {xs : List V} (e : Ex H H') (h : SqT K H a xs) : SqT K H' a xs := by
  rcases h with h | h
  · exact .inl (Rd.ex e h)
  · exact .inr h
theorem sqL_ex {K : PySem.W.Frag} {H H' : Hp} {a : Addr} {xs : List V} (e : Ex H H') (h : SqL K H a xs) : SqL K H' a xs := by
  rcases h with h | h
  · exact .inl (Rd.ex e h)
  · exact .inr h
mutual
theorem Rep.mono {K : PySem.W.Frag} {B B' : Hp} (e : Ex B B') : ∀ {v : V} {d : D}, Rep K B v d → Rep K B' v d
  | _, _, .non => .non
  | _, _, .bl b => .bl b
  | _, _, .int b => .int b
  | _, _, .str b h => .str b h
  | _, _, .tup h r => .tup (sqT_ex e h) (Reps.mono e r)
  | _, _, .scr h r => .scr (sqL_ex e h) (Reps.mono e r)
  | _, _, .lst h r => .lst (e _ _ h) (Reps.mono e r)
  | _, _, .dic h k o r => .dic (e _ _ h) k o (Reps.mono e r)
theorem Reps.mono {K : PySem.W.Frag} {B B' : Hp} (e : Ex B B') : ∀ {v : List V} {d : List D}, Reps K B v d → Reps K B' v d
  | _, _, .nil => .nil
  | _, _, .cons h t => .cons (Rep.mono e h) (Reps.mono e t)
end
section
variable {K : PySem.W.Frag} {B : Hp}
theorem Reps.length : ∀ {vs : List V} {ds : List D}, Reps K B vs ds → vs.length = ds.length
  | _, _, .nil => rfl
  | _, _, .cons _ t => by rw [List.length_cons, List.length_cons, Reps.length t]
theorem Reps.append : ∀ {vs ws : List V} {ds es : List D}, Reps K B vs ds → Reps K B ws es → Reps K B (vs ++ ws) (ds ++ es)
  | _, _, _, _, .nil, h => h
  | _, _, _, _, .cons r t, h => .cons r (Reps.append t h)
theorem Reps.get : ∀ {vs : List V} {ds : List D} {i : Nat} {v : V}, Reps K B vs ds → vs[i]? = some v → ∃ d, ds[i]? = some d ∧ Rep K B v d
  | _, _, _, _, .nil, e => by simp at e
  | _, _, 0, _, .cons r _, e => by simp at e; subst e; exact ⟨_, rfl, r⟩
  | _, _, i + 1, v, .cons _ t, e => by
    obtain ⟨d, h1, h2⟩ := Reps.get (i := i) (v := v) t (by simpa using e)
    exact ⟨d, by simpa using h1, h2⟩
theorem Reps.getD : ∀ {vs : List V} {ds : List D} {i : Nat} {d : D}, Reps K B vs ds → ds[i]? = some d → ∃ v, vs[i]? = some v ∧ Rep K B v d
  | _, _, _, _, .nil, e => by simp at e
  | _, _, 0, _, .cons r _, e => by simp at e; subst e; exact ⟨_, rfl, r⟩
  | _, _, i + 1, d, .cons _ t, e => by
    obtain ⟨v, h1, h2⟩ := Reps.getD (i := i) (d := d) t (by simpa using e)
    exact ⟨v, by simpa using h1, h2⟩
theorem Reps.take : ∀ {vs : List V} {ds : List D} (n : Nat), Reps K B vs ds → Reps K B (vs.take n) (ds.take n)
  | _, _, 0, _ => by simp; exact .nil
  | _, _, _ + 1, .nil => .nil
  | _, _, n + 1, .cons r t => .cons r (Reps.take n t)
theorem Reps.drop : ∀ {vs : List V} {ds : List D} (n : Nat), Reps K B vs ds → Reps K B (vs.drop n) (ds.drop n)
  | _, _, 0, r => by simpa using r
  | _, _, _ + 1, .nil => .nil
  | _, _, n + 1, .cons r t => by simpa using Reps.drop n t
theorem Reps.set {v : V} {d : D} (r : Rep K B v d) : ∀ {vs : List V} {ds : List D} (i : Nat), Reps K B vs ds → Reps K B (vs.set i v) (ds.set i d)
  | _, _, _, .nil => .nil
  | _, _, 0, .cons _ t => .cons r t
  | _, _, i + 1, .cons q t => .cons q (Reps.set r i t)
theorem Reps.rev {vs : List V} {ds : List D} (h : Reps K B vs ds) : Reps K B vs.reverse ds.reverse := by
  induction vs generalizing ds with
  | nil => cases h; exact .nil
  | cons v vs ih => cases h with | cons r t => rw [List.reverse_cons, List.reverse_cons]; exact (ih t).append (.cons r .nil)
end

/-- what may be read though it may change later: a list, a dict of one's own or of the caller -/
def Top (K : PySem.W.Frag) (B H : Hp) (p : Addr) (d : D) : Prop :=
  (∃ vs ds, d = .lst ds ∧ H p = some (.lst vs) ∧ Reps K B vs ds) ∨
  (∃ kvs ks ds, d = .dic ks ds ∧ H p = some (.dK kvs) ∧ kvs.map (·.1) = ks ∧ KsOk ks ∧ Reps K B (kvs.map (·.2)) ds)
def Bor (K : PySem.W.Frag) (B H : Hp) (v : V) (d : D) : Prop := Rep K B v d ∨ ∃ p, v = .ref p ∧ Top K B H p d
/-- one's own -/
def Own (K : PySem.W.Frag) (B H : Hp) (p : Addr) (d : D) : Prop :=
  (∃ vs ds, d = .lst ds ∧ H p = some (.lst vs) ∧ Reps K B vs ds) ∨
  (∃ kvs ks ds, d = .dic ks ds ∧ H p = some (.dK kvs) ∧ kvs.map (·.1) = ks ∧ KsOk ks ∧ Reps K B (kvs.map (·.2)) ds)
theorem Own.top {K : PySem.W.Frag} {B H : Hp} {p : Addr} {d : D} (h : Own K B H p d) : Top K B H p d := by
  rcases h with ⟨vs, ds, e, h, r⟩ | h
  · exact .inl ⟨vs, ds, e, h, r⟩
  · exact .inr h
theorem Top.mono {K : PySem.W.Frag} {B H B' H' : Hp} {p : Addr} {d : D} (eb : Ex B B') (eh : Ex H H') (h : Top K B H p d) : Top K B' H' p d := by
  rcases h with ⟨vs, ds, e, h, r⟩ | ⟨kvs, ks, ds, e, h, k, o, r⟩
  · exact .inl ⟨vs, ds, e, eh _ _ h, r.mono eb⟩
  · exact .inr ⟨kvs, ks, ds, e, eh _ _ h, k, o, r.mono eb⟩
theorem Bor.mono {K : PySem.W.Frag} {B H B' H' : Hp} {v : V} {d : D} (eb : Ex B B') (eh : Ex H H') (h : Bor K B H v d) : Bor K B' H' v d := by
  rcases h with h | ⟨p, e, h⟩
  · exact .inl (h.mono eb)
  · exact .inr ⟨p, e, h.mono eb eh⟩
theorem Own.keep {K : PySem.W.Frag} {B H B' H' : Hp} {p : Addr} {d : D} (eb : Ex B B') (eh : H' p = H p) (h : Own K B H p d) : Own K B' H' p d := by
  rcases h with ⟨vs, ds, e, h, r⟩ | ⟨kvs, ks, ds, e, h, k, o, r⟩
  · exact .inl ⟨vs, ds, e, by rw [eh]; exact h, r.mono eb⟩
  · exact .inr ⟨kvs, ks, ds, e, by rw [eh]; exact h, k, o, r.mono eb⟩
theorem Own.there {K : PySem.W.Frag} {B H : Hp} {p : Addr} {d : D} (h : Own K B H p d) : H p ≠ none := by
  rcases h with ⟨vs, ds, e, h, r⟩ | ⟨kvs, ks, ds, e, h, k, o, r⟩ <;> rw [h] <;> simp

/-! ### where one stands -/
inductive Md where | sh | ow | bo deriving DecidableEq
abbrev DEnv := List (Option D)
abbrev MEnv := List Md

def BoR (K : PySem.W.Frag) (B H : Hp) (t : Bool) (v : V) (d : D) : Prop := match t with
  | true => ∃ p, v = .ref p ∧ Top K B H p d
  | false => Bor K B H v d
theorem BoR.bor {K : PySem.W.Frag} {B H : Hp} {t : Bool} {v : V} {d : D} (h : BoR K B H t v d) : Bor K B H v d := by
  cases t with
  | true => exact .inr h
  | false => exact h
theorem BoR.mono {K : PySem.W.Frag} {B H B' H' : Hp} {t : Bool} {v : V} {d : D} (eb : Ex B B') (eh : Ex H H') (h : BoR K B H t v d) : BoR K B' H' t v d := by
  cases t with
  | true => obtain ⟨p, e, h⟩ := h; exact ⟨p, e, h.mono eb eh⟩
  | false => exact Bor.mono eb eh h
structure Stt (K : PySem.W.Frag) (Γ : MEnv) (lv : Nat → Option (V × Bool × Hp)) (B0 H0 B H : Hp) (σ : L2.St) (ρ : DEnv) : Prop where
  ext : Ext B0 H0 B H
  lvx : ∀ (i : Nat) (v : V) (t : Bool) (h : Hp), lv i = some (v, t, h) → Ex h H0
  len : σ.length = ρ.length
  mlen : Γ.length = ρ.length
  sh : ∀ (i : Nat) (d : D), Γ[i]? = some Md.sh → ρ[i]? = some (some d) → ∃ v, σ[i]? = some (some v) ∧ Rep K B v d
  ow : ∀ (i : Nat) (d : D), Γ[i]? = some Md.ow → ρ[i]? = some (some d) → ∃ p, σ[i]? = some (some (V.ref p)) ∧ H0 p = none ∧ B p = none ∧ Own K B H p d
  bo : ∀ (i : Nat) (d : D), Γ[i]? = some Md.bo → ρ[i]? = some (some d) → ∃ v t h, lv i = some (v, t, h) ∧ σ[i]? = some (some v) ∧ BoR K B h t v d
  apart : ∀ (i j : Nat) (p : Addr) (d e : D), i ≠ j → Γ[i]? = some Md.ow → Γ[j]? = some Md.ow → ρ[i]? = some (some d) → ρ[j]? = some (some e) → σ[i]? = some (some (V.ref p)) → σ[j]? ≠ some (some (V.ref p))
section
variable {K : PySem.W.Frag} {Γ : MEnv} {lv : Nat → Option (V × Bool × Hp)} {B0 H0 B H B' H' : Hp} {σ : L2.St} {ρ : DEnv}
theorem Stt.grow (S : Stt K Γ lv B0 H0 B H σ ρ) (x : Ext B H B' H') : Stt K Γ lv B0 H0 B' H' σ ρ where
  ext := S.ext.trans x
  lvx := S.lvx
  len := S.len
  mlen := S.mlen
  sh := fun i d h1 h2 => let ⟨v, a, b⟩ := S.sh i d h1 h2; ⟨v, a, b.mono x.bb⟩
  ow := fun i d h1 h2 => by
    obtain ⟨p, a, b, c, o⟩ := S.ow i d h1 h2
    refine ⟨p, a, b, x.sep p o.there c, o.keep x.bb ?_⟩
    cases q : H p with
    | none => exact absurd q o.there
    | some u => exact x.hh _ _ q
  bo := fun i d h1 h2 => let ⟨v, t, h, a, b, c⟩ := S.bo i d h1 h2; ⟨v, t, h, a, b, c.mono x.bb (.refl _)⟩
  apart := S.apart
/-- any variable may be read -/
theorem Stt.read (S : Stt K Γ lv B0 H0 B H σ ρ) {i : Nat} {d : D} (h : ρ[i]? = some (some d)) : ∃ v, σ[i]? = some (some v) ∧ Bor K B H v d := by
  have hi : i < Γ.length := by rw [S.mlen]; exact (List.getElem?_eq_some_iff.mp h).1
  cases m : Γ[i]? with
  | none => simp at m; omega
  | some k => cases k with
    | sh => obtain ⟨v, a, b⟩ := S.sh i d m h; exact ⟨v, a, .inl b⟩
    | ow => obtain ⟨p, a, _, _, o⟩ := S.ow i d m h; exact ⟨_, a, .inr ⟨p, rfl, o.top⟩⟩
    | bo => obtain ⟨v, t, h, l, a, b⟩ := S.bo i d m h; exact ⟨v, a, b.bor.mono (.refl _) ((S.lvx i v t h l).trans S.ext.hh)⟩
end
end DL

set_option Elab.async false
set_option linter.all false
set_option maxRecDepth 100000
set_option maxHeartbeats 4000000
/-! The little language that a def's body is read as, and what it gives over plain data. -/
namespace DL
open PySem PySem.Spec L2

def lim : Nat := 100000
theorem lim_le {n : Nat} (h : n ≤ lim) : n ≤ sizeLine := Nat.le_trans h (by decide)
theorem lim_lt {n : Nat} (h : n < lim) : n < sizeLine := Nat.lt_of_lt_of_le h (by decide)

inductive Op1 where
  | len | list | tuple | int | isi (t : String) | items | neg
  deriving DecidableEq
inductive Op2 where
  | add | sub | mul | fdiv | mod | eq | ne | lt | le | gt | ge | isin | notin | is_ | isnot | ix | starts | join | index
  deriving DecidableEq
inductive Op3 where
  | get
  deriving DecidableEq
inductive T where
  | nm (i : Nat) | tp (l : T) | nl | cn (h t : T)
inductive E where
  | var (i : Nat) | con (d : D)
  | op1 (o : Op1) (a : E) | op2 (o : Op2) (a b : E) | op3 (o : Op3) (a b c : E)
  | chain (o o' : Op2) (a b c : E)
  | and (a b : E) | or (a b : E) | not (a : E) | ite (c a b : E)
  | sl (a lo hi : E) | nop
  | lst (as : E) | tup (as : E) | dnew
  | lc (t : T) (vs : List Nat) (elt it c : E)
  | dc (t : T) (vs : List Nat) (k elt it c : E)
  | call (f : Nat) (as : E)
  | nil | cons (h t : E)
  | iV (e : E) | iR1 (a : E) | iR2 (a b : E) | iEn (e : E) | iZip (a b : E)
inductive S where
  | asg (t : T) (e : E) | asgO (i : Nat) (e : E) | app (i : Nat) (e : E) | ext (i : Nat) (e : E) | setk (i : Nat) (k e : E)
  | drop (e : E) | ret (e : E) | retN | ite (c : E) (a b : S) | for_ (pins : List Nat) (t : T) (it : E) (body : S) | while_ (c : E) (body : S)
  | brk | cnt | nx | seq (a b : S)

/-! ### data -/
mutual
def eqv : D → D → Bool
  | .non, .non => true
  | .bl a, .bl b => a == b
  | .bl a, .int j => (if a then 1 else 0) == j
  | .int i, .bl b => i == (if b then 1 else 0)
  | .int i, .int j => i == j
  | .str x, .str y => x == y
  | .lst xs, .lst ys => eqvs xs ys
  | .tup xs, .tup ys => eqvs xs ys
  | _, _ => false
def eqvs : List D → List D → Bool
  | [], [] => true
  | x :: xs, y :: ys => eqv x y && eqvs xs ys
  | _, _ => false
end
mutual
/-- no dict in it, at most n deep -/
def dOk : Nat → D → Bool
  | _, .non => true
  | _, .bl _ => true
  | _, .int _ => true
  | _, .str _ => true
  | 0, .lst _ => false
  | 0, .tup _ => false
  | n + 1, .lst l => dOks n l
  | n + 1, .tup l => dOks n l
  | _, .dic _ _ => false
  | _, .scr _ => false
def dOks : Nat → List D → Bool
  | _, [] => true
  | n, x :: xs => dOk n x && dOks n xs
end
def keyD : D → Option Key
  | .int i => some (.inl i)
  | .str x => some (.inr x)
  | _ => none
def keyE : Key → D
  | .inl i => .int i
  | .inr x => .str x
def lookD (k : Key) : List Key → List D → Option D
  | k' :: ks, d :: ds => if k' = k then some d else lookD k ks ds
  | _, _ => none
def repD (k : Key) (v : D) : List Key → List D → List D
  | k' :: ks, d :: ds => (if k' = k then v else d) :: repD k v ks ds
  | _, _ => []
def putD (k : Key) (v : D) (ks : List Key) (ds : List D) : List D := if (ks.any fun k' => decide (k' = k)) = true then repD k v ks ds else ds ++ [v]
def putKs (k : Key) (ks : List Key) : List Key := if (ks.any fun k' => decide (k' = k)) = true then ks else ks ++ [k]
def truD : D → Option Bool
  | .non => some false
  | .bl b => some b
  | .int i => some (i != 0)
  | .str x => some ((x.length : Int) != 0)
  | .lst l => some (!l.isEmpty)
  | .tup l => some (!l.isEmpty)
  | .dic ks _ => some (!ks.isEmpty)
  | .scr l => some (!l.isEmpty)
def seqD : D → Option (List D)
  | .lst l => some l
  | .tup l => some l
  | .scr l => some l
  | _ => none
def seqL (d : D) : Option (List D) := (seqD d).bind fun l => if l.length ≤ lim then some l else none
def typD (t : String) : D → Option Bool
  | .non => some false
  | .bl _ => some (t == "bool" || t == "int")
  | .int _ => some (t == "int")
  | .str _ => some (t == "str")
  | .lst _ => some (t == "list")
  | .tup _ => some (t == "tuple")
  | .dic _ _ => some (t == "dict")
  | .scr _ => none
def strsD : List D → Option (List Str)
  | [] => some []
  | .str x :: ds => (strsD ds).map (x :: ·)
  | _ => none
def tyKnown : List String := ["list", "tuple", "dict", "str", "int", "bool"]
def op1D : Op1 → D → Option D
  | .len, .lst l => some (.int l.length)
  | .len, .tup l => some (.int l.length)
  | .len, .scr l => some (.int l.length)
  | .len, .str x => some (.int x.length)
  | .list, .lst l => some (.lst l)
  | .list, .tup l => some (.lst l)
  | .list, .scr l => some (.lst l)
  | .tuple, .lst l => some (.tup l)
  | .tuple, .tup l => some (.tup l)
  | .int, .int i => some (.int i)
  | .int, .bl b => some (.int (if b then 1 else 0))
  | .isi t, d => if t ∈ tyKnown then (typD t d).map .bl else none
  | .items, .dic ks ds => some (.lst ((ks.zip ds).map fun p => .tup [keyE p.1, p.2]))
  | .neg, .int i => some (.int (-i))
  | _, _ => none
def mulOk (i j : Int) : Bool := decide (-(2 ^ 64) < i ∧ i < 2 ^ 64) || decide (-(2 ^ 64) < j ∧ j < 2 ^ 64)
def clsN : D → Nat
  | .non => 0 | .bl _ => 1 | .int _ => 2 | .str _ => 3 | .lst _ => 4 | .tup _ => 5 | .scr _ => 6 | .dic _ _ => 7
def flatD : D → Bool
  | .non => true | .bl _ => true | .int _ => true | .str _ => true
  | _ => false
/-- each entry of the one stands in the other; what is told is only «alike» -/
def subK (ls : List Key) (es : List D) : List Key → List D → Bool
  | k :: ks, d :: ds => (match lookD k ls es with | some e => flatD d && flatD e && eqv d e && decide (clsN d = clsN e) | none => false) && subK ls es ks ds
  | _, _ => true
def eqD (x y : D) : Option Bool := match x, y with
  | .dic ks ds, .dic ls es => if ks.length = ls.length ∧ subK ls es ks ds = true then some true else none
  | x, y => if dOk 60 x && dOk 60 y then some (eqv x y) else none
def indexD (y : D) : List D → Nat → Option Nat
  | [], _ => none
  | x :: xs, i => if eqv x y then some i else indexD y xs (i + 1)
def inD (x y : D) : Option Bool := (match y with
  | .lst l => if dOk 59 x && dOk 60 y then some (l.any fun z => eqv z x) else none
  | .tup l => if dOk 59 x && dOk 60 y then some (l.any fun z => eqv z x) else none
  | .dic ks _ => (keyD x).map fun k => ks.any fun k' => decide (k' = k)
  | _ => none)
def catS (i j : Str) : Option D := if i.length + j.length ≤ lim then some (.str (i ++ j)) else none
def op2D : Op2 → D → D → Option D
  | .add, .int i, .int j => some (.int (i + j))
  | .add, .str i, .str j => catS i j
  | .add, .lst i, .lst j => if i.length + j.length ≤ lim then some (.lst (i ++ j)) else none
  | .add, .tup i, .tup j => if i.length + j.length ≤ lim then some (.tup (i ++ j)) else none
  | .sub, .int i, .int j => some (.int (i - j))
  | .mul, .int i, .int j => if mulOk i j then some (.int (i * j)) else none
  | .fdiv, .int i, .int j => if 0 < j ∧ j < 1073741824 then some (.int (i / j)) else none
  | .mod, .int i, .int j => if 0 < j then some (.int (i % j)) else none
  | .eq, x, y => (eqD x y).map .bl
  | .ne, x, y => (eqD x y).map fun b => .bl (!b)
  | .lt, .int i, .int j => some (.bl (decide (i < j)))
  | .le, .int i, .int j => some (.bl (decide (i ≤ j)))
  | .gt, .int i, .int j => some (.bl (decide (j < i)))
  | .ge, .int i, .int j => some (.bl (decide (j ≤ i)))
  | .isin, x, y => (inD x y).map .bl
  | .notin, x, y => (inD x y).map fun b => .bl (!b)
  | .is_, x, .non => (match x with | .non => some (.bl true) | _ => some (.bl false))
  | .isnot, x, .non => (match x with | .non => some (.bl false) | _ => some (.bl true))
  | .ix, .lst l, .int i => atI l i
  | .ix, .tup l, .int i => atI l i
  | .ix, .scr l, .int i => atI l i
  | .ix, .str x, .int i => (atI x.cps.toList i).map fun c => .str ⟨#[c]⟩
  | .ix, .dic ks ds, y => (keyD y).bind fun k => lookD k ks ds
  | .index, .lst l, y => if dOk 60 y && dOk 60 (.lst l) then (indexD y l 0).map (fun (j : Nat) => D.int (Int.ofNat j)) else none
  | .starts, .str x, .str y => some (.bl (Txt.startswith x y))
  | .join, .str s, .lst l => (strsD l).bind fun xs => if (xs.map (·.length)).sum + xs.length * s.length ≤ lim then some (.str (Txt.join s xs)) else none
  | _, _, _ => none
def isL : D → Bool
  | .lst _ => true
  | .dic _ _ => true
  | _ => false
def op3D : Op3 → D → D → D → Option D
  | .get, .dic ks ds, y, z => (keyD y).map fun k => (lookD k ks ds).getD z
  | _, _, _, _ => none
def cutD (l : List D) (lo hi : Option Int) : List D := (l.drop (HT.sIx l.length 0 lo)).take (HT.sIx l.length l.length hi - HT.sIx l.length 0 lo)
def slD : D → Option Int → Option Int → Option D
  | .lst l, lo, hi => some (.lst (cutD l lo hi))
  | .tup l, lo, hi => some (.tup (cutD l lo hi))
  | .scr l, lo, hi => some (.lst (cutD l lo hi))
  | .str x, lo, hi => some (.str (cutS x lo hi))
  | _, _, _ => none

/-! ### running -/
def wipeD (ρ : DEnv) : List Nat → DEnv
  | [] => ρ
  | v :: vs => (wipeD ρ vs).set v none
mutual
def asgT : T → D → DEnv → Option DEnv
  | .nm i, d, ρ => some (ρ.set i (some d))
  | .tp l, .tup ds, ρ => asgTs l ds ρ
  | _, _, _ => none
def asgTs : T → List D → DEnv → Option DEnv
  | .nl, [], ρ => some ρ
  | .cn h t, d :: ds, ρ => (asgT h d ρ).bind fun ρ' => asgTs t ds ρ'
  | _, _, _ => none
end
def lcG (f : D → Option (Option D)) : List D → Option (List D)
  | [] => some []
  | x :: xs => (f x).bind fun r => (lcG f xs).map fun ys => (match r with | none => ys | some y => y :: ys)
def dcG (f : D → Option (Option (Key × D))) : List D → List Key → List D → Option (List Key × List D)
  | [], ks, ds => some (ks, ds)
  | x :: xs, ks, ds => (f x).bind fun r => (match r with | none => dcG f xs ks ds | some (k, y) => dcG f xs (putKs k ks) (putD k y ks ds))
def zipD : D → D → Option (List D)
  | .tup l, .tup m => some ((l.zip m).map fun p => .tup [p.1, p.2])
  | _, _ => none
def rngD (lo : Int) (n : Nat) : List D := (List.range n).map fun (k : Nat) => .int (lo + (k : Int))
variable (Φ : Nat → List D → Option D)
mutual
def evE : E → DEnv → Option D
  | .var i, ρ => (ρ[i]?).bind id
  | .con d, _ => some d
  | .op1 o a, ρ => (evE a ρ).bind (op1D o)
  | .op2 o a b, ρ => (evE a ρ).bind fun x => (evE b ρ).bind fun y => op2D o x y
  | .op3 o a b c, ρ => (evE a ρ).bind fun x => (evE b ρ).bind fun y => (evE c ρ).bind fun z => op3D o x y z
  | .chain o o' a b c, ρ => (evE a ρ).bind fun x => (evE b ρ).bind fun y => (op2D o x y).bind fun r => (match r with
      | .bl true => (evE c ρ).bind fun z => op2D o' y z
      | .bl false => some (.bl false)
      | _ => none)
  | .and a b, ρ => (evE a ρ).bind fun x => (match x with | .bl true => evE b ρ | .bl false => some (.bl false) | _ => none)
  | .or a b, ρ => (evE a ρ).bind fun x => (match x with | .bl true => some (.bl true) | .bl false => evE b ρ | _ => none)
  | .not a, ρ => (evE a ρ).bind fun x => (match x with | .bl c => some (.bl (!c)) | _ => none)
  | .ite c a b, ρ => (evT c ρ).bind fun k => if k then evE a ρ else evE b ρ
  | .sl a lo hi, ρ => (evE a ρ).bind fun x => (evO lo ρ).bind fun l => (evO hi ρ).bind fun h => slD x l h
  | .lst as, ρ => (evA as ρ).bind fun l => if l.length ≤ lim then some (.lst l) else none
  | .tup as, ρ => (evA as ρ).bind fun l => if l.length ≤ lim then some (.tup l) else none
  | .dnew, _ => some (.dic [] [])
  | .lc t vs elt it c, ρ => (evI it ρ).bind fun l => (lcG (fun x => (asgT t x (wipeD ρ vs)).bind fun ρ' => (evT c ρ').bind fun k => if k then (evE elt ρ').map some else some none) l).map .lst
  | .dc t vs ke elt it c, ρ => (evI it ρ).bind fun l => (dcG (fun x => (asgT t x (wipeD ρ vs)).bind fun ρ' => (evT c ρ').bind fun k => if k then (evE ke ρ').bind fun kd => (keyD kd).bind fun key => (evE elt ρ').map fun y => some (key, y) else some none) l [] []).map fun p => .dic p.1 p.2
  | .call f as, ρ => (evA as ρ).bind (Φ f)
  | _, _ => none
def evT : E → DEnv → Option Bool
  | .and a b, ρ => (evT a ρ).bind fun k => if k then evT b ρ else some false
  | .or a b, ρ => (evT a ρ).bind fun k => if k then some true else evT b ρ
  | .not a, ρ => (evT a ρ).map (!·)
  | .nop, _ => some true
  | .var i, ρ => ((ρ[i]?).bind id).bind truD
  | .con d, _ => truD d
  | .op1 o a, ρ => ((evE a ρ).bind (op1D o)).bind truD
  | .op2 o a b, ρ => ((evE a ρ).bind fun x => (evE b ρ).bind fun y => op2D o x y).bind truD
  | .op3 o a b c, ρ => ((evE a ρ).bind fun x => (evE b ρ).bind fun y => (evE c ρ).bind fun z => op3D o x y z).bind truD
  | .chain o o' a b c, ρ => (evE a ρ).bind fun x => (evE b ρ).bind fun y => (op2D o x y).bind fun r => (match r with
      | .bl true => ((evE c ρ).bind fun z => op2D o' y z).bind truD
      | .bl false => some false
      | _ => none)
  | .call f as, ρ => ((evA as ρ).bind (Φ f)).bind truD
  | _, _ => none
def evA : E → DEnv → Option (List D)
  | .nil, _ => some []
  | .cons h t, ρ => (evE h ρ).bind fun x => (evA t ρ).map (x :: ·)
  | _, _ => none
def evO : E → DEnv → Option (Option Int)
  | .nop, _ => some none
  | .cons h _, ρ => (evE h ρ).bind fun x => (match x with | .int i => some (some i) | _ => none)
  | _, _ => none
def evI : E → DEnv → Option (List D)
  | .iV e, ρ => (evE e ρ).bind seqL
  | .iR1 a, ρ => (evE a ρ).bind fun x => (match x with | .int j => if j ≤ lim ∧ -(lim : Int) ≤ j then some (rngD 0 j.toNat) else none | _ => none)
  | .iR2 a b, ρ => (evE a ρ).bind fun x => (evE b ρ).bind fun y => (match x, y with | .int i, .int j => if 0 ≤ i ∧ i ≤ lim ∧ j ≤ lim ∧ -(lim : Int) ≤ j then some (rngD i (j - i).toNat) else none | _, _ => none)
  | .iEn e, ρ => ((evE e ρ).bind seqL).map fun l => l.zipIdx.map fun p => .tup [.int p.2, p.1]
  | .iZip a b, ρ => (evE a ρ).bind fun x => (evE b ρ).bind fun y => (zipD x y).bind fun l => if l.length ≤ lim then some l else none
  | _, _ => none
end
inductive Out where
  | nx (ρ : DEnv) | ret (d : D) | brk (ρ : DEnv) | cnt (ρ : DEnv)
def forG (f : D → DEnv → Option Out) : List D → DEnv → Option Out
  | [], ρ => some (.nx ρ)
  | x :: xs, ρ => (f x ρ).bind fun o => (match o with
      | .nx ρ' => forG f xs ρ'
      | .cnt ρ' => forG f xs ρ'
      | .brk ρ' => some (.nx ρ')
      | .ret d => some (.ret d))
def whileG (t : DEnv → Option Bool) (f : DEnv → Option Out) : Nat → DEnv → Option Out
  | 0, _ => none
  | n + 1, ρ => (t ρ).bind fun k => if k then (f ρ).bind fun o => (match o with
      | .nx ρ' => whileG t f n ρ'
      | .cnt ρ' => whileG t f n ρ'
      | .brk ρ' => some (.nx ρ')
      | .ret d => some (.ret d)) else some (.nx ρ)
def exS (n : Nat) : S → DEnv → Option Out
  | .asg t e, ρ => (evE Φ e ρ).bind fun d => (asgT t d ρ).map .nx
  | .asgO i e, ρ => (evE Φ e ρ).bind fun d => if isL d then some (.nx (ρ.set i (some d))) else none
  | .app i e, ρ => (evE Φ e ρ).bind fun d => (match ρ[i]? with | some (some (.lst l)) => if l.length < lim then some (.nx (ρ.set i (some (.lst (l ++ [d]))))) else none | _ => none)
  | .ext i e, ρ => (evE Φ e ρ).bind fun d => (match ρ[i]?, d with | some (some (.lst l)), .lst m => if l.length + m.length ≤ lim then some (.nx (ρ.set i (some (.lst (l ++ m))))) else none | _, _ => none)
  | .setk i k e, ρ => (evE Φ e ρ).bind fun d => (evE Φ k ρ).bind fun kd => (match ρ[i]? with
      | some (some (.dic ks ds)) => (keyD kd).bind fun key => if ks.length < lim then some (.nx (ρ.set i (some (.dic (putKs key ks) (putD key d ks ds))))) else none
      | some (some (.lst l)) => (match kd with | .int z => (ixN l.length z).map fun j => .nx (ρ.set i (some (.lst (l.set j d)))) | _ => none)
      | _ => none)
  | .drop e, ρ => (evE Φ e ρ).map fun _ => .nx ρ
  | .ret e, ρ => (evE Φ e ρ).map .ret
  | .retN, _ => some (.ret .non)
  | .ite c a b, ρ => (evT Φ c ρ).bind fun k => if k then exS n a ρ else exS n b ρ
  | .for_ _ t it body, ρ => (evI Φ it ρ).bind fun l => forG (fun x ρ => (asgT t x ρ).bind (exS n body)) l ρ
  | .while_ c body, ρ => whileG (evT Φ c) (exS n body) n ρ
  | .brk, ρ => some (.brk ρ)
  | .cnt, ρ => some (.cnt ρ)
  | .nx, ρ => some (.nx ρ)
  | .seq a b, ρ => (exS n a ρ).bind fun o => (match o with | .nx ρ' => exS n b ρ' | o => some o)
/-- a def called -/
def runF (n : Nat) (many : Nat) (body : S) (ds : List D) : Option D :=
  (exS Φ n body (ds.map some ++ List.replicate (many - ds.length) none)).bind fun o => (match o with
    | .ret d => some d
    | .nx _ => some .non
    | _ => none)
end DL

set_option Elab.async false
set_option linter.all false
set_option maxRecDepth 100000
set_option maxHeartbeats 4000000
/-! What the rules of the hand layer say of data. -/
namespace DL
open PySem PySem.Spec L2

/-! ### where a piece of the text stands -/
def visS (sc : Scope) (x : Str) : Bool := match sc.names.lookup x with | some .local => true | some .cell => true | some .free => true | _ => false
def glS (sc : Scope) (x : Str) : Bool := match sc.names.lookup x with | some .globalImplicit => true | _ => false
def stS (sc : Scope) (x : Str) : Bool := match sc.names.lookup x with | some .local => true | some .cell => true | _ => false
def loS (sc : Scope) (x : Str) : Bool := match sc.names.lookup x with | some .local => true | _ => false
def ceS (sc : Scope) (x : Str) : Bool := match sc.names.lookup x with | some .cell => true | _ => false
def cfS (sc : Scope) (x : Str) : Bool := match sc.names.lookup x with | some .free => true | some .cell => true | _ => false
structure Good (X : Cx) (N : List Str) (sc : Scope) (k : Nat) : Prop where
  hN : X.N = N
  nd : N.Nodup
  calm : X.calm = true
  room : Room k X.A
  kind : X.env.scope.kind = .function
  vis : ∀ x, visS sc x = true → Vis X.env.scope x
  gl : ∀ x, glS sc x = true → Gl X x
  st : ∀ x, stS sc x = true → Loc X.env.scope x ∧ (X.fn x = true ∨ X.env.scope.names.lookup x = some .local)
  lo : ∀ x, loS sc x = true → X.env.scope.names.lookup x = some .local
  ce : ∀ x, ceS sc x = true → X.env.scope.names.lookup x = some .cell
  cf : ∀ x, cfS sc x = true → X.env.scope.names.lookup x = some .cell ∨ X.env.scope.names.lookup x = some .free
theorem Good.hu {X : Cx} {N : List Str} {sc : Scope} {k : Nat} (g : Good X N sc k) : X.A.units + 65 < cLine := by
  have := g.room.un; omega

/-! ### the widest reading of an expression -/
def tOf (X : Cx) (e : Expr) : TE := fun σ H Q => ∀ (pins : List (Addr × Obj)) (s : Shared), Inv X pins σ H s → wpAny (model X.prog X.w) X.A (eval e X.env) (EP X pins σ Q) X.xe s
theorem pe_of {X : Cx} {e : Expr} : PE X e (tOf X e) := ⟨fun pins s σ H Q I h => h pins s I⟩
theorem of_pe {X : Cx} {e : Expr} {t : TE} {σ : L2.St} {H : Hp} {Q : VK} (p : PE X e t) (h : t σ H Q) : tOf X e σ H Q := fun pins s I => p.run pins s σ H Q I h
def tTOf (X : Cx) (e : Expr) : TT := fun σ H Q => ∀ (pins : List (Addr × Obj)) (s : Shared), Inv X pins σ H s → wpAny (model X.prog X.w) X.A (isTrue e X.env (eval e X.env)) (TP X pins σ Q) X.xe s
theorem pt_of {X : Cx} {e : Expr} : PT X e (tTOf X e) := ⟨fun pins s σ H Q I h => h pins s I⟩
theorem of_pt {X : Cx} {e : Expr} {t : TT} {σ : L2.St} {H : Hp} {Q : Bool → Hp → Prop} (p : PT X e t) (h : t σ H Q) : tTOf X e σ H Q := fun pins s I => p.run pins s σ H Q I h
def tAOf (X : Cx) (es : List Expr) : TA := fun σ H Q => ∀ (pos : Pos) (pins : List (Addr × Obj)) (s : Shared), Inv X pins σ H s → wpAny (model X.prog X.w) X.A (spliced (backTo pos (starEach es X.env))) (AP X pins σ Q) X.xe s
theorem pa_of {X : Cx} {e : List Expr} : PA X e (tAOf X e) := ⟨fun pos pins s σ H Q I h => h pos pins s I⟩
theorem of_pa {X : Cx} {e : List Expr} {t : TA} {σ : L2.St} {H : Hp} {Q : List V → Hp → Prop} (p : PA X e t) (h : t σ H Q) : tAOf X e σ H Q := fun pos pins s I => p.run pos pins s σ H Q I h
def tSOf (X : Cx) (st : Stmt) : TS := fun D σ H => ∀ (pins : List (Addr × Obj)) (s : Shared), Inv X pins σ H s → wpAny (model X.prog X.w) X.A (exec st X.env) (SP X pins D) X.xe s
theorem ps_of {X : Cx} {st : Stmt} : PS X st (tSOf X st) := ⟨fun pins s σ H D I h => h pins s I⟩
theorem of_ps {X : Cx} {st : Stmt} {t : TS} {σ : L2.St} {H : Hp} {D : Ends} (p : PS X st t) (h : t D σ H) : tSOf X st D σ H := fun pins s I => p.run pins s σ H D I h
def tBOf (X : Cx) (sts : List Stmt) : TS := fun D σ H => ∀ (pins : List (Addr × Obj)) (s : Shared), Inv X pins σ H s → wpAny (model X.prog X.w) X.A (execs sts X.env) (SP X pins D) X.xe s
theorem pss_of {X : Cx} {sts : List Stmt} : PSs X sts (tBOf X sts) := ⟨fun pins s σ H D I h => h pins s I⟩
theorem of_pss {X : Cx} {sts : List Stmt} {t : TS} {σ : L2.St} {H : Hp} {D : Ends} (p : PSs X sts t) (h : t D σ H) : tBOf X sts D σ H := fun pins s I => p.run pins s σ H D I h

/-! ### a result: shared, one's own and new, or borrowed -/
def RM (K : PySem.W.Frag) (m : Md) (H B' H' : Hp) (v : V) (d : D) : Prop := match m with
  | .sh => Rep K B' v d
  | .bo => Bor K B' H' v d
  | .ow => ∃ p, v = .ref p ∧ H p = none ∧ B' p = none ∧ Own K B' H' p d
theorem fresh_sh {K : PySem.W.Frag} {B H B' H' : Hp} {v : V} {d : D} (x : Ext B H B' H') (r : RM K .ow H B' H' v d) : ∃ B2, Ext B H B2 H' ∧ Ex B' B2 ∧ Rep K B2 v d := by
  obtain ⟨p, rfl, hp, hb, o⟩ := r
  have key : ∀ o, H' p = some o → Ext B H (upd B' p o) H' := fun o ho => ⟨x.hh, x.bb.trans (.new hb), fun a u ha => by
      by_cases q : a = p
      · subst q; rw [upd_same] at ha; cases ha; exact ho
      · rw [upd_ne q] at ha; exact x.bh a u ha, fun a h1 h2 => by
      rw [upd_ne (fun e => h1 (by rw [e]; exact hp))]; exact x.sep a h1 h2⟩
  rcases o with ⟨vs, ds, rfl, h, r⟩ | ⟨kvs, ks, ds, rfl, h, k, o, r⟩
  · exact ⟨_, key _ h, .new hb, .lst upd_same (r.mono (.new hb))⟩
  · exact ⟨_, key _ h, .new hb, .dic upd_same k o (r.mono (.new hb))⟩
def EvM (m : Md) (X : Cx) (e : Expr) (Γ : MEnv) (ρ : DEnv) (d : D) : Prop :=
  ∀ lv B0 H0 B H σ, Stt X.K Γ lv B0 H0 B H σ ρ → ∀ Q : VK, (∀ v B' H', Ext B H B' H' → RM X.K m H B' H' v d → Q v H') → tOf X e σ H Q
def EvT (X : Cx) (e : Expr) (Γ : MEnv) (ρ : DEnv) (b : Bool) : Prop :=
  ∀ lv B0 H0 B H σ, Stt X.K Γ lv B0 H0 B H σ ρ → ∀ Q : Bool → Hp → Prop, (∀ B' H', Ext B H B' H' → Q b H') → tTOf X e σ H Q
section
variable {X : Cx} {e : Expr} {Γ : MEnv} {ρ : DEnv} {d : D}
theorem EvM.sh_of (h : EvM .ow X e Γ ρ d) : EvM .sh X e Γ ρ d := fun lv B0 H0 B H σ S Q q => h lv B0 H0 B H σ S Q fun v B' H' x r =>
  let ⟨B2, x2, _, r2⟩ := fresh_sh x r; q v B2 H' x2 r2
theorem EvM.bo_of (h : EvM .sh X e Γ ρ d) : EvM .bo X e Γ ρ d := fun lv B0 H0 B H σ S Q q => h lv B0 H0 B H σ S Q fun v B' H' x r => q v B' H' x (.inl r)
/-- a new one serves everywhere -/
theorem EvM.all_of (h : EvM .ow X e Γ ρ d) : ∀ m, EvM m X e Γ ρ d
  | .ow => h
  | .sh => h.sh_of
  | .bo => h.sh_of.bo_of
theorem EvM.shbo (h : EvM .sh X e Γ ρ d) : ∀ m, m ≠ .ow → EvM m X e Γ ρ d
  | .ow, n => absurd rfl n
  | .sh, _ => h
  | .bo, _ => h.bo_of
end
end DL

set_option Elab.async false
set_option linter.all false
set_option maxRecDepth 100000
set_option maxHeartbeats 4000000
namespace DL
open PySem PySem.Spec L2

/-! ### texts -/
theorem okS_len {x : Str} (h : okS x) : x.length ≤ sizeLine := h.2
theorem okS_of {x : Str} (h : x.cps.all (· < 0x110000) = true) (h2 : x.length ≤ sizeLine) : okS x := ⟨h, h2⟩
theorem okS_iff {x : Str} : okS x ↔ (∀ c ∈ x.cps.toList, c < 0x110000) ∧ x.cps.toList.length ≤ sizeLine := by
  unfold okS PyData.strOk
  rw [Array.all_eq_true_iff_forall_mem]
  constructor
  · rintro ⟨a, b⟩
    refine ⟨fun c hc => ?_, ?_⟩
    · exact of_decide_eq_true (a c (Array.mem_toList_iff.mp hc))
    · rw [Array.length_toList]; exact b
  · rintro ⟨a, b⟩
    refine ⟨fun c hc => ?_, ?_⟩
    · exact decide_eq_true (a c (Array.mem_toList_iff.mpr hc))
    · rw [Array.length_toList] at b; exact b
theorem str_app (i j : Str) : (i ++ j).cps.toList = i.cps.toList ++ j.cps.toList := by
  show (i.cps ++ j.cps).toList = _
  rw [Array.toList_append]
theorem str_len (i : Str) : i.cps.toList.length = i.length := by rw [Array.length_toList]; rfl
theorem okS_app {i j : Str} (hi : okS i) (hj : okS j) (h : i.length + j.length ≤ sizeLine) : okS (i ++ j) := by
  rw [okS_iff] at hi hj ⊢
  rw [str_app]
  refine ⟨fun c hc => ?_, ?_⟩
  · rcases List.mem_append.mp hc with q | q
    · exact hi.1 c q
    · exact hj.1 c q
  · rw [List.length_append, str_len, str_len]; exact h
theorem okS_one {x : Str} {c : Nat} (h : okS x) (hc : c ∈ x.cps.toList) : okS ⟨#[c]⟩ := by
  rw [okS_iff] at h ⊢
  refine ⟨fun d hd => ?_, by show 1 ≤ sizeLine; decide⟩
  have : d = c := by simpa using hd
  rw [this]; exact h.1 c hc
theorem okS_sub {x y : Str} (h : okS x) (hs : ∀ c ∈ y.cps.toList, c ∈ x.cps.toList) (hl : y.length ≤ x.length) : okS y := by
  rw [okS_iff] at h ⊢
  refine ⟨fun c hc => h.1 c (hs c hc), ?_⟩
  have := h.2
  rw [str_len] at this ⊢; omega
theorem okS_cut {x : Str} (lo hi : Option Int) (h : okS x) : okS (cutS x lo hi) := by
  have e : ∃ a b, (cutS x lo hi).cps.toList = (x.cps.toList.drop a).take b := ⟨HT.sIx x.length 0 lo, HT.sIx x.length x.length hi - HT.sIx x.length 0 lo, by
    unfold cutS
    simp [Str.length]⟩
  obtain ⟨a, b, e⟩ := e
  refine okS_sub h (fun c hc => ?_) ?_
  · rw [e] at hc
    exact List.mem_of_mem_drop (List.mem_of_mem_take hc)
  · rw [← str_len, ← str_len, e, List.length_take, List.length_drop]; omega

/-! ### data as the library's data -/
mutual
def toPy : D → PyData
  | .non => .none
  | .bl b => .bool b
  | .int i => .int i
  | .str x => .str x
  | .lst l => .list (toPys l)
  | .tup l => .tuple (toPys l)
  | .dic _ _ => .none
  | .scr _ => .none
def toPys : List D → List PyData
  | [] => []
  | x :: xs => toPy x :: toPys xs
end
mutual
theorem eqv_py : ∀ (n m : Nat) (x y : D), dOk n x = true → dOk m y = true → PyData.eqv (toPy x) (toPy y) = eqv x y
  | n, m, .non, y, _, h => by cases y <;> simp_all [toPy, PyData.eqv, eqv, dOk]
  | n, m, .bl b, y, _, h => by cases y <;> simp_all [toPy, PyData.eqv, eqv, dOk]
  | n, m, .int b, y, _, h => by cases y <;> simp_all [toPy, PyData.eqv, eqv, dOk]
  | n, m, .str b, y, _, h => by cases y <;> simp_all [toPy, PyData.eqv, eqv, dOk]
  | 0, m, .lst l, y, h, _ => by simp [dOk] at h
  | 0, m, .tup l, y, h, _ => by simp [dOk] at h
  | n, m, .dic _ _, y, h, _ => by cases n <;> simp [dOk] at h
  | n, m, .scr _, y, h, _ => by cases n <;> simp [dOk] at h
  | n + 1, m, .lst l, .lst k, h, h' => by
    cases m with
    | zero => simp [dOk] at h'
    | succ m => rw [dOk] at h h'; simp only [toPy, PyData.eqv, eqv]; exact eqvs_py n m l k h h'
  | n + 1, m, .tup l, .tup k, h, h' => by
    cases m with
    | zero => simp [dOk] at h'
    | succ m => rw [dOk] at h h'; simp only [toPy, PyData.eqv, eqv]; exact eqvs_py n m l k h h'
  | n + 1, m, .lst l, .non, _, _ => by simp [toPy, PyData.eqv, eqv]
  | n + 1, m, .lst l, .bl _, _, _ => by simp [toPy, PyData.eqv, eqv]
  | n + 1, m, .lst l, .int _, _, _ => by simp [toPy, PyData.eqv, eqv]
  | n + 1, m, .lst l, .str _, _, _ => by simp [toPy, PyData.eqv, eqv]
  | n + 1, m, .lst l, .tup _, _, _ => by simp [toPy, PyData.eqv, eqv]
  | n + 1, m, .lst l, .dic _ _, _, h => by cases m <;> simp [dOk] at h
  | n + 1, m, .lst l, .scr _, _, h => by cases m <;> simp [dOk] at h
  | n + 1, m, .tup l, .non, _, _ => by simp [toPy, PyData.eqv, eqv]
  | n + 1, m, .tup l, .bl _, _, _ => by simp [toPy, PyData.eqv, eqv]
  | n + 1, m, .tup l, .int _, _, _ => by simp [toPy, PyData.eqv, eqv]
  | n + 1, m, .tup l, .str _, _, _ => by simp [toPy, PyData.eqv, eqv]
  | n + 1, m, .tup l, .lst _, _, _ => by simp [toPy, PyData.eqv, eqv]
  | n + 1, m, .tup l, .dic _ _, _, h => by cases m <;> simp [dOk] at h
  | n + 1, m, .tup l, .scr _, _, h => by cases m <;> simp [dOk] at h
theorem eqvs_py : ∀ (n m : Nat) (x y : List D), dOks n x = true → dOks m y = true → PyData.eqvAll (toPys x) (toPys y) = eqvs x y
  | _, _, [], [], _, _ => by simp [toPys, PyData.eqvAll, eqvs]
  | _, _, [], _ :: _, _, _ => by simp [toPys, PyData.eqvAll, eqvs]
  | _, _, _ :: _, [], _, _ => by simp [toPys, PyData.eqvAll, eqvs]
  | n, m, x :: xs, y :: ys, h, h' => by
    simp only [dOks, Bool.and_eq_true] at h h'
    simp only [toPys, PyData.eqvAll, eqvs]
    rw [eqv_py n m x y h.1 h'.1, eqvs_py n m xs ys h.2 h'.2]
end
mutual
theorem depth_py : ∀ (n : Nat) (x : D), dOk n x = true → (toPy x).depth ≤ n
  | n, .non, _ => by simp [toPy, PyData.depth]
  | n, .bl _, _ => by simp [toPy, PyData.depth]
  | n, .int _, _ => by simp [toPy, PyData.depth]
  | n, .str _, _ => by simp [toPy, PyData.depth]
  | 0, .lst l, h => by simp [dOk] at h
  | 0, .tup l, h => by simp [dOk] at h
  | n, .dic _ _, h => by cases n <;> simp [dOk] at h
  | n, .scr _, h => by cases n <;> simp [dOk] at h
  | n + 1, .lst l, h => by rw [dOk] at h; simp only [toPy, PyData.depth]; have := depths_py n l h; omega
  | n + 1, .tup l, h => by rw [dOk] at h; simp only [toPy, PyData.depth]; have := depths_py n l h; omega
theorem depths_py : ∀ (n : Nat) (x : List D), dOks n x = true → PyData.depthAll (toPys x) ≤ n
  | n, [], _ => by simp [toPys, PyData.depthAll]
  | n, x :: xs, h => by
    simp only [dOks, Bool.and_eq_true] at h
    simp only [toPys, PyData.depthAll]
    have h1 := depth_py n x h.1
    have h2 := depths_py n xs h.2
    omega
end
mutual
theorem lay_py {K : PySem.W.Frag} {B : Hp} : ∀ {n : Nat} {v : V} {x : D}, dOk n x = true → Rep K B v x → (toPy x).canLay0 = true
  | n, _, _, _, .non => by simp [toPy, PyData.canLay0]
  | n, _, _, _, .bl _ => by simp [toPy, PyData.canLay0]
  | n, _, _, _, .int _ => by simp [toPy, PyData.canLay0]
  | n, _, _, _, .str _ h => by simp [toPy, PyData.canLay0]; exact h.1
  | 0, _, _, h, .lst _ _ => by simp [dOk] at h
  | 0, _, _, h, .tup _ _ => by simp [dOk] at h
  | n, _, _, h, .dic _ _ _ _ => by cases n <;> simp [dOk] at h
  | n, _, _, h, .scr _ _ => by cases n <;> simp [dOk] at h
  | n + 1, _, _, h, .lst _ r => by rw [dOk] at h; simp only [toPy, PyData.canLay0]; exact lays_py h r
  | n + 1, _, _, h, .tup _ r => by rw [dOk] at h; simp only [toPy, PyData.canLay0]; exact lays_py h r
theorem lays_py {K : PySem.W.Frag} {B : Hp} : ∀ {n : Nat} {v : List V} {x : List D}, dOks n x = true → Reps K B v x → PyData.canLayAll0 (toPys x) = true
  | _, _, _, _, .nil => by simp [toPys, PyData.canLayAll0]
  | n, _, _, h, .cons r t => by
    simp only [dOks, Bool.and_eq_true] at h
    simp only [toPys, PyData.canLayAll0, Bool.and_eq_true]
    exact ⟨lay_py h.1 r, lays_py h.2 t⟩
end
mutual
theorem dp_of {K : PySem.W.Frag} {B H : Hp} (e : Ex B H) : ∀ {n : Nat} {v : V} {x : D}, dOk n x = true → Rep K B v x → Dp K H v (toPy x)
  | n, _, _, _, .non => by simp only [toPy]; exact .non
  | n, _, _, _, .bl _ => by simp only [toPy]; exact .bl _
  | n, _, _, _, .int _ => by simp only [toPy]; exact .int _
  | n, _, _, _, .str _ h => by simp only [toPy]; exact .str _
  | 0, _, _, h, .lst _ _ => by simp [dOk] at h
  | 0, _, _, h, .tup _ _ => by simp [dOk] at h
  | n, _, _, h, .dic _ _ _ _ => by cases n <;> simp [dOk] at h
  | n, _, _, h, .scr _ _ => by cases n <;> simp [dOk] at h
  | n + 1, _, _, h, .lst l r => by rw [dOk] at h; simp only [toPy]; exact .lst (SqL.of (e _ _ l)) (dps_of e h r)
  | n + 1, _, _, h, .tup l r => by rw [dOk] at h; simp only [toPy]; exact .tup (sqT_ex e l) (dps_of e h r)
theorem dps_of {K : PySem.W.Frag} {B H : Hp} (e : Ex B H) : ∀ {n : Nat} {v : List V} {x : List D}, dOks n x = true → Reps K B v x → DpAll K H v (toPys x)
  | _, _, _, _, .nil => by simp only [toPys]; exact .nil
  | n, _, _, h, .cons r t => by
    simp only [dOks, Bool.and_eq_true] at h
    simp only [toPys]
    exact .cons (dp_of e h.1 r) (dps_of e h.2 t)
end
theorem shaped_of {n : Nat} {x : D} (hn : n ≤ 64) (h : dOk n x = true) (hl : (toPy x).canLay0 = true) : SeqAt.shaped (toPy x) = true := by
  unfold SeqAt.shaped
  rw [Bool.and_eq_true]
  exact ⟨hl, decide_eq_true (Nat.le_trans (depth_py n x h) hn)⟩
/-- borrowed data too -/
theorem bor_dp {K : PySem.W.Frag} {B H : Hp} {n : Nat} {v : V} {x : D} (e : Ex B H) (hn : n ≤ 64) (h : dOk n x = true) (r : Bor K B H v x) : Dp K H v (toPy x) ∧ SeqAt.shaped (toPy x) = true := by
  rcases r with r | ⟨p, rfl, r⟩
  · exact ⟨dp_of e h r, shaped_of hn h (lay_py h r)⟩
  · rcases r with ⟨vs, ds, rfl, hp, r⟩ | ⟨kvs, ks, ds, rfl, hp, k, o, r⟩
    · cases n with
      | zero => simp [dOk] at h
      | succ n =>
        have h0 := h
        rw [dOk] at h
        refine ⟨by simp only [toPy]; exact .lst (SqL.of hp) (dps_of e h r), shaped_of hn h0 ?_⟩
        simp only [toPy, PyData.canLay0]; exact lays_py h r
    · cases n <;> simp [dOk] at h
theorem any_py {n m : Nat} {x : D} (hx : dOk m x = true) : ∀ {l : List D}, dOks n l = true → ((toPys l).any fun z => PyData.eqv z (toPy x)) = l.any fun z => eqv z x
  | [], _ => by simp [toPys]
  | y :: ys, h => by
    simp only [dOks, Bool.and_eq_true] at h
    simp only [toPys, List.any_cons]
    rw [eqv_py n m y x h.1 hx, any_py hx h.2]
end DL

set_option Elab.async false
set_option linter.all false
set_option maxRecDepth 100000
set_option maxHeartbeats 4000000
namespace DL
open PySem PySem.Spec L2

section
variable {K : PySem.W.Frag} {B H B' H' : Hp} {v x y : V} {d : D}
theorem bor_int {i : Int} (h : Bor K B H x (.int i)) : x = .int i := by
  rcases h with h | ⟨p, _, h⟩
  · cases h; rfl
  · rcases h with ⟨_, _, e, _⟩ | ⟨_, _, _, e, _⟩ <;> cases e
theorem bor_bl {i : Bool} (h : Bor K B H x (.bl i)) : x = .bl i := by
  rcases h with h | ⟨p, _, h⟩
  · cases h; rfl
  · rcases h with ⟨_, _, e, _⟩ | ⟨_, _, _, e, _⟩ <;> cases e
theorem bor_non (h : Bor K B H x .non) : x = .non := by
  rcases h with h | ⟨p, _, h⟩
  · cases h; rfl
  · rcases h with ⟨_, _, e, _⟩ | ⟨_, _, _, e, _⟩ <;> cases e
theorem bor_str {i : Str} (h : Bor K B H x (.str i)) : x = .str i ∧ okS i := by
  rcases h with h | ⟨p, _, h⟩
  · cases h with | str _ h => exact ⟨rfl, h⟩
  · rcases h with ⟨_, _, e, _⟩ | ⟨_, _, _, e, _⟩ <;> cases e
theorem bor_lst {l : List D} (e : Ex B H) (h : Bor K B H x (.lst l)) : ∃ a vs, x = .ref a ∧ H a = some (.lst vs) ∧ Reps K B vs l := by
  rcases h with h | ⟨p, rfl, h⟩
  · cases h with | lst h r => exact ⟨_, _, rfl, e _ _ h, r⟩
  · rcases h with ⟨vs, ds, q, hp, r⟩ | ⟨_, _, _, q, _⟩
    · cases q; exact ⟨_, _, rfl, hp, r⟩
    · cases q
theorem bor_tup {l : List D} (h : Bor K B H x (.tup l)) : ∃ a vs, x = .ref a ∧ SqT K B a vs ∧ Reps K B vs l := by
  rcases h with h | ⟨p, rfl, h⟩
  · cases h with | tup h r => exact ⟨_, _, rfl, h, r⟩
  · rcases h with ⟨vs, ds, q, hp, r⟩ | ⟨_, _, _, q, _⟩ <;> cases q
theorem bor_scr {l : List D} (h : Bor K B H x (.scr l)) : ∃ a vs, x = .ref a ∧ SqL K B a vs ∧ Reps K B vs l := by
  rcases h with h | ⟨p, rfl, h⟩
  · cases h with | scr h r => exact ⟨_, _, rfl, h, r⟩
  · rcases h with ⟨vs, ds, q, hp, r⟩ | ⟨_, _, _, q, _⟩ <;> cases q
theorem bor_dic {ks : List Key} {ds : List D} (e : Ex B H) (h : Bor K B H x (.dic ks ds)) : ∃ a kvs, x = .ref a ∧ H a = some (.dK kvs) ∧ kvs.map (·.1) = ks ∧ KsOk ks ∧ Reps K B (kvs.map (·.2)) ds := by
  rcases h with h | ⟨p, rfl, h⟩
  · cases h with | dic h k o r => exact ⟨_, _, rfl, e _ _ h, k, o, r⟩
  · rcases h with ⟨vs, ds, q, hp, r⟩ | ⟨kvs, ks, ds, q, hp, k, o, r⟩
    · cases q
    · cases q; exact ⟨_, _, rfl, hp, k, o, r⟩
theorem RM.back {m : Md} {H0 : Hp} (e : Ex H0 H) (r : RM K m H B' H' v d) : RM K m H0 B' H' v d := by
  cases m with
  | sh => exact r
  | bo => exact r
  | ow => obtain ⟨p, a, b, c⟩ := r; exact ⟨p, a, e.back b, c⟩
/-- a new list -/
theorem new_lst {vs : List V} {ds : List D} (e : Ex B H) (r : Reps K B vs ds) {Q : VK} (q : ∀ v B' H', Ext B H B' H' → RM K .ow H B' H' v (.lst ds) → Q v H') : ∀ p, H p = none → Q (.ref p) (upd H p (.lst vs)) := fun p hp =>
  q _ _ _ (.own e hp) ⟨p, rfl, hp, e.back hp, .inl ⟨vs, ds, rfl, upd_same, r⟩⟩
theorem new_tup {vs : List V} {ds : List D} (e : Ex B H) (r : Reps K B vs ds) {Q : VK} (q : ∀ v B' H', Ext B H B' H' → RM K .sh H B' H' v (.tup ds) → Q v H') : ∀ p, H p = none → Q (.ref p) (upd H p (.tup vs)) := fun p hp =>
  q _ _ _ (.new e hp) (.tup (SqT.of upd_same) (r.mono (.new (e.back hp))))
theorem same_val (e : Ex B H) (r : Rep K B v d) {Q : VK} (q : ∀ v B' H', Ext B H B' H' → RM K .sh H B' H' v d → Q v H') : Q v H := q _ _ _ (.refl e) r
end

/-- what an operation on values gives of data -/
def OpSem (K : PySem.W.Frag) (r : R2) (m : Md) (x y d : D) : Prop := ∀ B H v w, Ex B H → Bor K B H v x → Bor K B H w y → ∀ Q : VK, (∀ u B' H', Ext B H B' H' → RM K m H B' H' u d → Q u H') → r v w H Q
section
variable {X : Cx} {e a b c : Expr} {Γ : MEnv} {ρ : DEnv} {d x y z : D} {m : Md} {pos : Pos}
theorem ev_op2 {r : R2} (pe : PE X e (tOp r (tOf X a) (tOf X b))) (sem : OpSem X.K r m x y d) (ha : EvM .bo X a Γ ρ x) (hb : EvM .bo X b Γ ρ y) : EvM m X e Γ ρ d := fun lv B0 H0 B H σ S Q q => by
  refine of_pe pe ?_
  refine ha lv B0 H0 B H σ S _ fun v1 B1 H1 x1 r1 => ?_
  refine hb lv B0 H0 B1 H1 σ (S.grow x1) _ fun v2 B2 H2 x2 r2 => ?_
  exact sem B2 H2 v1 v2 x2.bh (Bor.mono x2.bb x2.hh r1) r2 Q fun v B' H' x3 r3 => q v B' H' ((x1.trans x2).trans x3) (r3.back (x1.hh.trans x2.hh))
theorem ev_tst {r : R2} {k : Bool} (pe : PT X e (tTest (tOp r (tOf X a) (tOf X b)))) (sem : OpSem X.K r .sh x y (.bl k)) (ha : EvM .bo X a Γ ρ x) (hb : EvM .bo X b Γ ρ y) : EvT X e Γ ρ k := fun lv B0 H0 B H σ S Q q => by
  refine of_pt pe ?_
  refine ha lv B0 H0 B H σ S _ fun v1 B1 H1 x1 r1 => ?_
  refine hb lv B0 H0 B1 H1 σ (S.grow x1) _ fun v2 B2 H2 x2 r2 => ?_
  refine sem B2 H2 v1 v2 x2.bh (Bor.mono x2.bb x2.hh r1) r2 _ fun v B' H' x3 r3 => ?_
  cases r3
  exact ⟨k, rfl, q B' H' ((x1.trans x2).trans x3)⟩
end

section
variable {K : PySem.W.Frag} {x y d : D}
theorem sm_int0 {g : Int → Int → Int} {i j : Int} : OpSem K (rI0 fun i j => .int (g i j)) .sh (.int i) (.int j) (.int (g i j)) := fun B H v w e hv hw Q q => by
  cases bor_int hv; cases bor_int hw
  exact ⟨i, j, rfl, rfl, same_val e (.int _) q⟩
theorem sm_bl0 {g : Int → Int → Bool} {i j : Int} : OpSem K (rI0 fun i j => .bl (g i j)) .sh (.int i) (.int j) (.bl (g i j)) := fun B H v w e hv hw Q q => by
  cases bor_int hv; cases bor_int hw
  exact ⟨i, j, rfl, rfl, same_val e (.bl _) q⟩
theorem sm_intC {C : Int → Int → Prop} {g : Int → Int → Int} {i j : Int} (hc : C i j) : OpSem K (rI C fun i j => .int (g i j)) .sh (.int i) (.int j) (.int (g i j)) := fun B H v w e hv hw Q q => by
  cases bor_int hv; cases bor_int hw
  exact ⟨i, j, rfl, rfl, hc, same_val e (.int _) q⟩
def rAddS : R2 := fun x y H Q => ∃ i j, x = .str i ∧ y = .str j ∧ i.length + j.length ≤ sizeLine ∧ Q (.str (i ++ j)) H
theorem sm_addS {i j : Str} (h : i.length + j.length ≤ lim) : OpSem K rAddS .sh (.str i) (.str j) (.str (i ++ j)) := fun B H v w e hv hw Q q => by
  obtain ⟨rfl, oi⟩ := bor_str hv; obtain ⟨rfl, oj⟩ := bor_str hw
  exact ⟨i, j, rfl, rfl, lim_le h, same_val e (.str _ (okS_app oi oj (lim_le h))) q⟩
theorem sm_cat {i j : List D} (h : i.length + j.length ≤ lim) : OpSem K rCat .ow (.lst i) (.lst j) (.lst (i ++ j)) := fun B H v w e hv hw Q q => by
  obtain ⟨a, vs, rfl, ha, ra⟩ := bor_lst e hv; obtain ⟨b, ws, rfl, hb, rb⟩ := bor_lst e hw
  refine ⟨a, b, vs, ws, rfl, rfl, ha, hb, ?_, new_lst e (ra.append rb) q⟩
  rw [ra.length, rb.length]; exact lim_le h
theorem sm_catT {i j : List D} (h : i.length + j.length ≤ lim) : OpSem K (rCatA K) .sh (.tup i) (.tup j) (.tup (i ++ j)) := fun B H v w e hv hw Q q => by
  obtain ⟨a, vs, rfl, ha, ra⟩ := bor_tup hv; obtain ⟨b, ws, rfl, hb, rb⟩ := bor_tup hw
  refine ⟨a, b, vs, ws, rfl, rfl, sqT_ex e ha, sqT_ex e hb, by rw [ra.length, rb.length]; exact lim_le h, fun z => ?_, fun _ z => ?_, fun _ _ => new_tup e (ra.append rb) q⟩
  · subst z; cases ra; exact same_val e (.tup hb rb) q
  · subst z; cases rb; rw [List.append_nil] at q; exact same_val e (.tup ha ra) q
theorem eqD_nd {b : Bool} (h : eqD x y = some b) (hn : ¬ ∃ ks ds ls es, x = .dic ks ds ∧ y = .dic ls es) : dOk 60 x = true ∧ dOk 60 y = true ∧ b = eqv x y := by
  unfold eqD at h
  split at h
  · rename_i ks ds ls es; exact absurd ⟨ks, ds, ls, es, rfl, rfl⟩ hn
  · split at h
    · rename_i hk
      simp only [Bool.and_eq_true] at hk
      cases h
      exact ⟨hk.1, hk.2, rfl⟩
    · cases h
theorem sm_eq {b : Bool} (h : eqD x y = some b) (hn : ¬ ∃ ks ds ls es, x = .dic ks ds ∧ y = .dic ls es) : OpSem K (rEqD K) .sh x y (.bl b) := fun B H v w e hv hw Q q => by
  obtain ⟨k1, k2, rfl⟩ := eqD_nd h hn
  obtain ⟨d1, s1⟩ := bor_dp e (by decide) k1 hv
  obtain ⟨d2, s2⟩ := bor_dp e (by decide) k2 hw
  refine ⟨_, _, d1, d2, s1, s2, ?_⟩
  rw [eqv_py 60 60 x y k1 k2]
  exact same_val e (.bl _) q
theorem sm_ne {b : Bool} (h : eqD x y = some b) (hn : ¬ ∃ ks ds ls es, x = .dic ks ds ∧ y = .dic ls es) : OpSem K (rNeD K) .sh x y (.bl (!b)) := fun B H v w e hv hw Q q => by
  obtain ⟨k1, k2, rfl⟩ := eqD_nd h hn
  obtain ⟨d1, s1⟩ := bor_dp e (by decide) k1 hv
  obtain ⟨d2, s2⟩ := bor_dp e (by decide) k2 hw
  refine ⟨_, _, d1, d2, s1, s2, ?_⟩
  rw [eqv_py 60 60 x y k1 k2]
  exact same_val e (.bl _) q
/-- x in t, t a tuple of data of any depth -/
def rInT (K : PySem.W.Frag) : R2 := fun x y H Q => ∃ d ds, Dp K H x d ∧ Dp K H y (.tuple ds) ∧ SeqAt.shaped d = true ∧ SeqAt.shaped (.tuple ds) = true ∧ Q (.bl (ds.any fun z => PyData.eqv z d)) H
def rNotInT (K : PySem.W.Frag) : R2 := fun x y H Q => ∃ d ds, Dp K H x d ∧ Dp K H y (.tuple ds) ∧ SeqAt.shaped d = true ∧ SeqAt.shaped (.tuple ds) = true ∧ Q (.bl (!ds.any fun z => PyData.eqv z d)) H
theorem lay_tuple {ds : List PyData} (h : PyData.canLay0 (.tuple ds) = true) : PyData.canLayAll0 ds = true := by simpa [PyData.canLay0] using h
theorem op_inT {X : Cx} (hu : X.A.units + 65 < cLine) : OpR X (compareOp .In) (rInT X.K) := by
  intro pins s σ H x y v u Q I rx ry h
  obtain ⟨d, ds, hd, he, sd, se, q⟩ := h
  obtain ⟨as, r1⟩ := Dp.reads I d x v hd rx
  obtain ⟨bs, r2⟩ := Dp.reads I (.tuple ds) y u he ry
  exact SeqAt.in_tuple_reads r2 r1 (lay_tuple (SeqAt.canLay_of_shaped se)) (SeqAt.canLay_of_shaped sd) (by have h1 := SeqAt.depth_of_shaped sd; have h2 := Nat.min_le_right (PyData.depthAll ds) d.depth; omega) ⟨.bl _, H, I, rfl, q⟩
theorem op_notInT {X : Cx} (hu : X.A.units + 65 < cLine) : OpR X (compareOp .NotIn) (rNotInT X.K) := by
  intro pins s σ H x y v u Q I rx ry h
  obtain ⟨d, ds, hd, he, sd, se, q⟩ := h
  obtain ⟨as, r1⟩ := Dp.reads I d x v hd rx
  obtain ⟨bs, r2⟩ := Dp.reads I (.tuple ds) y u he ry
  exact SeqAt.notIn_tuple_reads r2 r1 (lay_tuple (SeqAt.canLay_of_shaped se)) (SeqAt.canLay_of_shaped sd) (by have h1 := SeqAt.depth_of_shaped sd; have h2 := Nat.min_le_right (PyData.depthAll ds) d.depth; omega) ⟨.bl _, H, I, rfl, q⟩
theorem inD_l {l : List D} {b : Bool} (h : inD x (.lst l) = some b) : dOk 59 x = true ∧ dOk 60 (.lst l) = true ∧ b = l.any fun z => eqv z x := by
  unfold inD at h
  dsimp only at h
  split at h
  · rename_i hk
    simp only [Bool.and_eq_true] at hk
    cases h
    exact ⟨hk.1, hk.2, rfl⟩
  · cases h
theorem inD_t {l : List D} {b : Bool} (h : inD x (.tup l) = some b) : dOk 59 x = true ∧ dOk 60 (.tup l) = true ∧ b = l.any fun z => eqv z x := by
  unfold inD at h
  dsimp only at h
  split at h
  · rename_i hk
    simp only [Bool.and_eq_true] at hk
    cases h
    exact ⟨hk.1, hk.2, rfl⟩
  · cases h
theorem any_in {l : List D} (h1 : dOk 59 x = true) (h2 : dOks 59 l = true) : ((toPys l).any fun z => PyData.eqv z (toPy x)) = l.any fun z => eqv z x := any_py h1 h2
theorem sm_inL {l : List D} {b : Bool} (h : inD x (.lst l) = some b) : OpSem K (rInD K) .sh x (.lst l) (.bl b) := fun B H v w e hv hw Q q => by
  obtain ⟨h1, h2, rfl⟩ := inD_l h
  obtain ⟨d1, s1⟩ := bor_dp e (by decide) h1 hv
  obtain ⟨d2, s2⟩ := bor_dp e (by decide) h2 hw
  simp only [toPy] at d2 s2
  refine ⟨_, _, d1, d2, s1, s2, ?_⟩
  rw [any_in h1 (by simpa [dOk] using h2)]
  exact same_val e (.bl _) q
theorem sm_niL {l : List D} {b : Bool} (h : inD x (.lst l) = some b) : OpSem K (rNotInD K) .sh x (.lst l) (.bl (!b)) := fun B H v w e hv hw Q q => by
  obtain ⟨h1, h2, rfl⟩ := inD_l h
  obtain ⟨d1, s1⟩ := bor_dp e (by decide) h1 hv
  obtain ⟨d2, s2⟩ := bor_dp e (by decide) h2 hw
  simp only [toPy] at d2 s2
  refine ⟨_, _, d1, d2, s1, s2, ?_⟩
  rw [any_in h1 (by simpa [dOk] using h2)]
  exact same_val e (.bl _) q
theorem sm_inT {l : List D} {b : Bool} (h : inD x (.tup l) = some b) : OpSem K (rInT K) .sh x (.tup l) (.bl b) := fun B H v w e hv hw Q q => by
  obtain ⟨h1, h2, rfl⟩ := inD_t h
  obtain ⟨d1, s1⟩ := bor_dp e (by decide) h1 hv
  obtain ⟨d2, s2⟩ := bor_dp e (by decide) h2 hw
  simp only [toPy] at d2 s2
  refine ⟨_, _, d1, d2, s1, s2, ?_⟩
  rw [any_in h1 (by simpa [dOk] using h2)]
  exact same_val e (.bl _) q
theorem sm_niT {l : List D} {b : Bool} (h : inD x (.tup l) = some b) : OpSem K (rNotInT K) .sh x (.tup l) (.bl (!b)) := fun B H v w e hv hw Q q => by
  obtain ⟨h1, h2, rfl⟩ := inD_t h
  obtain ⟨d1, s1⟩ := bor_dp e (by decide) h1 hv
  obtain ⟨d2, s2⟩ := bor_dp e (by decide) h2 hw
  simp only [toPy] at d2 s2
  refine ⟨_, _, d1, d2, s1, s2, ?_⟩
  rw [any_in h1 (by simpa [dOk] using h2)]
  exact same_val e (.bl _) q
def rIsN : R2 := fun x y H Q => y = .non ∧ Q (.bl (decide (x = .non))) H
def rNotN : R2 := fun x y H Q => y = .non ∧ Q (.bl (!decide (x = .non))) H
def isN : D → Bool
  | .non => true
  | _ => false
theorem bor_isN {B H : Hp} {v : V} (h : Bor K B H v x) : decide (v = .non) = isN x := by
  rcases h with h | ⟨p, rfl, h⟩
  · cases h <;> rfl
  · rcases h with ⟨_, _, rfl, _⟩ | ⟨_, _, _, rfl, _⟩ <;> rfl
theorem sm_isN : OpSem K rIsN .sh x .non (.bl (isN x)) := fun B H v w e hv hw Q q => by
  cases bor_non hw
  exact ⟨rfl, by rw [bor_isN hv]; exact same_val e (.bl _) q⟩
theorem sm_notN : OpSem K rNotN .sh x .non (.bl (!isN x)) := fun B H v w e hv hw Q q => by
  cases bor_non hw
  exact ⟨rfl, by rw [bor_isN hv]; exact same_val e (.bl _) q⟩

/-! ### an item -/
theorem atI_reps {B : Hp} {vs : List V} {l : List D} {i : Int} {d : D} (r : Reps K B vs l) (h : atI l i = some d) : ∃ v, atI vs i = some v ∧ Rep K B v d := by
  unfold atI at h ⊢
  rw [r.length]
  cases q : ixN l.length i with
  | none => rw [q] at h; cases h
  | some j =>
    rw [q] at h
    obtain ⟨v, h1, h2⟩ := r.getD (i := j) (d := d) h
    exact ⟨v, h1, h2⟩
theorem sm_ixL {l : List D} {i : Int} (h : atI l i = some d) : OpSem K (rIxL K) .sh (.lst l) (.int i) d := fun B H v w e hv hw Q q => by
  obtain ⟨a, vs, rfl, ha, r⟩ := bor_lst e hv
  cases bor_int hw
  obtain ⟨u, h1, h2⟩ := atI_reps r h
  exact ⟨a, vs, i, u, rfl, rfl, SqL.of ha, h1, same_val e h2 q⟩
theorem sm_ixZ {l : List D} {i : Int} (h : atI l i = some d) : OpSem K (rIxL K) .sh (.scr l) (.int i) d := fun B H v w e hv hw Q q => by
  obtain ⟨a, vs, rfl, ha, r⟩ := bor_scr hv
  cases bor_int hw
  obtain ⟨u, h1, h2⟩ := atI_reps r h
  exact ⟨a, vs, i, u, rfl, rfl, sqL_ex e ha, h1, same_val e h2 q⟩
theorem sm_ixT {l : List D} {i : Int} (h : atI l i = some d) : OpSem K (rIxT K) .sh (.tup l) (.int i) d := fun B H v w e hv hw Q q => by
  obtain ⟨a, vs, rfl, ha, r⟩ := bor_tup hv
  cases bor_int hw
  obtain ⟨u, h1, h2⟩ := atI_reps r h
  exact ⟨a, vs, i, u, rfl, rfl, sqT_ex e ha, h1, same_val e h2 q⟩
theorem atI_mem {α : Type} {xs : List α} {i : Int} {x : α} (h : atI xs i = some x) : x ∈ xs := by
  obtain ⟨j, _, h1, _⟩ := atI_get h
  exact List.mem_of_getElem? h1
theorem sm_ixS {z : Str} {i : Int} {c : Nat} (h : atI z.cps.toList i = some c) : OpSem K rIxS .sh (.str z) (.int i) (.str ⟨#[c]⟩) := fun B H v w e hv hw Q q => by
  obtain ⟨rfl, o⟩ := bor_str hv
  cases bor_int hw
  exact ⟨z, i, c, rfl, rfl, o.2, h, same_val e (.str _ (okS_one o (atI_mem h))) q⟩
/-- a dict's entry -/
theorem valV_look {B : Hp} {k : Key} : ∀ {kvs : List (Key × V)} {ds : List D}, Reps K B (kvs.map (·.2)) ds → (∀ d, lookD k (kvs.map (·.1)) ds = some d → ∃ v, valV kvs k = some v ∧ Rep K B v d) ∧ (lookD k (kvs.map (·.1)) ds = none → valV kvs k = none)
  | [], _, h => by
    constructor
    · intro d q; simp [lookD] at q
    · intro _; rfl
  | (k', v) :: r, ds, h => by
    cases h with
    | cons h1 h2 =>
      obtain ⟨i1, i2⟩ := valV_look (k := k) h2
      simp only [List.map_cons, lookD]
      by_cases q : k' = k
      · simp only [if_pos q]
        constructor
        · intro d e; cases e
          refine ⟨v, ?_, h1⟩
          unfold valV
          rw [List.find?_cons_of_pos (by simp [q])]
          rfl
        · intro e; cases e
      · simp only [if_neg q]
        have e : valV ((k', v) :: r) k = valV r k := by
          unfold valV
          rw [List.find?_cons_of_neg (by simp [q])]
        rw [e]
        exact ⟨i1, i2⟩
/-! two dicts -/
theorem flat_val {B : Hp} {v w : V} {d e : D} (hd : flatD d = true) (he : flatD e = true) (hq : eqv d e = true) (hc : clsN d = clsN e) (r : Rep K B v d) (r' : Rep K B w e) : v = w ∧ flatB v = true := by
  cases d <;> simp [flatD] at hd <;> cases e <;> simp [clsN] at hc <;> cases r <;> cases r' <;> simp [eqv] at hq <;> simp [flatB, hq]
theorem sub_val {B : Hp} {lvs : List (Key × V)} {es : List D} (rl : Reps K B (lvs.map (·.2)) es) : ∀ {kvs : List (Key × V)} {ds : List D}, Reps K B (kvs.map (·.2)) ds → subK (lvs.map (·.1)) es (kvs.map (·.1)) ds = true → ∀ p ∈ kvs, valV lvs p.1 = some p.2 ∧ flatB p.2 = true
  | [], _, _, _ => by simp
  | p :: kvs, _, .cons r rs, h => by
    simp only [List.map_cons, subK, Bool.and_eq_true] at h
    obtain ⟨h1, h2⟩ := h
    intro q hq
    rcases List.mem_cons.mp hq with rfl | hq
    · split at h1
      · rename_i e he
        simp only [Bool.and_eq_true, decide_eq_true_eq] at h1
        obtain ⟨v, hv, rv⟩ := (valV_look (k := q.1) rl).1 e he
        obtain ⟨e1, e2⟩ := flat_val h1.1.1.1 h1.1.1.2 h1.1.2 h1.2 r rv
        rw [hv, ← e1]
        exact ⟨rfl, e2⟩
      · cases h1
    · exact sub_val rl rs h2 q hq
theorem sm_eqK {ks ls : List Key} {ds es : List D} (h1 : ks.length = ls.length) (h2 : subK ls es ks ds = true) : OpSem K rEqDA .sh (.dic ks ds) (.dic ls es) (.bl true) := fun B H v w e hv hw Q q => by
  obtain ⟨a, kvs, rfl, ha, rfl, _, r⟩ := bor_dic e hv
  obtain ⟨b, lvs, rfl, hb, rfl, _, rl⟩ := bor_dic e hw
  exact ⟨a, b, kvs, lvs, rfl, rfl, ha, hb, by simpa using h1, sub_val rl r h2, same_val e (.bl _) q⟩
theorem sm_neK {ks ls : List Key} {ds es : List D} (h1 : ks.length = ls.length) (h2 : subK ls es ks ds = true) : OpSem K rNeDA .sh (.dic ks ds) (.dic ls es) (.bl false) := fun B H v w e hv hw Q q => by
  obtain ⟨a, kvs, rfl, ha, rfl, _, r⟩ := bor_dic e hv
  obtain ⟨b, lvs, rfl, hb, rfl, _, rl⟩ := bor_dic e hw
  exact ⟨a, b, kvs, lvs, rfl, rfl, ha, hb, by simpa using h1, sub_val rl r h2, same_val e (.bl _) q⟩
theorem keyD_V {B H : Hp} {v : V} {k : Key} (h : keyD x = some k) (r : Bor K B H v x) : v = kV k := by
  cases x with
  | int i => cases h; exact bor_int r
  | str s => cases h; exact (bor_str r).1
  | _ => cases h
def rDGet : R2 := fun x y H Q => ∃ a v, x = .ref a ∧ DGet H a y (some v) ∧ Q v H
theorem sm_ixD {ks : List Key} {ds : List D} {k : Key} (hk : keyD y = some k) (h : lookD k ks ds = some d) : OpSem K rDGet .sh (.dic ks ds) y d := fun B H v w e hv hw Q q => by
  obtain ⟨a, kvs, rfl, ha, rfl, o, r⟩ := bor_dic e hv
  obtain ⟨u, h1, h2⟩ := (valV_look r).1 d h
  refine ⟨a, u, rfl, ?_, same_val e h2 q⟩
  rw [keyD_V hk hw, ← h1]
  exact DGet.k ha
theorem look_any {k : Key} : ∀ {ks : List Key} {ds : List D}, ks.length = ds.length → (lookD k ks ds).isSome = ks.any fun k' => decide (k' = k)
  | [], _, _ => by simp [lookD]
  | k' :: ks, [], h => by simp at h
  | k' :: ks, d :: ds, h => by
    simp only [lookD, List.any_cons]
    by_cases q : k' = k
    · simp [q]
    · simp only [if_neg q, decide_eq_false q, Bool.false_or]
      exact look_any (by simpa using h)
theorem dget_isSome {B H : Hp} {a : Addr} {ks : List Key} {ds : List D} {k : Key} {kvs : List (Key × V)} (ha : H a = some (.dK kvs)) (hk : kvs.map (·.1) = ks) (r : Reps K B (kvs.map (·.2)) ds) : ∃ o, DGet H a (kV k) o ∧ o.isSome = ks.any fun k' => decide (k' = k) := by
  refine ⟨_, DGet.k (k := k) ha, ?_⟩
  subst hk
  have hl : (kvs.map (·.1)).length = ds.length := by rw [← r.length]; simp
  rw [← look_any hl]
  obtain ⟨i1, i2⟩ := valV_look (k := k) r
  cases q : lookD k (kvs.map (·.1)) ds with
  | none => rw [i2 q]; rfl
  | some d => obtain ⟨v, h, _⟩ := i1 d q; rw [h]; rfl
def rDIn : R2 := fun y x H Q => ∃ a o, x = .ref a ∧ DGet H a y o ∧ Q (.bl o.isSome) H
def rDNi : R2 := fun y x H Q => ∃ a o, x = .ref a ∧ DGet H a y o ∧ Q (.bl (!o.isSome)) H
theorem sm_inK {ks : List Key} {ds : List D} {k : Key} (hk : keyD x = some k) : OpSem K rDIn .sh x (.dic ks ds) (.bl (ks.any fun k' => decide (k' = k))) := fun B H v w e hv hw Q q => by
  obtain ⟨a, kvs, rfl, ha, hks, o, r⟩ := bor_dic e hw
  obtain ⟨o', g, e'⟩ := dget_isSome (k := k) ha hks r
  refine ⟨a, o', rfl, by rw [keyD_V hk hv]; exact g, ?_⟩
  rw [e']; exact same_val e (.bl _) q
theorem sm_niK {ks : List Key} {ds : List D} {k : Key} (hk : keyD x = some k) : OpSem K rDNi .sh x (.dic ks ds) (.bl (!ks.any fun k' => decide (k' = k))) := fun B H v w e hv hw Q q => by
  obtain ⟨a, kvs, rfl, ha, hks, o, r⟩ := bor_dic e hw
  obtain ⟨o', g, e'⟩ := dget_isSome (k := k) ha hks r
  refine ⟨a, o', rfl, by rw [keyD_V hk hv]; exact g, ?_⟩
  rw [e']; exact same_val e (.bl _) q
end
end DL

set_option Elab.async false
set_option linter.all false
set_option maxRecDepth 100000
set_option maxHeartbeats 4000000
namespace DL
open PySem PySem.Spec L2

/-! ### operators by data -/
def binO : Operator → Option Op2
  | .Add => some .add | .Sub => some .sub | .Mult => some .mul | .FloorDiv => some .fdiv | .Mod => some .mod
  | _ => none
def cmpO : CmpOp → Op2
  | .Eq => .eq | .NotEq => .ne | .Lt => .lt | .LtE => .le | .Gt => .gt | .GtE => .ge | .Is => .is_ | .IsNot => .isnot | .In => .isin | .NotIn => .notin
def mdR : D → Md
  | .lst _ => .ow
  | .dic _ _ => .ow
  | _ => .sh
theorem cmul_of {i j : Int} (h : mulOk i j = true) : CMul i j := by
  unfold mulOk at h
  rw [Bool.or_eq_true, decide_eq_true_eq, decide_eq_true_eq] at h
  exact h
theorem bin_sem {X : Cx} {op : Operator} {o : Op2} {x y d : D} (ho : binO op = some o) (h : op2D o x y = some d) : ∃ r, OpR X (binaryOp op) r ∧ OpSem X.K r (mdR d) x y d := by
  cases op <;> cases ho
  · cases x <;> cases y <;> simp [op2D, catS] at h
    · subst h; exact ⟨_, op_add, sm_int0⟩
    · obtain ⟨h1, rfl⟩ := h; exact ⟨_, op_add_str, sm_addS h1⟩
    · obtain ⟨h1, rfl⟩ := h; exact ⟨_, op_catA, sm_catT h1⟩
    · obtain ⟨h1, rfl⟩ := h; exact ⟨_, op_cat, sm_cat h1⟩
  · cases x <;> cases y <;> simp [op2D] at h
    subst h; exact ⟨_, op_sub, sm_int0⟩
  · cases x <;> cases y <;> simp [op2D] at h
    obtain ⟨h1, rfl⟩ := h; exact ⟨_, op_mul, sm_intC (cmul_of h1)⟩
  · cases x <;> cases y <;> simp [op2D] at h
    obtain ⟨h1, rfl⟩ := h; exact ⟨_, op_mod, sm_intC h1⟩
  · cases x <;> cases y <;> simp [op2D] at h
    obtain ⟨h1, rfl⟩ := h; exact ⟨_, op_fdiv, sm_intC h1⟩
theorem op_dIn {X : Cx} (hu : X.A.units + 65 < cLine) : OpR X (compareOp .In) rDIn := by
  intro pins s σ H x y v u Q I rx ry h
  obtain ⟨a, o, rfl, g, q⟩ := h
  cases ry
  exact d_in (by omega) I g rx fun s' I' => ⟨.bl _, H, I', rfl, q⟩
theorem op_dNi {X : Cx} (hu : X.A.units + 65 < cLine) : OpR X (compareOp .NotIn) rDNi := by
  intro pins s σ H x y v u Q I rx ry h
  obtain ⟨a, o, rfl, g, q⟩ := h
  cases ry
  exact d_notIn (by omega) I g rx fun s' I' => ⟨.bl _, H, I', rfl, q⟩
theorem cmp_sem {X : Cx} (hu : X.A.units + 65 < cLine) {op : CmpOp} {x y d : D} (h : op2D (cmpO op) x y = some d) : ∃ (r : R2) (k : Bool), d = .bl k ∧ OpR X (compareOp op) r ∧ OpSem X.K r .sh x y d := by
  cases op <;> simp only [cmpO] at h
  · obtain ⟨b, h1, rfl⟩ := Option.map_eq_some_iff.mp (show (eqD x y).map D.bl = some d from h)
    by_cases hn : ∃ ks ds ls es, x = .dic ks ds ∧ y = .dic ls es
    · obtain ⟨ks, ds, ls, es, rfl, rfl⟩ := hn
      simp only [eqD] at h1
      split at h1
      · rename_i hc; cases h1; exact ⟨_, _, rfl, op_eq_dictA (by omega), sm_eqK hc.1 hc.2⟩
      · cases h1
    · exact ⟨_, _, rfl, op_eqD (by omega), sm_eq h1 hn⟩
  · obtain ⟨b, h1, rfl⟩ := Option.map_eq_some_iff.mp (show (eqD x y).map (fun b => D.bl (!b)) = some d from h)
    by_cases hn : ∃ ks ds ls es, x = .dic ks ds ∧ y = .dic ls es
    · obtain ⟨ks, ds, ls, es, rfl, rfl⟩ := hn
      simp only [eqD] at h1
      split at h1
      · rename_i hc; cases h1; exact ⟨_, _, rfl, op_ne_dictA (by omega), sm_neK hc.1 hc.2⟩
      · cases h1
    · exact ⟨_, _, rfl, op_neD (by omega), sm_ne h1 hn⟩
  · cases x <;> cases y <;> simp [op2D] at h
    subst h; exact ⟨_, _, rfl, op_lt, sm_bl0 (g := fun i j => decide (i < j))⟩
  · cases x <;> cases y <;> simp [op2D] at h
    subst h; exact ⟨_, _, rfl, op_le, sm_bl0 (g := fun i j => decide (i ≤ j))⟩
  · cases x <;> cases y <;> simp [op2D] at h
    subst h; exact ⟨_, _, rfl, op_gt, sm_bl0 (g := fun i j => decide (j < i))⟩
  · cases x <;> cases y <;> simp [op2D] at h
    subst h; exact ⟨_, _, rfl, op_ge, sm_bl0 (g := fun i j => decide (j ≤ i))⟩
  · cases y <;> simp [op2D] at h
    have : d = .bl (isN x) := by cases x <;> cases h <;> rfl
    subst this; exact ⟨_, _, rfl, op_isN, sm_isN⟩
  · cases y <;> simp [op2D] at h
    have : d = .bl (!isN x) := by cases x <;> cases h <;> rfl
    subst this; exact ⟨_, _, rfl, op_notN, sm_notN⟩
  · obtain ⟨b, h1, rfl⟩ := Option.map_eq_some_iff.mp (show (inD x y).map D.bl = some d from h)
    cases y with
    | lst l => exact ⟨_, _, rfl, op_inD hu, sm_inL h1⟩
    | tup l => exact ⟨_, _, rfl, op_inT hu, sm_inT h1⟩
    | dic ks ds =>
      obtain ⟨k, hk, rfl⟩ := Option.map_eq_some_iff.mp (show (keyD x).map (fun k => ks.any fun k' => decide (k' = k)) = some b from h1)
      exact ⟨_, _, rfl, op_dIn hu, sm_inK hk⟩
    | _ => simp [inD] at h1
  · obtain ⟨b, h1, rfl⟩ := Option.map_eq_some_iff.mp (show (inD x y).map (fun b => D.bl (!b)) = some d from h)
    cases y with
    | lst l => exact ⟨_, _, rfl, op_notInD hu, sm_niL h1⟩
    | tup l => exact ⟨_, _, rfl, op_notInT hu, sm_niT h1⟩
    | dic ks ds =>
      obtain ⟨k, hk, rfl⟩ := Option.map_eq_some_iff.mp (show (keyD x).map (fun k => ks.any fun k' => decide (k' = k)) = some b from h1)
      exact ⟨_, _, rfl, op_dNi hu, sm_niK hk⟩
    | _ => simp [inD] at h1

/-! ### plain pieces of the text -/
def plainE : Expr → Bool
  | .Starred _ _ => false
  | .Slice _ _ _ _ => false
  | .Set _ _ _ => false
  | _ => true
theorem star1 {e : Expr} {es : List Expr} {env : Env} (h : plainE e = true) : starEach (e :: es) env = (false, eval e env) :: starEach es env := by
  cases e <;> first | rfl | cases h
theorem plainIx {b : Expr} (h : plainE b = true) : PlainIx b := by
  cases b <;> first | exact fun _ _ => rfl | cases h
theorem plainMark {op : CmpOp} {b : Expr} (h : plainE b = true) : behindInMarks op b = false := by
  cases b <;> first | rfl | cases h
theorem plainFold {e : Expr} {env : Env} (h : plainE e = true) : ∀ x, foldedSetIterable e env x = pure x := by
  cases e <;> first | exact fun _ => rfl | cases h
def plainB : Expr → Bool
  | .Call _ _ _ _ => false
  | e => plainE e
theorem plainBase {e : Expr} {m : Str} {env : Env} (h : plainB e = true) : attributeBase e m env (eval e env) = eval e env := by
  cases e <;> first | rfl | cases h

section
variable {X : Cx} {N : List Str} {sc : Scope} {k : Nat} {e a b c : Expr} {Γ : MEnv} {ρ : DEnv} {d x y z : D} {m : Md} {pos apos : Pos}
theorem ev_var {i : Nat} {x : Str} (hN : X.N[i]? = some x) (hv : Vis X.env.scope x) (hd : (x == ("__debug__" : Str)) = false) (hcd : (x == ("__classdict__" : Str)) = false) (h : ρ[i]? = some (some d)) : EvM .bo X (.Name x pos) Γ ρ d := fun lv B0 H0 B H σ S Q q => by
  refine of_pe (pe_var hN hv hd hcd) ?_
  obtain ⟨v, hv, r⟩ := S.read h
  exact ⟨v, hv, q v B H (.refl S.ext.bh) r⟩
theorem ev_varS {i : Nat} {x : Str} (hN : X.N[i]? = some x) (hv : Vis X.env.scope x) (hd : (x == ("__debug__" : Str)) = false) (hcd : (x == ("__classdict__" : Str)) = false) (h : ρ[i]? = some (some d)) (hm : Γ[i]? = some Md.sh) : EvM .sh X (.Name x pos) Γ ρ d := fun lv B0 H0 B H σ S Q q => by
  refine of_pe (pe_var hN hv hd hcd) ?_
  obtain ⟨v, hv, r⟩ := S.sh i d hm h
  exact ⟨v, hv, q v B H (.refl S.ext.bh) r⟩
theorem ev_const {v : V} (pe : PE X e (tC v)) (r : ∀ B, Rep X.K B v d) : EvM .sh X e Γ ρ d := fun lv B0 H0 B H σ S Q q => of_pe pe (q v B H (.refl S.ext.bh) (r B))
theorem ev_bin {op : Operator} {o : Op2} (ho : binO op = some o) (h : op2D o x y = some d) (ha : EvM .bo X a Γ ρ x) (hb : EvM .bo X b Γ ρ y) : EvM (mdR d) X (.BinOp a op b pos) Γ ρ d := by
  obtain ⟨r, h1, h2⟩ := bin_sem (X := X) ho h
  exact ev_op2 (pe_op h1 pe_of pe_of) h2 ha hb
theorem ev_cmp {op : CmpOp} (g : Good X N sc k) (hb' : plainE b = true) (h : op2D (cmpO op) x y = some d) (ha : EvM .bo X a Γ ρ x) (hb : EvM .bo X b Γ ρ y) : EvM .sh X (.Compare a [op] [b] pos) Γ ρ d := by
  obtain ⟨r, j, rfl, h1, h2⟩ := cmp_sem (X := X) g.hu h
  exact ev_op2 (pe_cmpR h1 pe_of pe_of (plainMark hb')) h2 ha hb
theorem ev_cmpT {op : CmpOp} {j : Bool} (g : Good X N sc k) (hb' : plainE b = true) (h : op2D (cmpO op) x y = some (.bl j)) (ha : EvM .bo X a Γ ρ x) (hb : EvM .bo X b Γ ρ y) : EvT X (.Compare a [op] [b] pos) Γ ρ j := by
  obtain ⟨r, j', e, h1, h2⟩ := cmp_sem (X := X) g.hu h
  exact ev_tst (pt_cmpR h1 pe_of pe_of (plainMark hb')) h2 ha hb
/-- a comparison of three -/
theorem lastM {op op' : CmpOp} (hc : plainE c = true) : lastMarks [op, op'] [b, c] = false := plainMark hc
theorem ev_chain {op op' : CmpOp} (g : Good X N sc k) (hc' : plainE c = true) {j : Bool} (h : op2D (cmpO op) x y = some (.bl j)) (ha : EvM .bo X a Γ ρ x) (hb : EvM .bo X b Γ ρ y)
    (h1 : j = true → EvM .bo X c Γ ρ z ∧ op2D (cmpO op') y z = some d) (h0 : j = false → d = .bl false) : EvM .sh X (.Compare a [op, op'] [b, c] pos) Γ ρ d := fun lv B0 H0 B H σ S Q q => by
  obtain ⟨r, j', e, p1, p2⟩ := cmp_sem (X := X) g.hu h
  cases j with
  | true =>
    obtain ⟨hc, h'⟩ := h1 rfl
    obtain ⟨r', j2, e2, p3, p4⟩ := cmp_sem (X := X) g.hu h'
    refine of_pe (pe_chain p1 p3 pe_of pe_of pe_of (lastM hc')) ?_
    refine ha lv B0 H0 B H σ S _ fun v1 B1 H1 x1 r1 => ?_
    refine hb lv B0 H0 B1 H1 σ (S.grow x1) _ fun v2 B2 H2 x2 r2 => ?_
    refine p2 B2 H2 v1 v2 x2.bh (Bor.mono x2.bb x2.hh r1) r2 _ fun v3 B3 H3 x3 r3 => ?_
    cases r3
    refine ⟨true, rfl, iteT ?_⟩
    have x12 := (x1.trans x2).trans x3
    refine hc lv B0 H0 B3 H3 σ (S.grow x12) _ fun v4 B4 H4 x4 r4 => ?_
    exact p4 B4 H4 v2 v4 x4.bh (Bor.mono (x3.bb.trans x4.bb) (x3.hh.trans x4.hh) r2) r4 Q fun v B' H' x5 r5 => q v B' H' ((x12.trans x4).trans x5) r5
  | false =>
    refine of_pe (pe_chain (op' := op') (r' := fun _ _ _ _ => False) p1 (fun _ _ _ _ _ _ _ _ _ _ _ _ h => h.elim) pe_of pe_of pe_of (lastM hc')) ?_
    cases h0 rfl
    refine ha lv B0 H0 B H σ S _ fun v1 B1 H1 x1 r1 => ?_
    refine hb lv B0 H0 B1 H1 σ (S.grow x1) _ fun v2 B2 H2 x2 r2 => ?_
    refine p2 B2 H2 v1 v2 x2.bh (Bor.mono x2.bb x2.hh r1) r2 _ fun v3 B3 H3 x3 r3 => ?_
    cases r3
    exact ⟨false, rfl, iteF (q _ B3 H3 ((x1.trans x2).trans x3) (.bl _))⟩
end
end DL

set_option Elab.async false
set_option linter.all false
set_option maxRecDepth 100000
set_option maxHeartbeats 4000000
namespace DL
open PySem PySem.Spec L2

def plainT : Expr → Bool
  | .UnaryOp .Not _ _ => false
  | .BoolOp _ _ _ => false
  | .IfExp _ _ _ _ => false
  | .Compare _ _ _ _ => false
  | e => plainE e
theorem plainTru {e : Expr} {env : Env} (h : plainT e = true) : ∀ whole, isTrue e env whole = (do let v ← whole; standAt e.pos; holding [v] (truthy v)) := by
  cases e with
  | UnaryOp op _ _ => cases op <;> first | exact fun _ => rfl | cases h
  | _ => first | exact fun _ => rfl | cases h
theorem isEmpty_reps {K : PySem.W.Frag} {B : Hp} {vs : List V} {l : List D} (r : Reps K B vs l) : vs.isEmpty = l.isEmpty := by cases r <;> rfl
theorem tru_of {K : PySem.W.Frag} {B H : Hp} {v : V} {d : D} {k : Bool} (e : Ex B H) (r : Bor K B H v d) (h : truD d = some k) : TruV K v H k := by
  cases d with
  | non => cases bor_non r; cases h; rfl
  | bl b => cases bor_bl r; cases h; rfl
  | int i => cases bor_int r; cases h; rfl
  | str x => obtain ⟨rfl, o⟩ := bor_str r; cases h; exact ⟨o.2, rfl⟩
  | lst l =>
    obtain ⟨a, vs, rfl, ha, q⟩ := bor_lst e r; cases h
    exact .inl ⟨vs, SqL.of ha, by rw [isEmpty_reps q]⟩
  | tup l =>
    obtain ⟨a, vs, rfl, ha, q⟩ := bor_tup r; cases h
    exact .inr (.inl ⟨vs, sqT_ex e ha, by rw [isEmpty_reps q]⟩)
  | scr l =>
    obtain ⟨a, vs, rfl, ha, q⟩ := bor_scr r; cases h
    exact .inl ⟨vs, sqL_ex e ha, by rw [isEmpty_reps q]⟩
  | dic ks ds =>
    obtain ⟨a, kvs, rfl, ha, rfl, o, q⟩ := bor_dic e r; cases h
    exact .inr (.inr ⟨kvs, ha, by cases kvs <;> rfl⟩)

section
variable {X : Cx} {N : List Str} {sc : Scope} {k : Nat} {e a b c : Expr} {Γ : MEnv} {ρ : DEnv} {d x y z : D} {m : Md} {pos apos : Pos} {rest : List Expr}
theorem ev_truth {j : Bool} (hp : plainT e = true) (h : truD d = some j) (he : EvM .bo X e Γ ρ d) : EvT X e Γ ρ j := fun lv B0 H0 B H σ S Q q => by
  refine of_pt (pt_truth pe_of (plainTru hp)) ?_
  refine he lv B0 H0 B H σ S _ fun v B1 H1 x1 r1 => ?_
  exact ⟨j, tru_of x1.bh r1 h, q B1 H1 x1⟩
theorem ev_tAnd {j : Bool} {p q : Bool} (ha : EvT X a Γ ρ p) (hb : p = true → EvT X (.BoolOp .And (b :: rest) pos) Γ ρ q) (hj : j = (p && q)) (hw : ∀ t, PT X (.BoolOp .And (b :: rest) pos) t → PW X (.BoolOp .And (b :: rest) pos) t) : EvT X (.BoolOp .And (a :: b :: rest) pos) Γ ρ j := fun lv B0 H0 B H σ S Q k => by
  refine of_pt (PW.pt (pw_and pt_of (hw _ pt_of))) ?_
  refine ha lv B0 H0 B H σ S _ fun B1 H1 x1 => ?_
  cases p with
  | true => exact iteT (hb rfl lv B0 H0 B1 H1 σ (S.grow x1) _ fun B2 H2 x2 => by rw [hj, Bool.true_and] at k; exact k B2 H2 (x1.trans x2))
  | false => exact iteF (by rw [hj, Bool.false_and] at k; exact k B1 H1 x1)
theorem ev_tOr {j : Bool} {p q : Bool} (ha : EvT X a Γ ρ p) (hb : p = false → EvT X (.BoolOp .Or (b :: rest) pos) Γ ρ q) (hj : j = (p || q)) (hw : ∀ t, PT X (.BoolOp .Or (b :: rest) pos) t → PW X (.BoolOp .Or (b :: rest) pos) t) : EvT X (.BoolOp .Or (a :: b :: rest) pos) Γ ρ j := fun lv B0 H0 B H σ S Q k => by
  refine of_pt (PW.pt (pw_or pt_of (hw _ pt_of))) ?_
  refine ha lv B0 H0 B H σ S _ fun B1 H1 x1 => ?_
  cases p with
  | true => exact iteT (by rw [hj, Bool.true_or] at k; exact k B1 H1 x1)
  | false => exact iteF (hb rfl lv B0 H0 B1 H1 σ (S.grow x1) _ fun B2 H2 x2 => by rw [hj, Bool.false_or] at k; exact k B2 H2 (x1.trans x2))
/-- isTrue of a BoolOp does not look at the whole -/
theorem pw_bool {op : BoolOp} {vs : List Expr} {t : TT} (h : PT X (.BoolOp op vs pos) t) : PW X (.BoolOp op vs pos) t := ⟨fun whole pins s σ H Q I q => h.run pins s σ H Q I q⟩
theorem ev_tOne {op : BoolOp} {j : Bool} (ha : EvT X a Γ ρ j) : EvT X (.BoolOp op [a] pos) Γ ρ j := fun lv B0 H0 B H σ S Q q => by
  cases op with
  | And => exact of_pt (PW.pt (pw_and1 pt_of)) (ha lv B0 H0 B H σ S Q q)
  | Or => exact of_pt (PW.pt (pw_or1 pt_of)) (ha lv B0 H0 B H σ S Q q)
theorem ev_tNot {j : Bool} (ha : EvT X a Γ ρ j) : EvT X (.UnaryOp .Not a pos) Γ ρ (!j) := fun lv B0 H0 B H σ S Q q => of_pt (pt_not pt_of) (ha lv B0 H0 B H σ S _ fun B1 H1 x1 => q B1 H1 x1)
theorem ev_one {op : BoolOp} (ha : EvM m X a Γ ρ d) : EvM m X (.BoolOp op [a] pos) Γ ρ d := fun lv B0 H0 B H σ S Q q => of_pe (pe_one pe_of) (ha lv B0 H0 B H σ S Q q)
theorem ev_and {p : Bool} (ha : EvM .bo X a Γ ρ (.bl p)) (hb : p = true → EvM .sh X (.BoolOp .And (b :: rest) pos) Γ ρ d) (h0 : p = false → d = .bl false) : EvM .sh X (.BoolOp .And (a :: b :: rest) pos) Γ ρ d := fun lv B0 H0 B H σ S Q q => by
  refine of_pe (pe_and pe_of pe_of) ?_
  refine ha lv B0 H0 B H σ S _ fun v1 B1 H1 x1 r1 => ?_
  cases bor_bl r1
  refine ⟨p, rfl, ?_⟩
  cases p with
  | true => exact iteT (hb rfl lv B0 H0 B1 H1 σ (S.grow x1) _ fun v2 B2 H2 x2 r2 => q v2 B2 H2 (x1.trans x2) r2)
  | false => cases h0 rfl; exact iteF (q _ B1 H1 x1 (.bl _))
theorem ev_or {p : Bool} (ha : EvM .bo X a Γ ρ (.bl p)) (hb : p = false → EvM .sh X (.BoolOp .Or (b :: rest) pos) Γ ρ d) (h1 : p = true → d = .bl true) : EvM .sh X (.BoolOp .Or (a :: b :: rest) pos) Γ ρ d := fun lv B0 H0 B H σ S Q q => by
  refine of_pe (pe_or pe_of pe_of) ?_
  refine ha lv B0 H0 B H σ S _ fun v1 B1 H1 x1 r1 => ?_
  cases bor_bl r1
  refine ⟨p, rfl, ?_⟩
  cases p with
  | true => cases h1 rfl; exact iteT (q _ B1 H1 x1 (.bl _))
  | false => exact iteF (hb rfl lv B0 H0 B1 H1 σ (S.grow x1) _ fun v2 B2 H2 x2 r2 => q v2 B2 H2 (x1.trans x2) r2)
theorem ev_not {p : Bool} (ha : EvM .bo X a Γ ρ (.bl p)) : EvM .sh X (.UnaryOp .Not a pos) Γ ρ (.bl (!p)) := fun lv B0 H0 B H σ S Q q => by
  refine of_pe (pe_not pe_of) ?_
  refine ha lv B0 H0 B H σ S _ fun v1 B1 H1 x1 r1 => ?_
  cases bor_bl r1
  exact ⟨p, rfl, q _ B1 H1 x1 (.bl _)⟩
theorem ev_neg {i : Int} (ha : EvM .bo X a Γ ρ (.int i)) : EvM .sh X (.UnaryOp .USub a pos) Γ ρ (.int (-i)) := fun lv B0 H0 B H σ S Q q => by
  refine of_pe (pe_un un_neg pe_of) ?_
  refine ha lv B0 H0 B H σ S _ fun v1 B1 H1 x1 r1 => ?_
  cases bor_int r1
  exact ⟨i, rfl, q _ B1 H1 x1 (.int _)⟩
theorem ev_ite {p : Bool} (hc : EvT X c Γ ρ p) (h1 : p = true → EvM m X a Γ ρ d) (h0 : p = false → EvM m X b Γ ρ d) : EvM m X (.IfExp c a b pos) Γ ρ d := fun lv B0 H0 B H σ S Q q => by
  refine of_pe (pe_ifExp pt_of pe_of pe_of) ?_
  refine hc lv B0 H0 B H σ S _ fun B1 H1 x1 => ?_
  cases p with
  | true => exact iteT (h1 rfl lv B0 H0 B1 H1 σ (S.grow x1) _ fun v2 B2 H2 x2 r2 => q v2 B2 H2 (x1.trans x2) (r2.back x1.hh))
  | false => exact iteF (h0 rfl lv B0 H0 B1 H1 σ (S.grow x1) _ fun v2 B2 H2 x2 r2 => q v2 B2 H2 (x1.trans x2) (r2.back x1.hh))

/-! ### items, slices -/
theorem ix_sem (g : Good X N sc k) (hb : plainE b = true) (h : op2D .ix x y = some d) : ∃ r, PE X (.Subscript a b pos) (tOp r (tOf X a) (tOf X b)) ∧ OpSem X.K r .sh x y d := by
  cases x with
  | lst l => cases y <;> simp [op2D] at h; exact ⟨_, pe_ix ix_list pe_of pe_of (plainIx hb), sm_ixL h⟩
  | tup l => cases y <;> simp [op2D] at h; exact ⟨_, pe_ix ix_tup pe_of pe_of (plainIx hb), sm_ixT h⟩
  | scr l => cases y <;> simp [op2D] at h; exact ⟨_, pe_ix ix_list pe_of pe_of (plainIx hb), sm_ixZ h⟩
  | str s =>
    cases y <;> simp [op2D] at h
    obtain ⟨c, h, rfl⟩ := h
    exact ⟨_, pe_ix ix_str pe_of pe_of (plainIx hb), sm_ixS h⟩
  | dic ks ds =>
    have h' : (keyD y).bind (fun k => lookD k ks ds) = some d := h
    obtain ⟨key, h1, h2⟩ := Option.bind_eq_some_iff.mp h'
    exact ⟨rDGet, pe_dget (by have := g.hu; omega) pe_of pe_of (plainIx hb), sm_ixD h1 h2⟩
  | _ => cases y <;> simp [op2D] at h
theorem ev_ix (g : Good X N sc k) (hb' : plainE b = true) (h : op2D .ix x y = some d) (ha : EvM .bo X a Γ ρ x) (hb : EvM .bo X b Γ ρ y) : EvM .sh X (.Subscript a b pos) Γ ρ d := by
  obtain ⟨r, p, s⟩ := ix_sem (a := a) (pos := pos) g hb' h
  exact ev_op2 p s ha hb
/-- a part of a slice -/
def EvO (X : Cx) (o : Option Expr) (Γ : MEnv) (ρ : DEnv) (r : Option Int) : Prop := match o with
  | none => r = none
  | some e => ∃ i, r = some i ∧ EvM .bo X e Γ ρ (.int i)
def tOOf (X : Cx) : Option Expr → TO
  | none => tNoPart
  | some e => tPart (tOf X e)
theorem po_of {o : Option Expr} : PO X o (tOOf X o) := by
  cases o with
  | none => exact po_none
  | some e => exact po_some pe_of
theorem ev_o {o : Option Expr} {r : Option Int} (h : EvO X o Γ ρ r) : ∀ lv B0 H0 B H σ, Stt X.K Γ lv B0 H0 B H σ ρ → ∀ Q : Option Int → Hp → Prop, (∀ B' H', Ext B H B' H' → Q r H') → tOOf X o σ H Q := by
  intro lv B0 H0 B H σ S Q q
  cases o with
  | none => cases h; exact q B H (.refl S.ext.bh)
  | some e =>
    obtain ⟨i, rfl, h⟩ := h
    refine h lv B0 H0 B H σ S _ fun v B1 H1 x1 r1 => ?_
    cases bor_int r1
    exact ⟨i, rfl, q B1 H1 x1⟩
def SlSem (K : PySem.W.Frag) (r : V → Option Int → Option Int → Hp → VK → Prop) (m : Md) (x : D) (lo hi : Option Int) (d : D) : Prop := ∀ B H v, Ex B H → Bor K B H v x → ∀ Q : VK, (∀ u B' H', Ext B H B' H' → RM K m H B' H' u d → Q u H') → r v lo hi H Q
theorem cut_reps {K : PySem.W.Frag} {B : Hp} {vs : List V} {l : List D} {lo hi : Option Int} (r : Reps K B vs l) : Reps K B (cutV vs lo hi) (cutD l lo hi) := by
  unfold cutV cutD
  rw [r.length]
  exact (r.drop _).take _
theorem cut_whole {l : List D} {lo hi : Option Int} (h : HT.sIx l.length 0 lo = 0 ∧ HT.sIx l.length l.length hi = l.length) : cutD l lo hi = l := by
  unfold cutD
  rw [h.1, h.2]
  simp
theorem sl_sem {lo hi : Option Int} (h : slD x lo hi = some d) : ∃ r, SlR X r ∧ SlSem X.K r (mdR d) x lo hi d := by
  cases x <;> simp [slD] at h <;> subst h
  · refine ⟨_, sl_str, fun B H v e hv Q q => ?_⟩
    obtain ⟨rfl, o⟩ := bor_str hv
    exact ⟨_, rfl, o.2, same_val e (.str _ (okS_cut lo hi o)) q⟩
  · refine ⟨_, sl_tupA, fun B H v e hv Q q => ?_⟩
    obtain ⟨a, vs, rfl, ha, r⟩ := bor_tup hv
    refine ⟨a, vs, rfl, sqT_ex e ha, fun z => ?_, fun _ => new_tup e (cut_reps r) q⟩
    rw [r.length] at z
    rw [cut_whole z] at q
    exact same_val e (.tup ha r) q
  · refine ⟨_, sl_list, fun B H v e hv Q q => ?_⟩
    obtain ⟨a, vs, rfl, ha, r⟩ := bor_lst e hv
    exact ⟨a, vs, rfl, SqL.of ha, new_lst e (cut_reps r) q⟩
  · refine ⟨_, sl_list, fun B H v e hv Q q => ?_⟩
    obtain ⟨a, vs, rfl, ha, r⟩ := bor_scr hv
    exact ⟨a, vs, rfl, sqL_ex e ha, new_lst e (cut_reps r) q⟩
theorem ev_sl {lo hi : Option Expr} {l h' : Option Int} {p2 : Pos} (h : slD x l h' = some d) (ha : EvM .bo X a Γ ρ x) (hl : EvO X lo Γ ρ l) (hh : EvO X hi Γ ρ h') : EvM (mdR d) X (.Subscript a (.Slice lo hi none p2) pos) Γ ρ d := fun lv B0 H0 B H σ S Q q => by
  obtain ⟨r, p, s⟩ := sl_sem (X := X) h
  refine of_pe (pe_slice p pe_of po_of po_of) ?_
  refine ha lv B0 H0 B H σ S _ fun v1 B1 H1 x1 r1 => ?_
  refine ev_o hl lv B0 H0 B1 H1 σ (S.grow x1) _ fun B2 H2 x2 => ?_
  refine ev_o hh lv B0 H0 B2 H2 σ (S.grow (x1.trans x2)) _ fun B3 H3 x3 => ?_
  have x123 := (x1.trans x2).trans x3
  exact s B3 H3 v1 x3.bh (Bor.mono (x2.trans x3).bb (x2.trans x3).hh r1) Q fun u B' H' x4 r4 => q u B' H' (x123.trans x4) (r4.back x123.hh)
end
end DL

set_option Elab.async false
set_option linter.all false
set_option maxRecDepth 100000
set_option maxHeartbeats 4000000
namespace DL
open PySem PySem.Spec L2

/-! ### arguments -/
def RA (K : PySem.W.Frag) (m : Md) (B H : Hp) (v : V) (d : D) : Prop := match m with
  | .sh => Rep K B v d
  | _ => Bor K B H v d
theorem RA.mono {K : PySem.W.Frag} {m : Md} {B H B' H' : Hp} {v : V} {d : D} (eb : Ex B B') (eh : Ex H H') (r : RA K m B H v d) : RA K m B' H' v d := by
  cases m with
  | sh => exact Rep.mono eb r
  | ow => exact Bor.mono eb eh r
  | bo => exact Bor.mono eb eh r
inductive RAs (K : PySem.W.Frag) (B H : Hp) : List Md → List V → List D → Prop
  | nil : RAs K B H [] [] []
  | cons {m : Md} {ms : List Md} {v : V} {vs : List V} {d : D} {ds : List D} : RA K m B H v d → RAs K B H ms vs ds → RAs K B H (m :: ms) (v :: vs) (d :: ds)
theorem RAs.len {K : PySem.W.Frag} {B H : Hp} {ms : List Md} {vs : List V} {ds : List D} (r : RAs K B H ms vs ds) : vs.length = ms.length ∧ ds.length = ms.length := by
  induction r with
  | nil => exact ⟨rfl, rfl⟩
  | cons _ _ ih => simp [ih.1, ih.2]
theorem RAs.reps {K : PySem.W.Frag} {B H : Hp} {ms : List Md} {vs : List V} {ds : List D} (h : ∀ m ∈ ms, m = .sh) (r : RAs K B H ms vs ds) : Reps K B vs ds := by
  induction r with
  | nil => exact .nil
  | @cons m ms v vs d ds r t ih =>
    have : m = .sh := h m (by simp)
    subst this
    exact .cons r (ih fun m hm => h m (by simp [hm]))
def EvAs (ms : List Md) (X : Cx) (es : List Expr) (Γ : MEnv) (ρ : DEnv) (ds : List D) : Prop :=
  ∀ lv B0 H0 B H σ, Stt X.K Γ lv B0 H0 B H σ ρ → ∀ Q : List V → Hp → Prop, (∀ vs B' H', Ext B H B' H' → RAs X.K B' H' ms vs ds → Q vs H') → tAOf X es σ H Q
section
variable {X : Cx} {N : List Str} {sc : Scope} {k : Nat} {e a b c : Expr} {es : List Expr} {Γ : MEnv} {ρ : DEnv} {d x y z : D} {ds : List D} {m : Md} {ms : List Md} {pos apos : Pos}
theorem ea_nil : EvAs [] X [] Γ ρ [] := fun lv B0 H0 B H σ S Q q => of_pa pa_nil (q [] B H (.refl S.ext.bh) .nil)
theorem ea_cons (hp : plainE e = true) (hm : m ≠ .ow) (he : EvM m X e Γ ρ d) (ht : EvAs ms X es Γ ρ ds) : EvAs (m :: ms) X (e :: es) Γ ρ (d :: ds) := fun lv B0 H0 B H σ S Q q => by
  refine of_pa (pa_cons pe_of pa_of (star1 hp)) ?_
  refine he lv B0 H0 B H σ S _ fun v1 B1 H1 x1 r1 => ?_
  refine ht lv B0 H0 B1 H1 σ (S.grow x1) _ fun vs B2 H2 x2 r2 => ?_
  refine q (v1 :: vs) B2 H2 (x1.trans x2) (.cons ?_ r2)
  cases m with
  | sh => exact Rep.mono x2.bb r1
  | ow => exact absurd rfl hm
  | bo => exact Bor.mono x2.bb x2.hh r1
theorem all_sh {n : Nat} : ∀ m ∈ List.replicate n Md.sh, m = .sh := fun m hm => (List.mem_replicate.mp hm).2
theorem ev_tup {n x1 : Nat} (hl : ds.length ≤ lim) (h : EvAs (List.replicate n .sh) X es Γ ρ ds) : EvM .sh X (.Tuple es x1 pos) Γ ρ (.tup ds) := fun lv B0 H0 B H σ S Q q => by
  refine of_pe (pe_tup pa_of) ?_
  refine h lv B0 H0 B H σ S _ fun vs B1 H1 x1 r1 => ?_
  have r := r1.reps all_sh
  exact ⟨by rw [r.length]; exact lim_le hl, new_tup x1.bh r fun v B' H' x2 r2 => q v B' H' (x1.trans x2) r2⟩
theorem ev_lst {n : Nat} (hl : ds.length ≤ lim) (h : EvAs (List.replicate n .sh) X es Γ ρ ds) : EvM .ow X (.List es pos) Γ ρ (.lst ds) := fun lv B0 H0 B H σ S Q q => by
  refine of_pe (pe_lst pa_of) ?_
  refine h lv B0 H0 B H σ S _ fun vs B1 H1 x1 r1 => ?_
  have r := r1.reps all_sh
  exact ⟨by rw [r.length]; exact lim_le hl, new_lst x1.bh r fun v B' H' x2 r2 => q v B' H' (x1.trans x2) (r2.back x1.hh)⟩
theorem ev_dnew : EvM .ow X (.Dict [] [] pos) Γ ρ (.dic [] []) := fun lv B0 H0 B H σ S Q q => by
  refine of_pe pe_dnewK ?_
  intro p hp
  exact q _ _ _ (.own S.ext.bh hp) ⟨p, rfl, hp, S.ext.bh.back hp, .inr ⟨[], [], [], rfl, upd_same, rfl, (fun x hx => by cases hx), .nil⟩⟩

/-! ### own defs -/
def spD (K : PySem.W.Frag) (ms : List Md) (sem : List D → Option D) : Sp := fun vs H Q _ =>
  ∃ B ds d, Ex B H ∧ RAs K B H ms vs ds ∧ sem ds = some d ∧ ∀ v B' H', Ext B H B' H' → Rep K B' v d → Q v H'
def plainEs : List Expr → Bool
  | [] => true
  | e :: es => plainE e && plainEs es
theorem backTo_plain {env : Env} (pos : Pos) : ∀ {es : List Expr}, plainEs es = true → (backTo pos (starEach es env)).any (·.1) = false
  | [], _ => rfl
  | e :: es, h => by
    simp only [plainEs, Bool.and_eq_true] at h
    rw [star1 h.1]
    have ih := backTo_plain (env := env) pos h.2
    show (false || (backTo pos (starEach es env)).any (·.1)) = false
    rw [ih]; rfl
structure FnAt (X : Cx) (k : Nat) (nm : Str) (ms : List Md) (sem : List D → Option D) : Prop where
  ex : ∃ (f : Addr) (fd : FuncData) (ps : List Str) (j : Nat), j ≤ k ∧ X.mg nm = some (.ref f) ∧ PySem.W.keepIn X.K (.ref f) = true ∧ Binds X.K fd ps [] ∧ FnOk X.prog X.w X.K X.mg X.base CX0 j f fd ps (spD X.K ms sem)
theorem ev_call {nm : Str} {p : Pos} {sem : List D → Option D} (g : Good X N sc k) (F : FnAt X k nm ms sem) (hg : glS sc nm = true) (hd : (nm == ("__debug__" : Str)) = false) (hp : plainEs es = true) (hne : es ≠ []) (h : sem ds = some d) (ha : EvAs ms X es Γ ρ ds) : EvM .sh X (.Call (.Name nm p) es [] pos) Γ ρ d := by
  obtain ⟨f, fd, ps, j, hj, hm, hk, hb, F⟩ := F.ex
  intro lv B0 H0 B H σ S Q q
  have key : tAOf X es σ H fun vs H1 => spD X.K ms sem (vs ++ []) H1 Q E0 := ha lv B0 H0 B H σ S _ fun vs B1 H1 x1 r1 => by
    rw [List.append_nil]
    exact ⟨B1, ds, d, x1.bh, r1, h, fun v B' H' x2 r2 => q v B' H' (x1.trans x2) r2⟩
  cases es with
  | nil => exact absurd rfl hne
  | cons e es =>
    simp only [plainEs, Bool.and_eq_true] at hp
    exact of_pe (pe_call F (g.room.mono hj) (g.gl _ hg) hm hk hb .nil pass0 pa_of hd (star1 hp.1) (backTo_plain _ hp.2)) key
theorem ev_call0 {nm : Str} {p : Pos} {sem : List D → Option D} (g : Good X N sc k) (F : FnAt X k nm [] sem) (hg : glS sc nm = true) (hd : (nm == ("__debug__" : Str)) = false) (h : sem [] = some d) : EvM .sh X (.Call (.Name nm p) [] [] pos) Γ ρ d := by
  obtain ⟨f, fd, ps, j, hj, hm, hk, hb, F⟩ := F.ex
  intro lv B0 H0 B H σ S Q q
  refine of_pe (pe_call0 F (g.room.mono hj) (g.gl _ hg) hm hk hb .nil pass0 hd) ?_
  show spD X.K [] sem ([] ++ []) H Q E0
  exact ⟨B, [], d, S.ext.bh, .nil, h, fun v B' H' x2 r2 => q v B' H' x2 r2⟩
end

/-! ### what is walked -/
/-- J gives l, as long as the heap holds what Bs, Hs hold -/
def Walks (K : PySem.W.Frag) (J : It) (Bs Hs : Hp) (l : List D) : Prop :=
  ∀ B H, Ext Bs Hs B H → ∀ i, (i < l.length → J.go i H ∧ ∀ x H', J.yld i H x H' → ∃ B' d, Ext B H B' H' ∧ l[i]? = some d ∧ Rep K B' x d) ∧ (l.length ≤ i → J.stop i H)
theorem walks_list {K : PySem.W.Frag} {Bs Hs : Hp} {a : Addr} {vs : List V} {l : List D} (h : SqL K Hs a vs) (r : Reps K Bs vs l) : Walks K (Itl K a) Bs Hs l := fun B H x i => by
  have h' := sqL_ex x.hh h
  refine ⟨fun hi => ?_, fun hi => ⟨vs, h', by rw [r.length]; exact hi⟩⟩
  have hi' : i < vs.length := by rw [r.length]; exact hi
  refine ⟨⟨vs, vs[i], h', List.getElem?_eq_getElem hi'⟩, ?_⟩
  rintro y H' ⟨rfl, hy⟩
  obtain ⟨d, h1, h2⟩ := r.get (hy vs h')
  exact ⟨B, d, .refl x.bh, h1, h2.mono x.bb⟩
theorem walks_tup {K : PySem.W.Frag} {Bs Hs : Hp} {a : Addr} {vs : List V} {l : List D} (h : SqT K Hs a vs) (r : Reps K Bs vs l) : Walks K (Itt K a) Bs Hs l := fun B H x i => by
  have h' := sqT_ex x.hh h
  refine ⟨fun hi => ?_, fun hi => ⟨vs, h', by rw [r.length]; exact hi⟩⟩
  have hi' : i < vs.length := by rw [r.length]; exact hi
  refine ⟨⟨vs, vs[i], h', List.getElem?_eq_getElem hi'⟩, ?_⟩
  rintro y H' ⟨rfl, hy⟩
  obtain ⟨d, h1, h2⟩ := r.get (hy vs h')
  exact ⟨B, d, .refl x.bh, h1, h2.mono x.bb⟩
theorem rng_get {lo : Int} {n i : Nat} (h : i < n) : (rngD lo n)[i]? = some (.int (lo + (i : Int))) := by
  unfold rngD
  rw [List.getElem?_map, List.getElem?_range h]; rfl
theorem rng_len {lo : Int} {n : Nat} : (rngD lo n).length = n := by unfold rngD; simp
theorem walks_rng {K : PySem.W.Frag} {Bs Hs : Hp} {lo : Int} {n : Nat} : Walks K (Itr lo n) Bs Hs (rngD lo n) := fun B H x i => by
  rw [rng_len]
  refine ⟨fun hi => ⟨hi, ?_⟩, fun hi => hi⟩
  rintro y H' ⟨rfl, rfl⟩
  exact ⟨B, _, .refl x.bh, rng_get hi, .int _⟩
/-- z: nothing but the frozen part and what the caller holds is leaned on -/
def EvI (z : Bool) (X : Cx) (tg iter : Expr) (Γ : MEnv) (ρ : DEnv) (l : List D) : Prop := l.length ≤ sizeLine ∧ ∃ wi, PI X tg iter wi ∧
  ∀ lv B0 H0 B H σ, Stt X.K Γ lv B0 H0 B H σ ρ → ∀ R : It → Hp → Prop, (∀ J B' H', Ext B H B' H' → (∀ Hs, (if z = true then Ex H0 Hs else Ex H' Hs) → Ex B' Hs → Walks X.K J B' Hs l) → R J H') → wi σ H R
/-- frozen, or the caller's -/
def EvB (z : Bool) (X : Cx) (e : Expr) (Γ : MEnv) (ρ : DEnv) (d : D) : Prop :=
  ∀ lv B0 H0 B H σ, Stt X.K Γ lv B0 H0 B H σ ρ → ∀ Q : VK, (∀ v B' H', Ext B H B' H' → Bor X.K B' (if z = true then H0 else H') v d → Q v H') → tOf X e σ H Q
section
variable {X : Cx} {N : List Str} {sc : Scope} {k : Nat} {e a b c tg : Expr} {Γ : MEnv} {ρ : DEnv} {d x y : D} {l : List D} {z : Bool} {pos apos p : Pos}
theorem EvB.of_sh (h : EvM .sh X e Γ ρ d) : EvB z X e Γ ρ d := fun lv B0 H0 B H σ S Q q => h lv B0 H0 B H σ S Q fun v B' H' x r => q v B' H' x (.inl r)
theorem EvB.of_bo (h : EvM .bo X e Γ ρ d) : EvB false X e Γ ρ d := fun lv B0 H0 B H σ S Q q => h lv B0 H0 B H σ S Q fun v B' H' x r => q v B' H' x r
theorem EvB.var {i : Nat} {x : Str} (hN : X.N[i]? = some x) (hv : Vis X.env.scope x) (hd : (x == ("__debug__" : Str)) = false) (hcd : (x == ("__classdict__" : Str)) = false) (h : ρ[i]? = some (some d)) (hm : Γ[i]? = some Md.bo) : EvB z X (.Name x pos) Γ ρ d := fun lv B0 H0 B H σ S Q q => by
  refine of_pe (pe_var hN hv hd hcd) ?_
  obtain ⟨v, t, h0, hl, hv, r⟩ := S.bo i d hm h
  have r := r.bor.mono (.refl _) (S.lvx i v t h0 hl)
  refine ⟨v, hv, q v B H (.refl S.ext.bh) ?_⟩
  cases z with
  | true => exact r
  | false => exact r.mono (.refl _) S.ext.hh
theorem ei_list {l : List D} (hl : l.length ≤ sizeLine) (h : EvB z X e Γ ρ d) (hd : d = .lst l ∨ d = .scr l) : EvI z X tg e Γ ρ l := by
  refine ⟨hl, _, pi_list pe_of, fun lv B0 H0 B H σ S R q => h lv B0 H0 B H σ S _ fun v B' H' x r => ?_⟩
  have key : ∃ a vs, v = .ref a ∧ Reps X.K B' vs l ∧ SqL X.K H' a vs ∧ ∀ Hs, (if z = true then Ex H0 Hs else Ex H' Hs) → Ex B' Hs → SqL X.K Hs a vs := by
    have e0 : Ex (if z = true then H0 else H') H' := by
      cases z with
      | true => exact S.ext.hh.trans x.hh
      | false => exact .refl _
    rcases hd with rfl | rfl
    · rcases r with r | ⟨p, rfl, r⟩
      · cases r with | lst h r => exact ⟨_, _, rfl, r, SqL.of (x.bh _ _ h), fun Hs _ e2 => SqL.of (e2 _ _ h)⟩
      · rcases r with ⟨vs, ds, q, hp, r⟩ | ⟨_, _, _, q, _⟩
        · cases q
          refine ⟨p, vs, rfl, r, SqL.of (e0 _ _ hp), fun Hs e1 _ => ?_⟩
          cases z with
          | true => exact SqL.of (e1 _ _ hp)
          | false => exact SqL.of (e1 _ _ hp)
        · cases q
    · obtain ⟨a, vs, rfl, ha, r⟩ := bor_scr r
      exact ⟨a, vs, rfl, r, sqL_ex x.bh ha, fun Hs _ e2 => sqL_ex e2 ha⟩
  obtain ⟨a, vs, rfl, r1, r2, r3⟩ := key
  exact ⟨a, rfl, ⟨vs, r2⟩, q _ B' H' x fun Hs e1 e2 => walks_list (r3 Hs e1 e2) r1⟩
theorem ei_tup {l : List D} (hl : l.length ≤ sizeLine) (h : EvM .bo X e Γ ρ (.tup l)) : EvI z X tg e Γ ρ l := by
  refine ⟨hl, _, pi_tup pe_of, fun lv B0 H0 B H σ S R q => h lv B0 H0 B H σ S _ fun v B' H' x r => ?_⟩
  obtain ⟨a, vs, rfl, ha, r⟩ := bor_tup r
  exact ⟨a, rfl, ⟨vs, sqT_ex x.bh ha⟩, q _ B' H' x fun Hs e1 e2 => walks_tup (sqT_ex e2 ha) r⟩
theorem lim62 {j : Int} (h : j ≤ lim) : j < 2 ^ 62 := by
  have : (lim : Int) < 2 ^ 62 := by decide
  omega
theorem ei_rng1 (g : Good X N sc k) (hm : X.mg "range" = none) (hg : glS sc "range" = true) (hp : plainE a = true) {j : Int} (hj : j ≤ lim) (hj0 : -(2 ^ 62) ≤ j) (h : EvM .bo X a Γ ρ (.int j)) : EvI z X tg (.Call (.Name "range" p) [a] [] pos) Γ ρ (rngD 0 j.toNat) := by
  refine ⟨by rw [rng_len]; have : (lim : Int) = (lim : Nat) := rfl; exact Nat.le_trans (by omega : j.toNat ≤ lim) (by decide), _, pi_range1 (g.gl _ hg) hm pa_of (star1 hp), fun lv B0 H0 B H σ S R q => ?_⟩
  refine ea_cons hp (by decide) h ea_nil lv B0 H0 B H σ S _ fun vs B' H' x r => ?_
  cases r with
  | cons r1 r2 =>
    cases r2
    cases bor_int r1
    exact ⟨j, rfl, hj0, lim62 hj, q _ B' H' x fun Hs _ _ => walks_rng⟩
theorem ei_rng2 (g : Good X N sc k) (hm : X.mg "range" = none) (hg : glS sc "range" = true) (hp : plainE a = true) (hp2 : plainE b = true) {i j : Int} (hi : 0 ≤ i) (hj : j ≤ lim) (hj0 : -(2 ^ 62) ≤ j) (hi2 : i < 2 ^ 62) (h : EvM .bo X a Γ ρ (.int i)) (h2 : EvM .bo X b Γ ρ (.int j)) : EvI z X tg (.Call (.Name "range" p) [a, b] [] pos) Γ ρ (rngD i (j - i).toNat) := by
  refine ⟨by rw [rng_len]; exact Nat.le_trans (by omega : (j - i).toNat ≤ lim) (by decide), _, pi_range2 (g.gl _ hg) hm pa_of (by rw [star1 hp, star1 hp2]; rfl) (by rw [star1 hp2]; rfl), fun lv B0 H0 B H σ S R q => ?_⟩
  refine ea_cons hp (by decide) h (ea_cons hp2 (by decide) h2 ea_nil) lv B0 H0 B H σ S _ fun vs B' H' x r => ?_
  cases r with
  | cons r1 r2 =>
    cases r2 with
    | cons r2 r3 =>
      cases r3
      cases bor_int r1
      cases bor_int r2
      exact ⟨i, j, rfl, ⟨by omega, hi2, hj0, lim62 hj⟩, q _ B' H' x fun Hs _ _ => walks_rng⟩
end
end DL

set_option Elab.async false
set_option linter.all false
set_option maxRecDepth 100000
set_option maxHeartbeats 4000000
namespace DL
open PySem PySem.Spec L2

/-! ### the context of a comprehension -/
def rl (env : Env) (x : Str) (k : NameKind) : NameKind := if (k == NameKind.free && env.scope.kind == .function && env.kindOf x == some .cell) = true then .cell else k
theorem lookup_relabel {env : Env} : ∀ {names : List (Str × NameKind)} {x : Str},
    (names.map fun (n, k) => if (k == NameKind.free && env.scope.kind == .function && env.kindOf n == some .cell) = true then (n, NameKind.cell) else (n, k)).lookup x = (names.lookup x).map (rl env x)
  | [], _ => rfl
  | (n, k) :: r, x => by
    have ih := @lookup_relabel env r x
    rw [List.map_cons]
    by_cases hx : x = n
    · subst hx
      rw [List.lookup_cons_self]
      show List.lookup x ((if (k == NameKind.free && env.scope.kind == .function && env.kindOf x == some .cell) = true then (x, NameKind.cell) else (x, k)) :: _) = some (rl env x k)
      unfold rl
      split <;> rw [List.lookup_cons_self]
    · have hb : (x == n) = false := beq_eq_false_iff_ne.mpr hx
      have e1 : List.lookup x ((n, k) :: r) = List.lookup x r := by rw [List.lookup_cons, hb]
      rw [e1, ← ih]
      show List.lookup x ((if (k == NameKind.free && env.scope.kind == .function && env.kindOf n == some .cell) = true then (n, NameKind.cell) else (n, k)) :: _) = _
      split <;> rw [List.lookup_cons, hb]
theorem relabel_at {scope : Scope} {env : Env} {x : Str} : (relabel scope env).names.lookup x = (scope.names.lookup x).map (rl env x) := lookup_relabel
theorem Good.blkOk {X : Cx} {N : List Str} {sc scope : Scope} {k : Nat} {own : List (Str × Nat)} (g : Good X N sc k) (hb : blkC N sc scope own = true) : BlkOk X.N X.env.scope scope own := by
  have o := blkOk_by hb
  refine ⟨o.kind, o.uniq, by rw [g.hN]; exact o.ix, fun y hy e => ?_, by rw [g.hN]; exact o.own⟩
  apply g.cf
  unfold cfS
  rcases o.free y hy e with h | h <;> rw [h]
theorem Good.blk {X : Cx} {N : List Str} {sc scope : Scope} {k : Nat} {own : List (Str × Nat)} (g : Good X N sc k) (hb : blkC N sc scope own = true) (s : Shared) (H : Hp) (C : Addr) (cl : List (Str × Addr)) (fp : List Addr) :
    Good (X.blk s H scope (compEnvC scope cl C X.env) fp) N scope k where
  hN := g.hN
  nd := g.nd
  calm := g.calm
  room := g.room
  kind := (blkOk_by hb).kind
  vis := fun x h => by
    show _ ∨ _ ∨ _
    show (relabel scope X.env).names.lookup x = _ ∨ (relabel scope X.env).names.lookup x = _ ∨ (relabel scope X.env).names.lookup x = _
    rw [relabel_at]
    unfold visS at h
    split at h <;> rename_i e <;> first | (rw [e]; simp only [Option.map_some, rl]; split <;> simp) | cases h
  gl := fun x h => by
    show (relabel scope X.env).names.lookup x = _
    rw [relabel_at]
    unfold glS at h
    split at h <;> rename_i e <;> first | (rw [e]; rfl) | cases h
  st := fun x h => by
    have : ((relabel scope X.env).names.lookup x = some .local ∨ (relabel scope X.env).names.lookup x = some .cell) ∧ ((scope.names.lookup x == some .cell) = true ∨ (relabel scope X.env).names.lookup x = some .local) := by
      rw [relabel_at]
      unfold stS at h
      split at h <;> rename_i e <;> first | (rw [e]; constructor <;> simp [rl]) | cases h
    exact this
  lo := fun x h => by
    show (relabel scope X.env).names.lookup x = _
    rw [relabel_at]
    unfold loS at h
    split at h <;> rename_i e <;> first | (rw [e]; rfl) | cases h
  ce := fun x h => by
    show (relabel scope X.env).names.lookup x = _
    rw [relabel_at]
    unfold ceS at h
    split at h <;> rename_i e <;> first | (rw [e]; rfl) | cases h
  cf := fun x h => by
    show (relabel scope X.env).names.lookup x = _ ∨ (relabel scope X.env).names.lookup x = _
    rw [relabel_at]
    unfold cfS at h
    split at h <;> rename_i e <;> first | (rw [e]; simp only [Option.map_some, rl]; split <;> simp) | cases h

/-! ### targets -/
def lenT : T → Nat
  | .cn _ t => lenT t + 1
  | _ => 0
mutual
def gOf (K : PySem.W.Frag) : T → TG
  | .nm i => gName i
  | .tp l => gTup K (lenT l) (gsOf K l)
  | _ => fun _ _ _ _ => False
def gsOf (K : PySem.W.Frag) : T → TGs
  | .nl => gNil
  | .cn h t => gCons (gOf K h) (gsOf K t)
  | _ => fun _ _ _ _ => False
end
def slT : T → List Nat
  | .nm i => [i]
  | .tp l => slT l
  | .nl => []
  | .cn h t => slT h ++ slT t
/-- the slots stored to hold what is shared -/
def shT (Γ : MEnv) : T → Bool
  | .nm i => decide (Γ[i]? = some Md.sh)
  | .tp l => shT Γ l
  | .nl => true
  | .cn h t => shT Γ h && shT Γ t
theorem Stt.setSh {K : PySem.W.Frag} {Γ : MEnv} {lv : Nat → Option (V × Bool × Hp)} {B0 H0 B H : Hp} {σ : L2.St} {ρ : DEnv} {i : Nat} {v : V} {d : D} (S : Stt K Γ lv B0 H0 B H σ ρ) (hm : Γ[i]? = some Md.sh) (r : Rep K B v d) : Stt K Γ lv B0 H0 B H (σ.set i (some v)) (ρ.set i (some d)) where
  ext := S.ext
  lvx := S.lvx
  len := by rw [List.length_set, List.length_set]; exact S.len
  mlen := by rw [List.length_set]; exact S.mlen
  sh := fun j e h1 h2 => by
    by_cases q : i = j
    · subst q
      have hi : i < ρ.length := by rw [← S.mlen]; exact (List.getElem?_eq_some_iff.mp hm).1
      rw [List.getElem?_set_self hi] at h2
      cases h2
      exact ⟨v, List.getElem?_set_self (by rw [S.len]; exact hi), r⟩
    · rw [List.getElem?_set_ne q] at h2 ⊢; exact S.sh j e h1 h2
  ow := fun j e h1 h2 => by
    have q : i ≠ j := fun q => by subst q; rw [hm] at h1; cases h1
    rw [List.getElem?_set_ne q] at h2 ⊢; exact S.ow j e h1 h2
  bo := fun j e h1 h2 => by
    have q : i ≠ j := fun q => by subst q; rw [hm] at h1; cases h1
    rw [List.getElem?_set_ne q] at h2 ⊢; exact S.bo j e h1 h2
  apart := fun a b p d e hab h1 h2 h3 h4 h5 => by
    have q1 : i ≠ a := fun q => by subst q; rw [hm] at h1; cases h1
    have q2 : i ≠ b := fun q => by subst q; rw [hm] at h2; cases h2
    rw [List.getElem?_set_ne q1] at h3 h5
    rw [List.getElem?_set_ne q2] at h4 ⊢
    exact S.apart a b p d e hab h1 h2 h3 h4 h5
mutual
theorem asg_ok {K : PySem.W.Frag} {Γ : MEnv} {lv : Nat → Option (V × Bool × Hp)} {B0 H0 B H : Hp} : ∀ {t : T} {d : D} {ρ ρ' : DEnv} {σ : L2.St} {v : V} {Q : L2.St → Hp → Prop}, shT Γ t = true → asgT t d ρ = some ρ' → Stt K Γ lv B0 H0 B H σ ρ → Rep K B v d →
    (∀ σ', Stt K Γ lv B0 H0 B H σ' ρ' → (∀ i, i ∉ slT t → σ'[i]? = σ[i]?) → σ'.length = σ.length → Q σ' H) → gOf K t v σ H Q
  | .nm i, d, ρ, ρ', σ, v, Q, hs, h, S, r, q => by
    simp only [asgT, Option.some.injEq] at h
    subst h
    exact q _ (S.setSh (of_decide_eq_true hs) r) (fun j hj => List.getElem?_set_ne (by simpa [slT, eq_comm] using hj)) (List.length_set ..)
  | .tp l, d, ρ, ρ', σ, v, Q, hs, h, S, r, q => by
    cases d with
    | tup ds =>
      cases r with
      | tup ha r =>
        refine ⟨_, _, rfl, sqT_ex S.ext.bh ha, ?_, asgs_ok hs h S r q⟩
        exact asgs_len h r
    | _ => simp [asgT] at h
  | .nl, _, _, _, _, _, _, _, h, _, _, _ => by simp [asgT] at h
  | .cn _ _, _, _, _, _, _, _, _, h, _, _, _ => by simp [asgT] at h
theorem asgs_ok {K : PySem.W.Frag} {Γ : MEnv} {lv : Nat → Option (V × Bool × Hp)} {B0 H0 B H : Hp} : ∀ {t : T} {ds : List D} {ρ ρ' : DEnv} {σ : L2.St} {vs : List V} {Q : L2.St → Hp → Prop}, shT Γ t = true → asgTs t ds ρ = some ρ' → Stt K Γ lv B0 H0 B H σ ρ → Reps K B vs ds →
    (∀ σ', Stt K Γ lv B0 H0 B H σ' ρ' → (∀ i, i ∉ slT t → σ'[i]? = σ[i]?) → σ'.length = σ.length → Q σ' H) → gsOf K t vs σ H Q
  | .nl, ds, ρ, ρ', σ, vs, Q, hs, h, S, r, q => by
    cases ds with
    | nil => simp only [asgTs, Option.some.injEq] at h; subst h; cases r; exact ⟨rfl, q σ S (fun _ _ => rfl) rfl⟩
    | cons _ _ => simp [asgTs] at h
  | .cn hd t, ds, ρ, ρ', σ, vs, Q, hs, h, S, r, q => by
    cases ds with
    | nil => simp [asgTs] at h
    | cons d ds =>
      simp only [asgTs] at h
      obtain ⟨ρ1, h1, h2⟩ := Option.bind_eq_some_iff.mp h
      simp only [shT, Bool.and_eq_true] at hs
      cases r with
      | cons r1 r2 =>
        refine ⟨_, _, rfl, asg_ok hs.1 h1 S r1 fun σ1 S1 k1 l1 => asgs_ok hs.2 h2 S1 r2 fun σ2 S2 k2 l2 => q σ2 S2 (fun i hi => ?_) (l2.trans l1)⟩
        simp only [slT, List.mem_append, not_or] at hi
        rw [k2 i hi.2, k1 i hi.1]
  | .nm _, _, _, _, _, _, _, _, h, _, _, _ => by simp [asgTs] at h
  | .tp _, _, _, _, _, _, _, _, h, _, _, _ => by simp [asgTs] at h
theorem asgs_len {K : PySem.W.Frag} {B : Hp} : ∀ {t : T} {ds : List D} {ρ ρ' : DEnv} {vs : List V}, asgTs t ds ρ = some ρ' → Reps K B vs ds → vs.length = lenT t
  | .nl, ds, _, _, _, h, r => by
    cases ds with
    | nil => cases r; rfl
    | cons _ _ => simp [asgTs] at h
  | .cn hd t, ds, _, _, _, h, r => by
    cases ds with
    | nil => simp [asgTs] at h
    | cons d ds =>
      simp only [asgTs] at h
      obtain ⟨ρ1, h1, h2⟩ := Option.bind_eq_some_iff.mp h
      cases r with
      | cons r1 r2 => rw [List.length_cons, asgs_len h2 r2]; rfl
  | .nm _, _, _, _, _, h, _ => by simp [asgTs] at h
  | .tp _, _, _, _, _, h, _ => by simp [asgTs] at h
end
/-! ### a list comprehension -/
def wipeOk (Γ : MEnv) (vs : List Nat) : Bool := vs.all fun i => decide (Γ[i]? = some Md.sh)
theorem wipeD_len (ρ : DEnv) : ∀ vs : List Nat, (wipeD ρ vs).length = ρ.length
  | [] => rfl
  | v :: vs => by unfold wipeD; rw [List.length_set, wipeD_len ρ vs]
theorem wipeD_some {ρ : DEnv} {i : Nat} {d : D} : ∀ {vs : List Nat}, (wipeD ρ vs)[i]? = some (some d) → ρ[i]? = some (some d) ∧ i ∉ vs
  | [], h => ⟨h, by simp⟩
  | v :: vs, h => by
    unfold wipeD at h
    by_cases hi : v = i
    · subst hi
      by_cases hv : v < (wipeD ρ vs).length
      · rw [List.getElem?_set_self hv] at h; cases h
      · rw [List.getElem?_eq_none (by simpa using hv)] at h; cases h
    · rw [List.getElem?_set_ne hi] at h
      obtain ⟨h1, h2⟩ := wipeD_some h
      exact ⟨h1, by simp only [List.mem_cons, not_or]; exact ⟨fun e => hi e.symm, h2⟩⟩
theorem Stt.wiped {K : PySem.W.Frag} {Γ : MEnv} {lv : Nat → Option (V × Bool × Hp)} {B0 H0 B H : Hp} {σ : L2.St} {ρ : DEnv} {vs : List Nat} (S : Stt K Γ lv B0 H0 B H σ ρ) : Stt K Γ lv B0 H0 B H (wipe σ vs) (wipeD ρ vs) where
  ext := S.ext
  lvx := S.lvx
  len := by rw [wipe_length, wipeD_len]; exact S.len
  mlen := by rw [wipeD_len]; exact S.mlen
  sh := fun i d h1 h2 => by
    obtain ⟨h2, n⟩ := wipeD_some h2
    rw [wipe_out n]; exact S.sh i d h1 h2
  ow := fun i d h1 h2 => by
    obtain ⟨h2, n⟩ := wipeD_some h2
    rw [wipe_out n]; exact S.ow i d h1 h2
  bo := fun i d h1 h2 => by
    obtain ⟨h2, n⟩ := wipeD_some h2
    rw [wipe_out n]; exact S.bo i d h1 h2
  apart := fun i j p d e hab h1 h2 h3 h4 h5 => by
    obtain ⟨h3, n3⟩ := wipeD_some h3
    obtain ⟨h4, n4⟩ := wipeD_some h4
    rw [wipe_out n3] at h5
    rw [wipe_out n4]
    exact S.apart i j p d e hab h1 h2 h3 h4 h5
theorem wipe_in {σ : L2.St} {i : Nat} : ∀ {vs : List Nat}, i ∈ vs → (wipe σ vs)[i]? = if i < σ.length then some none else none
  | [], h => by cases h
  | v :: vs, h => by
    unfold wipe
    by_cases hv : v = i
    · subst hv
      by_cases hl : v < σ.length
      · rw [if_pos hl, List.getElem?_set_self (by rw [wipe_length]; exact hl)]
      · rw [if_neg hl, List.getElem?_eq_none (by rw [List.length_set, wipe_length]; omega)]
    · rw [List.getElem?_set_ne hv]
      exact wipe_in (by simpa [Ne.symm hv, eq_comm, hv] using h)
theorem wipe_eq {σ σ' : L2.St} {vs : List Nat} (h : ∀ i, i ∉ vs → σ'[i]? = σ[i]?) (hl : σ'.length = σ.length) : wipe σ' vs = wipe σ vs := by
  apply List.ext_getElem?
  intro i
  by_cases hi : i ∈ vs
  · rw [wipe_in hi, wipe_in hi, hl]
  · rw [wipe_out hi, wipe_out hi, h i hi]
theorem wipe_wipe {σ : L2.St} {vs : List Nat} : wipe (wipe σ vs) vs = wipe σ vs := wipe_eq (fun i hi => wipe_out hi) (wipe_length σ vs)
def EvTs (X : Cx) (ifs : List Expr) (Γ : MEnv) (ρ : DEnv) (b : Bool) : Prop := match ifs with
  | [] => b = true
  | [c] => EvT X c Γ ρ b
  | _ => False
/-- the readings that hold in every block of the comprehension -/
def tBlk (X : Cx) (scope : Scope) (e : Expr) : TE := fun σ H Q => ∀ (s : Shared) (H0 : Hp) (C : Addr) (cl : List (Str × Addr)) (fp : List Addr), tOf (X.blk s H0 scope (compEnvC scope cl C X.env) fp) e σ H Q
def tTBlk (X : Cx) (scope : Scope) : List Expr → TT
  | [] => tYes
  | [c] => fun σ H Q => ∀ (s : Shared) (H0 : Hp) (C : Addr) (cl : List (Str × Addr)) (fp : List Addr), tTOf (X.blk s H0 scope (compEnvC scope cl C X.env) fp) c σ H Q
  | _ => fun _ _ _ => False
section
variable {X : Cx} {N : List Str} {sc scope : Scope} {k : Nat} {own : List (Str × Nat)} {elt tg iter : Expr} {ifs : List Expr} {Γ : MEnv} {ρ : DEnv} {t : T} {l r : List D} {pos : Pos} {f : D → Option (Option D)}
theorem lcG_cons {f : D → Option (Option D)} {x : D} {xs r : List D} (h : lcG f (x :: xs) = some r) : ∃ o rest, f x = some o ∧ lcG f xs = some rest ∧ r = (match o with | none => rest | some y => y :: rest) := by
  simp only [lcG] at h
  obtain ⟨o, h1, h2⟩ := Option.bind_eq_some_iff.mp h
  obtain ⟨rest, h3, h4⟩ := Option.map_eq_some_iff.mp h2
  exact ⟨o, rest, h1, h3, by rw [← h4]; cases o <;> rfl⟩
theorem pts_blk {s : Shared} {H : Hp} {C : Addr} {cl : List (Str × Addr)} {fp : List Addr} {b : Bool} (hE : ∃ Γ ρ, EvTs (X.blk s H scope (compEnvC scope cl C X.env) fp) ifs Γ ρ b) : PTs (X.blk s H scope (compEnvC scope cl C X.env) fp) ifs (tTBlk X scope ifs) := by
  obtain ⟨Γ, ρ, h⟩ := hE
  match ifs, h with
  | [], _ => exact pts_nil
  | [c], _ => exact pts_one ⟨fun pins s' σ H' Q I h => h s H C cl fp pins s' I⟩
  | _ :: _ :: _, h => exact h.elim
theorem lc_read {wi : TI} (hl : l.length ≤ sizeLine) (hif : ifs.length ≤ 1)
    (hwi : ∀ lv B0 H0 B H σ, Stt X.K Γ lv B0 H0 B H σ ρ → ∀ R : It → Hp → Prop, (∀ J B' H', Ext B H B' H' → (∀ Hs, (if false = true then Ex H0 Hs else Ex H' Hs) → Ex B' Hs → Walks X.K J B' Hs l) → R J H') → wi σ H R)
    (hs : shT Γ t = true) (hin : ∀ i ∈ slT t, i ∈ own.map (·.2))
    (hf : ∀ x ∈ l, ∀ o, f x = some o → ∃ ρ' j, asgT t x (wipeD ρ (own.map (·.2))) = some ρ' ∧ (ifs = [] → j = true) ∧ (∀ (s : Shared) (H : Hp) (C : Addr) (cl : List (Str × Addr)) (fp : List Addr), EvTs (X.blk s H scope (compEnvC scope cl C X.env) fp) ifs Γ ρ' j) ∧
      (j = false → o = none) ∧ (j = true → ∃ y, o = some y ∧ ∀ (s : Shared) (H : Hp) (C : Addr) (cl : List (Str × Addr)) (fp : List Addr), EvM .sh (X.blk s H scope (compEnvC scope cl C X.env) fp) elt Γ ρ' y))
    (hr : lcG f l = some r) : ∀ lv B0 H0 B H σ, Stt X.K Γ lv B0 H0 B H σ ρ → ∀ Q : VK, (∀ v B' H', Ext B H B' H' → RM X.K .ow H B' H' v (.lst r) → Q v H') → tLc wi (gOf X.K t) (tTBlk X scope ifs) (tBlk X scope elt) (own.map (·.2)) σ H Q := by
  intro lv B0 H0 B H σ S Q q
  show wi σ H fun J H1 => _
  refine hwi lv B0 H0 B H σ S _ fun J B1 H1 x1 hw => ?_
  have W1 := hw H1 (.refl _) x1.bh
  intro Dl hD
  refine ⟨fun i m H' => m = l.length - i ∧ i ≤ l.length ∧ ∃ B' acc rs rest, Ext B1 H1 B' H' ∧ B' Dl = none ∧ H' Dl = some (.lst acc) ∧ Reps X.K B' acc rs ∧ lcG f (l.drop i) = some rest ∧ rs ++ rest = r ∧ acc.length ≤ i,
    ⟨l.length, by omega, by omega, B1, [], [], r, .own x1.bh hD, x1.bh.back hD, upd_same, .nil, by rw [List.drop_zero]; exact hr, rfl, Nat.le_refl _⟩, ?_⟩
  rintro i m H' ⟨rfl, hil, B', acc, rs, rest, x2, b2, h2, r2, hrest, hrs, hacc⟩
  obtain ⟨w1, w2⟩ := W1 B' H' x2 i
  by_cases hlt : i < l.length
  · right
    obtain ⟨w3, w4⟩ := w1 hlt
    refine ⟨w3, _, fun H'' hN => ⟨l.length - (i + 1), by omega, hN⟩, fun x H2 hy => ?_⟩
    obtain ⟨B2, d, x3, hd, rd⟩ := w4 x H2 hy
    have hdrop : l.drop i = d :: l.drop (i + 1) := by
      rw [List.drop_eq_getElem_cons hlt]
      rw [List.getElem?_eq_getElem hlt] at hd
      cases hd; rfl
    rw [hdrop] at hrest
    obtain ⟨o, rest', ho, hrest', e⟩ := lcG_cons hrest
    obtain ⟨ρ', j, ha, hn, ht, h0, h1⟩ := hf d (List.mem_of_getElem? hd) o ho
    have S2 : Stt X.K Γ lv B0 H0 B2 H2 (wipe σ (own.map (·.2))) (wipeD ρ (own.map (·.2))) := (S.grow ((x1.trans x2).trans x3)).wiped
    have hH2 : H2 Dl = some (.lst acc) := x3.hh _ _ h2
    have hB2 : B2 Dl = none := x3.sep Dl (by rw [h2]; simp) b2
    refine asg_ok hs ha S2 rd fun σ' S' k' l' => ⟨?_, ?_⟩
    · rw [wipe_eq (σ := wipe σ (own.map (·.2))) (fun z hz => k' z fun hz' => hz (hin z hz')) l', wipe_wipe]
    · have fin : ∀ B3 H3, Ext B2 H2 B3 H3 → (if j = true then tBlk X scope elt σ' H3 fun y H4 => ∃ acc, H4 Dl = some (.lst acc) ∧ acc.length < sizeLine ∧ (fun H' => l.length - (i + 1) = l.length - (i + 1) ∧ i + 1 ≤ l.length ∧ ∃ B' acc rs rest, Ext B1 H1 B' H' ∧ B' Dl = none ∧ H' Dl = some (.lst acc) ∧ Reps X.K B' acc rs ∧ lcG f (l.drop (i + 1)) = some rest ∧ rs ++ rest = r ∧ acc.length ≤ i + 1) (upd H4 Dl (.lst (acc ++ [y]))) else (fun H' => l.length - (i + 1) = l.length - (i + 1) ∧ i + 1 ≤ l.length ∧ ∃ B' acc rs rest, Ext B1 H1 B' H' ∧ B' Dl = none ∧ H' Dl = some (.lst acc) ∧ Reps X.K B' acc rs ∧ lcG f (l.drop (i + 1)) = some rest ∧ rs ++ rest = r ∧ acc.length ≤ i + 1) H3) := fun B3 H3 x4 => by
        have hH3 : H3 Dl = some (.lst acc) := x4.hh _ _ hH2
        have hB3 : B3 Dl = none := x4.sep Dl (by rw [hH2]; simp) hB2
        cases j with
        | false =>
          refine iteF ⟨rfl, by omega, B3, acc, rs, rest', (x2.trans x3).trans x4, hB3, hH3, (r2.mono x3.bb).mono x4.bb, hrest', ?_, by omega⟩
          rw [h0 rfl] at e
          rw [← hrs, e]
        | true =>
          obtain ⟨y, rfl, hy⟩ := h1 rfl
          refine iteT fun s0 Hh0 C cl fp => hy s0 Hh0 C cl fp lv B0 H0 B3 H3 σ' (S'.grow x4) _ fun v B4 H4 x5 r5 => ?_
          have hH4 : H4 Dl = some (.lst acc) := x5.hh _ _ hH3
          have hB4 : B4 Dl = none := x5.sep Dl (by rw [hH3]; simp) hB3
          have xx := (x2.trans x3).trans (x4.trans x5)
          refine ⟨acc, hH4, by omega, rfl, by omega, B4, acc ++ [v], rs ++ [y], rest', ⟨fun a u ha => ?_, xx.bb, fun a u ha => ?_, xx.sep⟩, hB4, upd_same, (((r2.mono x3.bb).mono x4.bb).mono x5.bb).append (.cons r5 .nil), hrest', ?_, by rw [List.length_append]; simp; omega⟩
          · rw [upd_ne (ne_of_none ha hD)]; exact xx.hh a u ha
          · rw [upd_ne (ne_of_none ha hB4)]; exact xx.bh a u ha
          · rw [← hrs, e, List.append_assoc]; rfl
      match ifs, ht, hif, hn with
      | [], ht, _, hn =>
        have : j = true := hn rfl
        subst this
        exact fin B2 H2 (.refl x3.bh)
      | [c], ht, _, _ => exact fun s0 Hh0 C cl fp => ht s0 Hh0 C cl fp lv B0 H0 B2 H2 σ' S' _ fun B3 H3 x4 => fin B3 H3 x4
  · left
    have hi' : i = l.length := by omega
    subst hi'
    refine ⟨w2 (Nat.le_refl _), ?_⟩
    rw [List.drop_length] at hrest
    cases hrest
    rw [List.append_nil] at hrs
    subst hrs
    exact q _ B' H' (x1.trans x2) ⟨Dl, rfl, x1.hh.back hD, b2, .inl ⟨acc, rs, rfl, h2, r2⟩⟩
theorem pts_of (hif : ifs.length ≤ 1) : ∀ (s : Shared) (H : Hp) (C : Addr) (cl : List (Str × Addr)) (fp : List Addr), PTs (X.blk s H scope (compEnvC scope cl C X.env) fp) ifs (tTBlk X scope ifs) := fun s H C cl fp => by
  match ifs, hif with
  | [], _ => exact pts_nil
  | [c], _ => exact pts_one ⟨fun pins s' σ H' Q I h => h s H C cl fp pins s' I⟩
theorem pe_blk : ∀ (s : Shared) (H : Hp) (C : Addr) (cl : List (Str × Addr)) (fp : List Addr), PE (X.blk s H scope (compEnvC scope cl C X.env) fp) elt (tBlk X scope elt) := fun s H C cl fp => ⟨fun pins s' σ H' Q I h => h s H C cl fp pins s' I⟩
theorem ev_lc (g : Good X N sc k) (hb : blkC N sc scope own = true) (hpl : plainE iter = true) (hif : ifs.length ≤ 1) (hi : EvI false X tg iter Γ ρ l)
    (hg : ∀ (s : Shared) (H : Hp) (C : Addr) (cl : List (Str × Addr)) (fp : List Addr), PG (X.blk s H scope (compEnvC scope cl C X.env) fp) tg (gOf X.K t)) (hs : shT Γ t = true) (hin : ∀ i ∈ slT t, i ∈ own.map (·.2))
    (hf : ∀ x ∈ l, ∀ o, f x = some o → ∃ ρ' j, asgT t x (wipeD ρ (own.map (·.2))) = some ρ' ∧ (ifs = [] → j = true) ∧ (∀ (s : Shared) (H : Hp) (C : Addr) (cl : List (Str × Addr)) (fp : List Addr), EvTs (X.blk s H scope (compEnvC scope cl C X.env) fp) ifs Γ ρ' j) ∧
      (j = false → o = none) ∧ (j = true → ∃ y, o = some y ∧ ∀ (s : Shared) (H : Hp) (C : Addr) (cl : List (Str × Addr)) (fp : List Addr), EvM .sh (X.blk s H scope (compEnvC scope cl C X.env) fp) elt Γ ρ' y))
    (hr : lcG f l = some r) : EvM .ow X (.ListComp elt [⟨tg, iter, ifs, 0⟩] scope pos) Γ ρ (.lst r) := by
  obtain ⟨hl, wi, hpi, hwi⟩ := hi
  intro lv B0 H0 B H σ S Q q
  exact of_pe (pe_lc g.calm (by rw [g.hN]; exact g.nd) hpi (g.blkOk hb) hg (pts_of hif) pe_blk (plainFold hpl)) (lc_read hl hif hwi hs hin hf hr lv B0 H0 B H σ S Q q)
end
end DL

set_option Elab.async false
set_option linter.all false
set_option maxRecDepth 100000
set_option maxHeartbeats 4000000
namespace DL
open PySem PySem.Spec L2

theorem joinL_mem {S : List Nat} {c : Nat} : ∀ {ps : List (List Nat)}, c ∈ TL.joinL S ps → c ∈ S ∨ ∃ p ∈ ps, c ∈ p
  | [], h => by simp [TL.joinL] at h
  | [p], h => .inr ⟨p, by simp, h⟩
  | p :: q :: r, h => by
    simp only [TL.joinL, List.mem_append] at h
    rcases h with h | h | h
    · exact .inr ⟨p, by simp, h⟩
    · exact .inl h
    · rcases joinL_mem h with h | ⟨p', hp, h⟩
      · exact .inl h
      · exact .inr ⟨p', by simp only [List.mem_cons] at hp ⊢; exact .inr hp, h⟩
theorem joinL_len {S : List Nat} : ∀ {ps : List (List Nat)}, (TL.joinL S ps).length ≤ (ps.map List.length).sum + ps.length * S.length
  | [] => by simp [TL.joinL]
  | [p] => by simp [TL.joinL]
  | p :: q :: r => by
    have ih := joinL_len (S := S) (ps := q :: r)
    simp only [TL.joinL, List.length_append, List.map_cons, List.sum_cons, List.length_cons] at ih ⊢
    rw [Nat.add_mul, Nat.one_mul]
    omega
theorem okS_join {s : Str} {xs : List Str} (hs : okS s) (hx : ∀ x ∈ xs, okS x) (h : (xs.map (·.length)).sum + xs.length * s.length ≤ lim) : okS (Txt.join s xs) := by
  rw [TL.join_eq, okS_iff]
  have e : (Str.join s xs).cps.toList = TL.joinL (TL.tl s) (xs.map TL.tl) := TL.tl_join s xs
  rw [e]
  refine ⟨fun c hc => ?_, ?_⟩
  · rcases joinL_mem hc with h | ⟨p, hp, h⟩
    · exact (okS_iff.mp hs).1 c h
    · obtain ⟨x, hx', rfl⟩ := List.mem_map.mp hp
      exact (okS_iff.mp (hx x hx')).1 c h
  · refine Nat.le_trans joinL_len (Nat.le_trans ?_ (lim_le h))
    rw [List.map_map, List.length_map]
    have e1 : (List.map (List.length ∘ TL.tl) xs) = xs.map (·.length) := by
      apply List.map_congr_left; intro x _; exact str_len x
    rw [e1, str_len]
    exact Nat.le_refl _
theorem reps_strs {K : PySem.W.Frag} {B : Hp} : ∀ {vs : List V} {l : List D} {xs : List Str}, Reps K B vs l → strsD l = some xs → vs = xs.map V.str ∧ ∀ x ∈ xs, okS x
  | _, _, _, .nil, h => by simp [strsD] at h; subst h; simp
  | _, _, _, .cons (d := d) r t, h => by
    cases r with
    | str x ox =>
      simp only [strsD] at h
      obtain ⟨ys, h1, rfl⟩ := Option.map_eq_some_iff.mp h
      obtain ⟨e, o⟩ := reps_strs t h1
      subst e
      refine ⟨rfl, fun z hz => ?_⟩
      rcases List.mem_cons.mp hz with rfl | hz
      · exact ox
      · exact o z hz
    | _ => simp [strsD] at h

/-! ### built-ins -/
def CbSem (K : PySem.W.Frag) (r : List V → Hp → VK → Prop) (m : Md) (x d : D) : Prop := ∀ B H v, Ex B H → Bor K B H v x → ∀ Q : VK, (∀ u B' H', Ext B H B' H' → RM K m H B' H' u d → Q u H') → r [v] H Q
section
variable {X : Cx} {N : List Str} {sc : Scope} {k : Nat} {e a b c : Expr} {es : List Expr} {Γ : MEnv} {ρ : DEnv} {d x y z : D} {ds : List D} {m : Md} {pos apos p cpos : Pos} {nm : Str}
theorem ev_cb {r : List V → Hp → VK → Prop} (pe : PE X e (tCB r (tAOf X [a]))) (sem : CbSem X.K r m x d) (hp : plainE a = true) (ha : EvM .bo X a Γ ρ x) : EvM m X e Γ ρ d := fun lv B0 H0 B H σ S Q q => by
  refine of_pe pe ?_
  refine ea_cons hp (by decide) ha ea_nil lv B0 H0 B H σ S _ fun vs B1 H1 x1 r1 => ?_
  cases r1 with
  | cons r1 r2 =>
    cases r2
    exact sem B1 H1 _ x1.bh r1 Q fun u B' H' x2 r => q u B' H' (x1.trans x2) (r.back x1.hh)
theorem len_sem (h : op1D .len x = some d) : CbSem X.K (fun xs H Q => ∃ x n, xs = [x] ∧ LenV X.K x H n ∧ Q (.int n) H) .sh x d := fun B H v e hv Q q => by
  cases x <;> simp [op1D] at h <;> subst h
  · obtain ⟨rfl, o⟩ := bor_str hv
    exact ⟨_, _, rfl, ⟨o.2, rfl⟩, same_val e (.int _) q⟩
  · obtain ⟨a, vs, rfl, ha, r⟩ := bor_tup hv
    exact ⟨_, _, rfl, .inr ⟨vs, sqT_ex e ha, rfl⟩, by rw [r.length]; exact same_val e (.int _) q⟩
  · obtain ⟨a, vs, rfl, ha, r⟩ := bor_lst e hv
    exact ⟨_, _, rfl, .inl ⟨vs, SqL.of ha, rfl⟩, by rw [r.length]; exact same_val e (.int _) q⟩
  · obtain ⟨a, vs, rfl, ha, r⟩ := bor_scr hv
    exact ⟨_, _, rfl, .inl ⟨vs, sqL_ex e ha, rfl⟩, by rw [r.length]; exact same_val e (.int _) q⟩
theorem ev_len (g : Good X N sc k) (hm : X.mg "len" = none) (hg : glS sc "len" = true) (hp : plainE a = true) (h : op1D .len x = some d) (ha : EvM .bo X a Γ ρ x) : EvM .sh X (.Call (.Name "len" p) [a] [] pos) Γ ρ d :=
  ev_cb (pe_callB call_len (g.gl _ hg) hm PySem.boot_len pa_of (he := star1 hp)) (len_sem h) hp ha
theorem list_sem (h : op1D .list x = some d) : CbSem X.K (fun xs H Q => ∃ p ys, xs = [.ref p] ∧ (SqL X.K H p ys ∨ SqT X.K H p ys) ∧ ∀ l, H l = none → Q (.ref l) (upd H l (.lst ys))) .ow x d := fun B H v e hv Q q => by
  cases x <;> simp [op1D] at h <;> subst h
  · obtain ⟨a, vs, rfl, ha, r⟩ := bor_tup hv
    exact ⟨_, vs, rfl, .inr (sqT_ex e ha), new_lst e r q⟩
  · obtain ⟨a, vs, rfl, ha, r⟩ := bor_lst e hv
    exact ⟨_, vs, rfl, .inl (SqL.of ha), new_lst e r q⟩
  · obtain ⟨a, vs, rfl, ha, r⟩ := bor_scr hv
    exact ⟨_, vs, rfl, .inl (sqL_ex e ha), new_lst e r q⟩
theorem ev_list (g : Good X N sc k) (hm : X.mg "list" = none) (hg : glS sc "list" = true) (hp : plainE a = true) (h : op1D .list x = some d) (ha : EvM .bo X a Γ ρ x) : EvM .ow X (.Call (.Name "list" p) [a] [] pos) Γ ρ d :=
  ev_cb (pe_callTy call_list_of (g.gl _ hg) hm PyProof.Rows.boot_list pa_of (he := star1 hp)) (list_sem h) hp ha
theorem tuple_sem (h : op1D .tuple x = some d) : CbSem X.K (fun xs H Q => ∃ p ys, xs = [.ref p] ∧ ((SqL X.K H p ys ∧ ∀ l, H l = none → Q (.ref l) (upd H l (.tup ys))) ∨ (SqT X.K H p ys ∧ Q (.ref p) H))) .sh x d := fun B H v e hv Q q => by
  cases x <;> simp [op1D] at h <;> subst h
  · obtain ⟨a, vs, rfl, ha, r⟩ := bor_tup hv
    exact ⟨_, vs, rfl, .inr ⟨sqT_ex e ha, same_val e (.tup ha r) q⟩⟩
  · obtain ⟨a, vs, rfl, ha, r⟩ := bor_lst e hv
    exact ⟨_, vs, rfl, .inl ⟨SqL.of ha, new_tup e r q⟩⟩
theorem ev_tuple (g : Good X N sc k) (hm : X.mg "tuple" = none) (hg : glS sc "tuple" = true) (hp : plainE a = true) (h : op1D .tuple x = some d) (ha : EvM .bo X a Γ ρ x) : EvM .sh X (.Call (.Name "tuple" p) [a] [] pos) Γ ρ d :=
  ev_cb (pe_callTy call_tuple_of (g.gl _ hg) hm PyProof.Rows.boot_tuple pa_of (he := star1 hp)) (tuple_sem h) hp ha
theorem int_sem (h : op1D .int x = some d) : CbSem X.K (fun xs H Q => (∃ i, xs = [.int i] ∧ Q (.int i) H) ∨ ∃ k, xs = [.bl k] ∧ Q (.int (if k then 1 else 0)) H) .sh x d := fun B H v e hv Q q => by
  cases x <;> simp only [op1D, Option.some.injEq, reduceCtorEq] at h
  · subst h; cases bor_bl hv; exact .inr ⟨_, rfl, same_val e (.int _) q⟩
  · subst h; cases bor_int hv; exact .inl ⟨_, rfl, same_val e (.int _) q⟩
theorem ev_int (g : Good X N sc k) (hm : X.mg "int" = none) (hg : glS sc "int" = true) (hp : plainE a = true) (h : op1D .int x = some d) (ha : EvM .bo X a Γ ρ x) : EvM .sh X (.Call (.Name "int" p) [a] [] pos) Γ ρ d :=
  ev_cb (pe_callTy call_int1 (g.gl _ hg) hm PyProof.Rows.boot_int pa_of (he := star1 hp)) (int_sem h) hp ha

/-! ### isinstance of a built-in class -/
theorem boot_ty {t : String} (h : t ∈ tyKnown) : bootBuiltins (Str.ofString t) = some (.type t) := by
  simp only [tyKnown, List.mem_cons, List.not_mem_nil, or_false] at h
  rcases h with rfl | rfl | rfl | rfl | rfl | rfl
  · exact PyProof.Rows.boot_list
  · exact PyProof.Rows.boot_tuple
  · exact PyProof.Rows.boot_dict
  · exact PyProof.Rows.boot_str
  · exact PyProof.Rows.boot_int
  · exact PyProof.Rows.boot_bool
theorem boot_isi : bootBuiltins "isinstance" = some (.builtin "isinstance") := by decide +kernel
def clsD : D → Option String
  | .non => some "NoneType" | .bl _ => some "bool" | .int _ => some "int" | .str _ => some "str"
  | .lst _ => some "list" | .tup _ => some "tuple" | .dic _ _ => some "dict"
  | .scr _ => none
theorem tyx_of {K : PySem.W.Frag} {B H : Hp} {v : V} {c : String} (e : Ex B H) (r : Bor K B H v x) (h : clsD x = some c) : TyX K H v (.type c) := by
  cases x <;> simp only [clsD, Option.some.injEq, reduceCtorEq] at h <;> subst h
  · cases bor_non r; exact .base .non
  · cases bor_bl r; exact .base (.bl _)
  · cases bor_int r; exact .base (.int _)
  · obtain ⟨rfl, _⟩ := bor_str r; exact .base (.str _)
  · obtain ⟨a, vs, rfl, ha, _⟩ := bor_tup r
    rcases sqT_ex e ha with (h | ⟨o, h⟩) | ⟨o, its, n, h, hc, _⟩
    · exact .base (.tup h)
    · exact .fTuple h
    · exact .kTuple h hc
  · obtain ⟨a, vs, rfl, ha, _⟩ := bor_lst e r; exact .base (.lst ha)
  · obtain ⟨a, kvs, rfl, ha, _⟩ := bor_dic e r; exact .base (.dK ha)
theorem kitB_known : ∀ t ∈ tyKnown, kitB "NoneType" t = some false ∧ kitB "bool" t = some (t == "bool" || t == "int") ∧ kitB "int" t = some (t == "int") ∧ kitB "str" t = some (t == "str") ∧ kitB "list" t = some (t == "list") ∧ kitB "tuple" t = some (t == "tuple") ∧ kitB "dict" t = some (t == "dict") := by
  intro t h
  simp only [tyKnown, List.mem_cons, List.not_mem_nil, or_false] at h
  rcases h with rfl | rfl | rfl | rfl | rfl | rfl <;> decide +kernel
theorem isi_sem {t : String} (h : op1D (.isi t) x = some d) : t ∈ tyKnown ∧ ∃ (b : Bool) (c : String), d = .bl b ∧ clsD x = some c ∧ kitB c t = some b := by
  simp only [op1D] at h
  split at h
  · rename_i ht
    refine ⟨ht, ?_⟩
    obtain ⟨h1, h2, h3, h4, h5, h6, h7⟩ := kitB_known t ht
    cases x <;> simp only [typD, Option.map_some, Option.map_none, Option.some.injEq, reduceCtorEq] at h <;> subst h
    · exact ⟨_, _, rfl, rfl, h1⟩
    · exact ⟨_, _, rfl, rfl, h2⟩
    · exact ⟨_, _, rfl, rfl, h3⟩
    · exact ⟨_, _, rfl, rfl, h4⟩
    · exact ⟨_, _, rfl, rfl, h6⟩
    · exact ⟨_, _, rfl, rfl, h5⟩
    · exact ⟨_, _, rfl, rfl, h7⟩
  · cases h
theorem tyS_ne : ∀ t ∈ tyKnown, (Str.ofString t ≠ "__name__") ∧ ((Str.ofString t == ("__debug__" : Str)) = false) := by
  intro t h
  simp only [tyKnown, List.mem_cons, List.not_mem_nil, or_false] at h
  rcases h with rfl | rfl | rfl | rfl | rfl | rfl <;> decide +kernel
theorem ev_isi {t : String} {p2 : Pos} (g : Good X N sc k) (hm : X.mg "isinstance" = none) (hg : glS sc "isinstance" = true) (hm2 : X.mg (Str.ofString t) = none) (hg2 : glS sc (Str.ofString t) = true) (hp : plainE a = true) (h : op1D (.isi t) x = some d) (ha : EvM .bo X a Γ ρ x) :
    EvM .sh X (.Call (.Name "isinstance" p) [a, .Name (Str.ofString t) p2] [] pos) Γ ρ d := fun lv B0 H0 B H σ S Q q => by
  obtain ⟨ht, b, c, rfl, hc, hk⟩ := isi_sem h
  have pt : PE X (.Name (Str.ofString t) p2) (tC (.ty t)) := pe_bltn (g.gl _ hg2) hm2 (boot_ty ht) rfl (tyS_ne t ht).1 (tyS_ne t ht).2
  refine of_pe (pe_callB call_isi (g.gl _ hg) hm boot_isi (pa_cons pe_of (pa_cons pt pa_nil) (star1 hp)) (he := star1 hp)) ?_
  refine ha lv B0 H0 B H σ S _ fun v1 B1 H1 x1 r1 => ?_
  exact ⟨v1, .ty t, .type c, .type t, b, rfl, .ty t, tyx_of x1.bh r1 hc, kit_ty hk, q _ B1 H1 x1 (.bl _)⟩

/-! ### methods -/
theorem ev_starts {s t : Str} (hb : plainB a = true) (hp : plainE b = true) (hl : (apos.endLine == pos.line) = true) (ha : EvM .bo X a Γ ρ (.str s)) (hb' : EvM .bo X b Γ ρ (.str t)) : EvM .sh X (.Call (.Attribute a "startswith" apos) [b] [] pos) Γ ρ (.bl (Txt.startswith s t)) := fun lv B0 H0 B H σ S Q q => by
  refine of_pe (pe_m1 PySem.F.slot_str_startswith PySem.F.type_str_startswith mt_startswith pe_of pe_of (by rw [star1 hp]; rfl) (plainBase hb) hl) ?_
  refine ha lv B0 H0 B H σ S _ fun v1 B1 H1 x1 r1 => ?_
  obtain ⟨rfl, o⟩ := bor_str r1
  refine ⟨⟨s, rfl⟩, ?_⟩
  refine hb' lv B0 H0 B1 H1 σ (S.grow x1) _ fun v2 B2 H2 x2 r2 => ?_
  obtain ⟨rfl, o2⟩ := bor_str r2
  exact ⟨s, t, rfl, rfl, q _ B2 H2 (x1.trans x2) (.bl _)⟩
theorem ev_join {s : Str} {l : List D} {xs : List Str} (hb : plainB a = true) (hp : plainE b = true) (hl : (apos.endLine == pos.line) = true) (hx : strsD l = some xs) (hz : (xs.map (·.length)).sum + xs.length * s.length ≤ lim) (ha : EvM .bo X a Γ ρ (.str s)) (hb' : EvM .bo X b Γ ρ (.lst l)) : EvM .sh X (.Call (.Attribute a "join" apos) [b] [] pos) Γ ρ (.str (Txt.join s xs)) := fun lv B0 H0 B H σ S Q q => by
  refine of_pe (pe_join pe_of pe_of (by rw [star1 hp]; rfl) (plainBase hb) hl) ?_
  refine ha lv B0 H0 B H σ S _ fun v1 B1 H1 x1 r1 => ?_
  obtain ⟨rfl, o⟩ := bor_str r1
  refine ⟨⟨s, rfl⟩, ?_⟩
  refine hb' lv B0 H0 B1 H1 σ (S.grow x1) _ fun v2 B2 H2 x2 r2 => ?_
  obtain ⟨p, vs, rfl, hv, r⟩ := bor_lst x2.bh r2
  obtain ⟨rfl, ok⟩ := reps_strs r hx
  exact ⟨s, p, xs, rfl, rfl, .inl (SqL.of hv), Nat.le_trans hz (by decide), q _ B2 H2 (x1.trans x2) (.str _ (okS_join o ok hz))⟩
theorem m2_of {env : Env} {o e f : Expr} {m : Str} (hb : plainB o = true) (h1 : plainE e = true) (h2 : plainE f = true) (hl : (apos.endLine == cpos.line) = true) (hX : X.env = env) : starEach [e, f] env = [(false, eval e env), (false, eval f env)] := by
  rw [star1 h1, star1 h2]; rfl
theorem ev_get {ks : List Key} {ds : List D} {key : Key} (g : Good X N sc k) (hb : plainB a = true) (hpb : plainE b = true) (hpc : plainE c = true) (hl : (apos.endLine == pos.line) = true) (hk : keyD y = some key)
    (ha : EvM .bo X a Γ ρ (.dic ks ds)) (hy : EvM .bo X b Γ ρ y) (hz : EvM .sh X c Γ ρ z) : EvM .sh X (.Call (.Attribute a "get" apos) [b, c] [] pos) Γ ρ ((lookD key ks ds).getD z) := fun lv B0 H0 B H σ S Q q => by
  have st : starEach [b, c] X.env = [(false, eval b X.env), (false, eval c X.env)] := by rw [star1 hpb, star1 hpc]; rfl
  refine of_pe (pe_dget2 (by have := g.hu; omega) pe_of pe_of pe_of ⟨plainBase hb, by rw [st]; rfl, hl, by rw [st]; rfl⟩) ?_
  refine ha lv B0 H0 B H σ S _ fun v1 B1 H1 x1 r1 => ?_
  obtain ⟨p, kvs, rfl, hd, hks, o, r⟩ := bor_dic x1.bh r1
  refine ⟨p, rfl, .inl ⟨kvs, .inl hd⟩, ?_⟩
  refine hy lv B0 H0 B1 H1 σ (S.grow x1) _ fun v2 B2 H2 x2 r2 => ?_
  refine hz lv B0 H0 B2 H2 σ (S.grow (x1.trans x2)) _ fun v3 B3 H3 x3 r3 => ?_
  have hd3 : H3 p = some (.dK kvs) := (x2.trans x3).hh _ _ hd
  have r' := (r.mono x2.bb).mono x3.bb
  refine ⟨valV kvs key, ?_, ?_⟩
  · rw [keyD_V hk r2]; exact DGet.k hd3
  · subst hks
    obtain ⟨i1, i2⟩ := valV_look (k := key) r'
    cases hq : lookD key (kvs.map (·.1)) ds with
    | none =>
      rw [i2 hq]
      rw [hq] at q
      exact q _ B3 H3 ((x1.trans x2).trans x3) r3
    | some d =>
      obtain ⟨v, hv, rv⟩ := i1 d hq
      rw [hv]
      rw [hq] at q
      exact q _ B3 H3 ((x1.trans x2).trans x3) rv
theorem rep_key {K : PySem.W.Frag} {B : Hp} {ks : List Key} (o : KsOk ks) {k : Key} (h : k ∈ ks) : Rep K B (kV k) (keyE k) := by
  cases k with
  | inl i => exact .int i
  | inr x => exact .str x (o x h)
theorem items_reps {K : PySem.W.Frag} {B B' H' : Hp} (eb : Ex B B') {ks : List Key} (o : KsOk ks) : ∀ {ts : List Addr} {kvs : List (Key × V)} {ds : List D}, Paired (fun (t : Addr) (q : Key × V) => H' t = some (.tup [kV q.1, q.2])) ts kvs → (∀ t ∈ ts, B' t = H' t) → Reps K B (kvs.map (·.2)) ds → (∀ p ∈ kvs, p.1 ∈ ks) →
    Reps K B' (ts.map V.ref) (((kvs.map (·.1)).zip ds).map fun p => D.tup [keyE p.1, p.2])
  | [], [], _, _, _, .nil, _ => .nil
  | t :: ts, q :: kvs, d :: ds, .cons h p, hb, .cons r rs, hk => by
    refine .cons (.tup (SqT.of ((hb t (by simp)).trans h)) (.cons (rep_key o (hk q (by simp))) (.cons (r.mono eb) .nil))) ?_
    exact items_reps eb o p (fun t ht => hb t (by simp [ht])) rs fun p hp => hk p (by simp [hp])
theorem ev_items {ks : List Key} (g : Good X N sc k) (hm : X.mg "list" = none) (hg : glS sc "list" = true) (hb : plainB a = true) (hl : (apos.endLine == cpos.line) = true) (ha : EvM .bo X a Γ ρ (.dic ks ds)) :
    EvM .ow X (.Call (.Name "list" p) [.Call (.Attribute a "items" apos) [] [] cpos] [] pos) Γ ρ (.lst ((ks.zip ds).map fun p => .tup [keyE p.1, p.2])) := fun lv B0 H0 B H σ S Q q => by
  refine of_pe (LiI.pe_listItems g.calm pe_of (g.gl _ hg) hm PyProof.Rows.boot_list (plainBase hb) hl (by rfl)) ?_
  refine ha lv B0 H0 B H σ S _ fun v1 B1 H1 x1 r1 => ?_
  obtain ⟨d, kvs, rfl, hd, hks, o, r⟩ := bor_dic x1.bh r1
  refine ⟨d, kvs, rfl, hd, fun H' p ts eh hp hts hpt hlst hpr => ?_⟩
  let B' : Hp := fun a => if a ∈ ts then H' a else B1 a
  have hB1 : ∀ t ∈ ts, B1 t = none := fun t ht => x1.bh.back (hts t ht)
  have eb : Ex B1 B' := fun a u ha => by
    show (if a ∈ ts then H' a else B1 a) = some u
    rw [if_neg (fun h => by rw [hB1 a h] at ha; cases ha)]; exact ha
  have x2 : Ext B1 H1 B' H' := ⟨eh, eb, fun a u ha => by
    by_cases h : a ∈ ts
    · have : B' a = H' a := if_pos h
      rw [← this]; exact ha
    · have : B' a = B1 a := if_neg h
      rw [this] at ha; exact eh _ _ (x1.bh _ _ ha), fun a h1 h2 => by
    have : B' a = B1 a := if_neg fun h => h1 (hts a h)
    rw [this]; exact h2⟩
  have hBp : B' p = none := by
    have : B' p = B1 p := if_neg hpt
    rw [this]; exact x1.bh.back hp
  subst hks
  refine q _ B' H' (x1.trans x2) ⟨p, rfl, x1.hh.back hp, hBp, .inl ⟨ts.map V.ref, _, rfl, hlst, ?_⟩⟩
  exact items_reps eb o hpr (fun t ht => if_pos ht) r fun q hq => List.mem_map_of_mem hq
end
end DL

set_option Elab.async false
set_option linter.all false
set_option maxRecDepth 100000
set_option maxHeartbeats 4000000
namespace DL
open PySem PySem.Spec L2

/-! ### how the state changes -/
section
variable {K : PySem.W.Frag} {Γ : MEnv} {lv : Nat → Option (V × Bool × Hp)} {B0 H0 B H B' H' : Hp} {σ : L2.St} {ρ : DEnv}
/-- one's own list or dict changes -/
theorem Stt.mutOw {i : Nat} {p : Addr} {d d' : D} {o : HO} (S : Stt K Γ lv B0 H0 B H σ ρ) (hm : Γ[i]? = some Md.ow) (hi : ρ[i]? = some (some d)) (hp : σ[i]? = some (some (V.ref p))) (n : Own K B (upd H p o) p d') : Stt K Γ lv B0 H0 B (upd H p o) σ (ρ.set i (some d')) := by
  obtain ⟨p', e1, h0, hb, _⟩ := S.ow i d hm hi
  rw [hp] at e1
  cases e1
  have il : i < ρ.length := (List.getElem?_eq_some_iff.mp hi).1
  refine ⟨⟨S.ext.hh.mut h0, S.ext.bb, S.ext.bh.mut hb, S.ext.sep⟩, S.lvx, by rw [List.length_set]; exact S.len, by rw [List.length_set]; exact S.mlen, fun j e h1 h2 => ?_, fun j e h1 h2 => ?_, fun j e h1 h2 => ?_, fun a b q d1 d2 hab h1 h2 h3 h4 h5 => ?_⟩
  · have q : i ≠ j := fun q => by subst q; rw [hm] at h1; cases h1
    rw [List.getElem?_set_ne q] at h2; exact S.sh j e h1 h2
  · by_cases q : i = j
    · subst q
      rw [List.getElem?_set_self il] at h2
      cases h2
      exact ⟨p, hp, h0, hb, n⟩
    · rw [List.getElem?_set_ne q] at h2
      obtain ⟨r, a, b, c, o'⟩ := S.ow j e h1 h2
      have hne : r ≠ p := fun z => by subst z; exact S.apart i j r d e q hm h1 hi h2 hp a
      exact ⟨r, a, b, c, o'.keep (.refl _) (upd_ne hne)⟩
  · have q : i ≠ j := fun q => by subst q; rw [hm] at h1; cases h1
    rw [List.getElem?_set_ne q] at h2; exact S.bo j e h1 h2
  · have f : ∀ (c : Nat) (e : D), (ρ.set i (some d'))[c]? = some (some e) → ∃ e', ρ[c]? = some (some e') := fun c e h => by
      by_cases q : i = c
      · subst q; exact ⟨d, hi⟩
      · rw [List.getElem?_set_ne q] at h; exact ⟨e, h⟩
    obtain ⟨e1, h3⟩ := f a d1 h3
    obtain ⟨e2, h4⟩ := f b d2 h4
    exact S.apart a b q e1 e2 hab h1 h2 h3 h4 h5
/-- a new list or dict of one's own is named -/
theorem Stt.setOw {i : Nat} {p : Addr} {d : D} (S : Stt K Γ lv B0 H0 B H σ ρ) (x : Ext B H B' H') (hm : Γ[i]? = some Md.ow) (hp : H p = none) (hb : B' p = none) (n : Own K B' H' p d) : Stt K Γ lv B0 H0 B' H' (σ.set i (some (.ref p))) (ρ.set i (some d)) := by
  have S' := S.grow x
  have il : i < ρ.length := by rw [← S.mlen]; exact (List.getElem?_eq_some_iff.mp hm).1
  have h0 : H0 p = none := S.ext.hh.back hp
  have far : ∀ (j : Nat) (e : D) (q : Addr), i ≠ j → Γ[j]? = some Md.ow → ρ[j]? = some (some e) → σ[j]? = some (some (V.ref q)) → q ≠ p := fun j e q hij h1 h2 h3 z => by
    obtain ⟨r, a, _, _, o⟩ := S.ow j e h1 h2
    rw [h3] at a; cases a
    exact o.there (by rw [z]; exact hp)
  refine ⟨S'.ext, S'.lvx, by rw [List.length_set, List.length_set]; exact S.len, by rw [List.length_set]; exact S.mlen, fun j e h1 h2 => ?_, fun j e h1 h2 => ?_, fun j e h1 h2 => ?_, fun a b q d1 d2 hab h1 h2 h3 h4 h5 => ?_⟩
  · have q : i ≠ j := fun q => by subst q; rw [hm] at h1; cases h1
    rw [List.getElem?_set_ne q] at h2 ⊢; exact S'.sh j e h1 h2
  · by_cases q : i = j
    · subst q
      rw [List.getElem?_set_self il] at h2
      cases h2
      exact ⟨p, List.getElem?_set_self (by rw [S.len]; exact il), h0, hb, n⟩
    · rw [List.getElem?_set_ne q] at h2 ⊢; exact S'.ow j e h1 h2
  · have q : i ≠ j := fun q => by subst q; rw [hm] at h1; cases h1
    rw [List.getElem?_set_ne q] at h2 ⊢; exact S'.bo j e h1 h2
  · by_cases qa : i = a
    · subst qa
      rw [List.getElem?_set_self (by rw [S.len]; exact il)] at h5
      cases h5
      rw [List.getElem?_set_ne hab] at h4 ⊢
      intro h6
      exact far b d2 p hab h2 h4 h6 rfl
    · rw [List.getElem?_set_ne qa] at h3 h5
      by_cases qb : i = b
      · subst qb
        rw [List.getElem?_set_self (by rw [S.len]; exact il)]
        intro h6
        cases h6
        exact far a d1 p qa h1 h3 h5 rfl
      · rw [List.getElem?_set_ne qb] at h4 ⊢
        exact S.apart a b q d1 d2 hab h1 h2 h3 h4 h5
/-- all of one's own is frozen -/
def frM : Md → Md
  | .ow => .sh
  | m => m
theorem Stt.freeze (S : Stt K Γ lv B0 H0 B H σ ρ) : ∃ B2, Ex B B2 ∧ Stt K (Γ.map frM) lv B0 H0 B2 H σ ρ := by
  classical
  let mine : Addr → Prop := fun a => ∃ (i : Nat) (d : D), Γ[i]? = some Md.ow ∧ ρ[i]? = some (some d) ∧ σ[i]? = some (some (V.ref a))
  have hm : ∀ a, mine a → H0 a = none ∧ B a = none := fun a ⟨i, d, h1, h2, h3⟩ => by
    obtain ⟨p, e, h4, h5, _⟩ := S.ow i d h1 h2
    rw [h3] at e; cases e; exact ⟨h4, h5⟩
  let B2 : Hp := fun a => if mine a then H a else B a
  have eb : Ex B B2 := fun a u ha => by
    show (if mine a then H a else B a) = some u
    split
    · exact S.ext.bh _ _ ha
    · exact ha
  have bh : Ex B2 H := fun a u ha => by
    have ha : (if mine a then H a else B a) = some u := ha
    split at ha
    · exact ha
    · exact S.ext.bh _ _ ha
  have x0 : Ext B0 H0 B2 H := ⟨S.ext.hh, S.ext.bb.trans eb, bh, fun a h1 h2 => by
    have : ¬ mine a := fun h => h1 (hm a h).1
    show (if mine a then H a else B a) = none
    rw [if_neg this]; exact S.ext.sep a h1 h2⟩
  have at_ : ∀ (i : Nat) (m : Md), (Γ.map frM)[i]? = some m → (m = .sh ∧ (Γ[i]? = some .sh ∨ Γ[i]? = some .ow)) ∨ (m = .bo ∧ Γ[i]? = some .bo) := fun i m h => by
    rw [List.getElem?_map] at h
    cases q : Γ[i]? with
    | none => rw [q] at h; cases h
    | some k => rw [q] at h; cases k <;> cases h <;> simp [frM]
  refine ⟨B2, eb, x0, S.lvx, S.len, by rw [List.length_map]; exact S.mlen, fun i d h1 h2 => ?_, fun i d h1 _ => ?_, fun i d h1 h2 => ?_, fun i j p d e _ h1 _ => ?_⟩
  · rcases at_ i _ h1 with ⟨_, h | h⟩ | ⟨h, _⟩
    · obtain ⟨v, a, b⟩ := S.sh i d h h2; exact ⟨v, a, b.mono eb⟩
    · obtain ⟨p, a, _, _, o⟩ := S.ow i d h h2
      have hp : B2 p = H p := if_pos ⟨i, d, h, h2, a⟩
      refine ⟨_, a, ?_⟩
      rcases o with ⟨vs, ds, rfl, hh, r⟩ | ⟨kvs, ks, ds, rfl, hh, k, o, r⟩
      · exact .lst (hp.trans hh) (r.mono eb)
      · exact .dic (hp.trans hh) k o (r.mono eb)
    · cases h
  · rcases at_ i _ h1 with ⟨h, _⟩ | ⟨h, _⟩ <;> cases h
  · rcases at_ i _ h1 with ⟨h, _⟩ | ⟨_, h⟩
    · cases h
    · obtain ⟨v, t, h', a, b, c⟩ := S.bo i d h h2; exact ⟨v, t, h', a, b, c.mono eb (.refl _)⟩
  · rcases at_ i _ h1 with ⟨h, _⟩ | ⟨h, _⟩ <;> cases h

/-- the loop's own ground: what is frozen, what the caller holds, and what of one's own does not change in the loop -/
def pinM (pins : List Nat) (Γ : MEnv) : MEnv := Γ.mapIdx fun i m => if i ∈ pins ∧ m = .ow then .bo else m
theorem pinM_at {pins : List Nat} {i : Nat} {m : Md} (h : (pinM pins Γ)[i]? = some m) : (Γ[i]? = some m ∧ ¬ (i ∈ pins ∧ m = .ow)) ∨ (m = .bo ∧ Γ[i]? = some .ow ∧ i ∈ pins) := by
  unfold pinM at h
  rw [List.getElem?_mapIdx] at h
  cases q : Γ[i]? with
  | none => rw [q] at h; cases h
  | some k =>
    rw [q] at h
    simp only [Option.map_some, Option.some.injEq] at h
    split at h
    · rename_i hk; obtain ⟨a, rfl⟩ := hk; subst h; exact .inr ⟨rfl, rfl, a⟩
    · rename_i hk; subst h; exact .inl ⟨rfl, hk⟩
theorem pinM_len {pins : List Nat} : (pinM pins Γ).length = Γ.length := by unfold pinM; rw [List.length_mapIdx]
theorem Stt.pin (pins : List Nat) (S : Stt K Γ lv B0 H0 B H σ ρ) : ∃ lv' H1, Ex H0 H1 ∧ Ex B H1 ∧ Ex H1 H ∧ Stt K (pinM pins Γ) lv' B H1 B H σ ρ ∧
    ∀ B' H' σ' ρ', Stt K (pinM pins Γ) lv' B H1 B' H' σ' ρ' → Stt K Γ lv B0 H0 B' H' σ' ρ' := by
  classical
  let mine : Addr → Prop := fun a => ∃ (i : Nat) (d : D), i ∈ pins ∧ Γ[i]? = some Md.ow ∧ ρ[i]? = some (some d) ∧ σ[i]? = some (some (V.ref a))
  have hm : ∀ a, mine a → H0 a = none ∧ B a = none ∧ H a ≠ none := fun a ⟨i, d, _, h1, h2, h3⟩ => by
    obtain ⟨p, e, h4, h5, o⟩ := S.ow i d h1 h2
    rw [h3] at e; cases e; exact ⟨h4, h5, o.there⟩
  let H1 : Hp := fun a => if mine a then H a else if B a = none then H0 a else B a
  let lv' : Nat → Option (V × Bool × Hp) := fun i => if Γ[i]? = some Md.ow then (if ((ρ[i]?).bind id).isSome = true then ((σ[i]?).bind id).map fun v => (v, true, H1) else none) else lv i
  have e01 : Ex H0 H1 := fun a u ha => by
    have n : ¬ mine a := fun h => by rw [(hm a h).1] at ha; cases ha
    show (if mine a then H a else if B a = none then H0 a else B a) = some u
    rw [if_neg n]
    split
    · exact ha
    · rename_i hb
      cases q : B a with
      | none => exact absurd q hb
      | some w =>
        have := S.ext.bh _ _ q
        rw [S.ext.hh _ _ ha] at this
        exact this.symm
  have eb1 : Ex B H1 := fun a u ha => by
    have n : ¬ mine a := fun h => by rw [(hm a h).2.1] at ha; cases ha
    show (if mine a then H a else if B a = none then H0 a else B a) = some u
    rw [if_neg n, if_neg (by rw [ha]; simp)]; exact ha
  have e1 : Ex H1 H := fun a u ha => by
    have ha : (if mine a then H a else if B a = none then H0 a else B a) = some u := ha
    split at ha
    · exact ha
    · split at ha
      · exact S.ext.hh _ _ ha
      · exact S.ext.bh _ _ ha
  have far : ∀ (i : Nat) (d : D) (p : Addr), Γ[i]? = some Md.ow → ¬ i ∈ pins → ρ[i]? = some (some d) → σ[i]? = some (some (V.ref p)) → H1 p = none := fun i d p h1 hn h2 h3 => by
    obtain ⟨p', e, h4, h5, o⟩ := S.ow i d h1 h2
    rw [h3] at e; cases e
    have n : ¬ mine p := fun ⟨j, d', hj, g1, g2, g3⟩ => S.apart i j p d d' (fun z => hn (z ▸ hj)) h1 g1 h2 g2 h3 g3
    show (if mine p then H p else if B p = none then H0 p else B p) = none
    rw [if_neg n, if_pos h5]; exact h4
  have lvx' : ∀ (i : Nat) (v : V) (t : Bool) (h : Hp), lv' i = some (v, t, h) → Ex h H1 := fun i v t h hl => by
    have hl : (if Γ[i]? = some Md.ow then (if ((ρ[i]?).bind id).isSome = true then ((σ[i]?).bind id).map fun v => (v, true, H1) else none) else lv i) = some (v, t, h) := hl
    split at hl
    · split at hl
      · obtain ⟨w, _, e⟩ := Option.map_eq_some_iff.mp hl
        cases e; exact .refl _
      · cases hl
    · exact (S.lvx i v t h hl).trans e01
  refine ⟨lv', H1, e01, eb1, e1, ⟨⟨e1, .refl _, S.ext.bh, fun _ _ h => h⟩, lvx', S.len, by rw [pinM_len]; exact S.mlen, fun i d h1 h2 => ?_, fun i d h1 h2 => ?_, fun i d h1 h2 => ?_, fun i j p d e hij h1 h2 h3 h4 h5 => ?_⟩, fun B' H' σ' ρ' S' => ?_⟩
  · rcases pinM_at h1 with ⟨h, _⟩ | ⟨h, _⟩
    · exact S.sh i d h h2
    · cases h
  · rcases pinM_at h1 with ⟨h, n⟩ | ⟨h, _⟩
    · obtain ⟨p, a, _, c, o⟩ := S.ow i d h h2
      exact ⟨p, a, far i d p h (fun z => n ⟨z, rfl⟩) h2 a, c, o⟩
    · cases h
  · rcases pinM_at h1 with ⟨h, _⟩ | ⟨_, h, hp⟩
    · obtain ⟨v, t, h', a, b, c⟩ := S.bo i d h h2
      refine ⟨v, t, h', ?_, b, c⟩
      show (if Γ[i]? = some Md.ow then _ else lv i) = some _
      rw [if_neg (by rw [h]; simp)]; exact a
    · obtain ⟨p, a, b, c, o⟩ := S.ow i d h h2
      refine ⟨.ref p, true, H1, ?_, a, ⟨p, rfl, ?_⟩⟩
      · show (if Γ[i]? = some Md.ow then (if ((ρ[i]?).bind id).isSome = true then ((σ[i]?).bind id).map fun v => (v, true, H1) else none) else lv i) = some _
        rw [if_pos h, h2, a]; rfl
      · have hp1 : H1 p = H p := if_pos ⟨i, d, hp, h, h2, a⟩
        exact (o.keep (.refl _) hp1).top
  · rcases pinM_at h1 with ⟨h1, _⟩ | ⟨h, _⟩
    · rcases pinM_at h2 with ⟨h2, _⟩ | ⟨h, _⟩
      · exact S.apart i j p d e hij h1 h2 h3 h4 h5
      · cases h
    · cases h
  · have up : ∀ (i : Nat) (m : Md), Γ[i]? = some m → ¬ (i ∈ pins ∧ m = .ow) → (pinM pins Γ)[i]? = some m := fun i m h n => by
      unfold pinM; rw [List.getElem?_mapIdx, h]; simp [n]
    have up2 : ∀ (i : Nat), Γ[i]? = some Md.ow → i ∈ pins → (pinM pins Γ)[i]? = some Md.bo := fun i h n => by
      unfold pinM; rw [List.getElem?_mapIdx, h]; simp [n]
    -- a pinned one behind the loop
    have back : ∀ (i : Nat) (d : D), Γ[i]? = some Md.ow → i ∈ pins → ρ'[i]? = some (some d) → ∃ p d0, ρ[i]? = some (some d0) ∧ σ[i]? = some (some (V.ref p)) ∧ σ'[i]? = some (some (V.ref p)) ∧ H0 p = none ∧ B' p = none ∧ Own K B' H' p d ∧ H1 p ≠ none := fun i d h hp h2 => by
      obtain ⟨v, t, h', a, b, c⟩ := S'.bo i d (up2 i h hp) h2
      have a : (if Γ[i]? = some Md.ow then (if ((ρ[i]?).bind id).isSome = true then ((σ[i]?).bind id).map fun v => (v, true, H1) else none) else lv i) = some (v, t, h') := a
      rw [if_pos h] at a
      cases q : ρ[i]? with
      | none => rw [q] at a; simp at a
      | some w =>
        cases w with
        | none => rw [q] at a; simp at a
        | some d0 =>
          obtain ⟨p, e1', e2, e3, o⟩ := S.ow i d0 h q
          rw [q, e1'] at a
          simp at a
          obtain ⟨rfl, rfl, rfl⟩ := a
          obtain ⟨p', e4, c⟩ := c
          cases e4
          have hp1 : H1 p = H p := if_pos ⟨i, d0, hp, h, q, e1'⟩
          have hn : H1 p ≠ none := by rw [hp1]; exact o.there
          refine ⟨p, d0, rfl, e1', b, e2, S'.ext.sep p hn e3, ?_, hn⟩
          have hh : ∀ u, H1 p = some u → H' p = some u := fun u hu => S'.ext.hh _ _ hu
          rcases c with ⟨vs, ds, rfl, hv, r⟩ | ⟨kvs, ks, ds, rfl, hv, k, o', r⟩
          · exact .inl ⟨vs, ds, rfl, hh _ hv, r⟩
          · exact .inr ⟨kvs, ks, ds, rfl, hh _ hv, k, o', r⟩
    have own' : ∀ (i : Nat) (d : D), Γ[i]? = some Md.ow → ρ'[i]? = some (some d) → ∃ p, σ'[i]? = some (some (V.ref p)) ∧ H0 p = none ∧ B' p = none ∧ Own K B' H' p d ∧ (i ∈ pins → H1 p ≠ none ∧ σ[i]? = some (some (V.ref p)) ∧ ∃ d0, ρ[i]? = some (some d0)) ∧ (¬ i ∈ pins → H1 p = none ∧ (pinM pins Γ)[i]? = some Md.ow) := fun i d h h2 => by
      by_cases hp : i ∈ pins
      · obtain ⟨p, d0, q, a, b, c, e, o, n⟩ := back i d h hp h2
        exact ⟨p, b, c, e, o, fun _ => ⟨n, a, d0, q⟩, fun z => absurd hp z⟩
      · have hu := up i .ow h (fun z => hp z.1)
        obtain ⟨p, a, b, c, o⟩ := S'.ow i d hu h2
        exact ⟨p, a, e01.back b, c, o, fun z => absurd z hp, fun _ => ⟨b, hu⟩⟩
    refine ⟨⟨e01.trans S'.ext.hh, S.ext.bb.trans S'.ext.bb, S'.ext.bh, fun a h1 h2 => S'.ext.sep a (fun z => h1 (e01.back z)) (S.ext.sep a h1 h2)⟩, S.lvx, S'.len, by rw [← pinM_len (pins := pins)]; exact S'.mlen, fun i d h1 h2 => S'.sh i d (up i .sh h1 (fun z => by cases z.2)) h2, fun i d h1 h2 => ?_, fun i d h1 h2 => ?_, fun i j p d e hij h1 h2 h3 h4 h5 h6 => ?_⟩
    · obtain ⟨p, a, b, c, o, _, _⟩ := own' i d h1 h2
      exact ⟨p, a, b, c, o⟩
    · obtain ⟨v, t, h', a, b, c⟩ := S'.bo i d (up i .bo h1 (fun z => by cases z.2)) h2
      have a : (if Γ[i]? = some Md.ow then _ else lv i) = some (v, t, h') := a
      rw [if_neg (by rw [h1]; simp)] at a
      exact ⟨v, t, h', a, b, c⟩
    · obtain ⟨p1, a1, _, _, _, f1, g1⟩ := own' i d h1 h3
      obtain ⟨p2, a2, _, _, _, f2, g2⟩ := own' j e h2 h4
      rw [h5] at a1; cases a1
      rw [h6] at a2; cases a2
      by_cases hi : i ∈ pins <;> by_cases hj : j ∈ pins
      · obtain ⟨_, s1, d1, r1⟩ := f1 hi
        obtain ⟨_, s2, d2, r2⟩ := f2 hj
        exact S.apart i j p d1 d2 hij h1 h2 r1 r2 s1 s2
      · exact (f1 hi).1 (g2 hj).1
      · exact (f2 hj).1 (g1 hi).1
      · exact S'.apart i j p d e hij (g1 hi).2 (g2 hj).2 h3 h4 h5 h6
end
end DL

set_option Elab.async false
set_option linter.all false
set_option maxRecDepth 100000
set_option maxHeartbeats 4000000
namespace DL
open PySem PySem.Spec L2

theorem putK_keys {kvs : List (Key × V)} {ks : List Key} {key : Key} {v : V} (h : kvs.map (·.1) = ks) : (putK kvs key v).map (·.1) = putKs key ks := by
  subst h
  unfold putK putKs
  have e : ((kvs.map (·.1)).any fun k' => decide (k' = key)) = kvs.any fun kv => decide (kv.1 = key) := by rw [List.any_map]; rfl
  rw [e]
  split
  · rw [List.map_map]
    apply List.map_congr_left
    intro p _
    show (if p.1 = key then (p.1, v) else p).1 = p.1
    split <;> rfl
  · rw [List.map_append]; rfl
theorem rep_reps {K : PySem.W.Frag} {B : Hp} {key : Key} {v : V} {d : D} (rv : Rep K B v d) : ∀ {kvs : List (Key × V)} {ds : List D}, Reps K B (kvs.map (·.2)) ds → Reps K B ((kvs.map fun kv => if kv.1 = key then (kv.1, v) else kv).map (·.2)) (repD key d (kvs.map (·.1)) ds)
  | [], _, h => by cases h; exact .nil
  | p :: r, _, h => by
    cases h with
    | cons h1 h2 =>
      simp only [List.map_cons, repD]
      refine .cons ?_ (rep_reps rv h2)
      by_cases q : p.1 = key
      · simp only [if_pos q]; exact rv
      · simp only [if_neg q]; exact h1
theorem putK_reps {K : PySem.W.Frag} {B : Hp} {kvs : List (Key × V)} {ks : List Key} {ds : List D} {key : Key} {v : V} {d : D} (h : kvs.map (·.1) = ks) (rv : Rep K B v d) (r : Reps K B (kvs.map (·.2)) ds) : Reps K B ((putK kvs key v).map (·.2)) (putD key d ks ds) := by
  subst h
  unfold putK putD
  have e : ((kvs.map (·.1)).any fun k' => decide (k' = key)) = kvs.any fun kv => decide (kv.1 = key) := by rw [List.any_map]; rfl
  rw [e]
  split
  · exact rep_reps rv r
  · rw [List.map_append]; exact r.append (.cons rv .nil)

/-! ### statements -/
def Post (K : PySem.W.Frag) (Γ : MEnv) (lv : Nat → Option (V × Bool × Hp)) (B0 H0 : Hp) (D : Ends) : Out → Prop
  | .nx ρ => ∀ σ B H, Stt K Γ lv B0 H0 B H σ ρ → D.nx σ H
  | .cnt ρ => ∀ σ B H, Stt K Γ lv B0 H0 B H σ ρ → D.ct σ H
  | .brk ρ => ∀ σ B H, Stt K Γ lv B0 H0 B H σ ρ → D.bk σ H
  | .ret d => ∀ v B H, Ext B0 H0 B H → Rep K B v d → D.rt v H
def StO (X : Cx) (st : Stmt) (Γ : MEnv) (ρ : DEnv) (o : Out) : Prop :=
  ∀ lv B0 H0 B H σ, Stt X.K Γ lv B0 H0 B H σ ρ → ∀ D : Ends, Post X.K Γ lv B0 H0 D o → tSOf X st D σ H
def StS (X : Cx) (sts : List Stmt) (Γ : MEnv) (ρ : DEnv) (o : Out) : Prop :=
  ∀ lv B0 H0 B H σ, Stt X.K Γ lv B0 H0 B H σ ρ → ∀ D : Ends, Post X.K Γ lv B0 H0 D o → tBOf X sts D σ H
section
variable {X : Cx} {N : List Str} {sc : Scope} {k : Nat} {st : Stmt} {sts : List Stmt} {e a b c tg : Expr} {Γ : MEnv} {ρ ρ' : DEnv} {d x y z : D} {o : Out} {t : T} {pos apos p : Pos} {i : Nat} {nm : Str}
theorem ss_nil : StS X [] Γ ρ (.nx ρ) := fun lv B0 H0 B H σ S D q => of_pss pss_nil (q σ B H S)
theorem ss_one (h : StO X st Γ ρ o) : StS X [st] Γ ρ o := fun lv B0 H0 B H σ S D q => of_pss (pss_one ps_of) (h lv B0 H0 B H σ S D q)
theorem ss_cons {o' : Out} (h : StO X st Γ ρ o) (h2 : ∀ ρ', o = .nx ρ' → StS X sts Γ ρ' o') (hn : (∀ ρ', o ≠ .nx ρ') → o' = o) : StS X (st :: sts) Γ ρ o' := fun lv B0 H0 B H σ S D q => by
  refine of_pss (pss_cons ps_of pss_of) ?_
  refine h lv B0 H0 B H σ S _ ?_
  cases o with
  | nx ρ' => exact fun σ' B' H' S' => h2 ρ' rfl lv B0 H0 B' H' σ' S' D q
  | cnt ρ' => cases hn (fun _ z => by cases z); exact q
  | brk ρ' => cases hn (fun _ z => by cases z); exact q
  | ret d => cases hn (fun _ z => by cases z); exact q
def plainA : Expr → Bool
  | .ListComp _ _ _ _ => false
  | .SetComp _ _ _ _ => false
  | .DictComp _ _ _ _ _ => false
  | e => plainE e
theorem plainSw {e : Expr} {tg : Option Expr} {l : Nat} {env : Env} (h : plainA e = true) : swapsWith e tg l env = pure false := by
  cases e <;> first | rfl | cases h
/-- x = e, x shared -/
theorem so_set (g : Good X N sc k) (hi : N[i]? = some nm) (hv : stS sc nm = true) (hp : plainA e = true) (hm : Γ[i]? = some Md.sh) (he : EvM .sh X e Γ ρ d) : StO X (.Assign [.Name nm p] e pos) Γ ρ (.nx (ρ.set i (some d))) := fun lv B0 H0 B H σ S D q => by
  obtain ⟨h1, h2⟩ := g.st nm hv
  refine of_ps (ps_set (by rw [g.hN]; exact g.nd) (by rw [g.hN]; exact hi) h1 pe_of (plainSw hp) h2) ?_
  exact he lv B0 H0 B H σ S _ fun v B' H' x r => q _ B' H' ((S.grow x).setSh hm r)
/-- x = e, x one's own -/
theorem so_setO (g : Good X N sc k) (hi : N[i]? = some nm) (hv : stS sc nm = true) (hp : plainA e = true) (hm : Γ[i]? = some Md.ow) (he : EvM .ow X e Γ ρ d) : StO X (.Assign [.Name nm p] e pos) Γ ρ (.nx (ρ.set i (some d))) := fun lv B0 H0 B H σ S D q => by
  obtain ⟨h1, h2⟩ := g.st nm hv
  refine of_ps (ps_set (by rw [g.hN]; exact g.nd) (by rw [g.hN]; exact hi) h1 pe_of (plainSw hp) h2) ?_
  refine he lv B0 H0 B H σ S _ fun v B' H' x r => ?_
  obtain ⟨a, rfl, ha, hb, o⟩ := r
  exact q _ B' H' (S.setOw x hm ha hb o)
/-- t = e, t a tuple of names -/
theorem so_tup {ts : List Expr} {kt : Nat} {p2 : Pos} (hg : PG X (.Tuple ts kt p2) (gOf X.K t)) (hsh : shT Γ t = true) (hp : plainA e = true) (hw : swappedStores [.Tuple ts kt p2] e X.env = pure none) (he : EvM .sh X e Γ ρ d) (h : asgT t d ρ = some ρ') : StO X (.Assign [.Tuple ts kt p2] e pos) Γ ρ (.nx ρ') := fun lv B0 H0 B H σ S D q => by
  refine of_ps (ps_asg pe_of hg (by cases e <;> first | rfl | cases hp) hw) ?_
  exact he lv B0 H0 B H σ S _ fun v B' H' x r => asg_ok hsh h (S.grow x) r fun σ' S' _ _ => q σ' B' H' S'
theorem so_drop (hp : plainA e = true) (he : EvM .bo X e Γ ρ d) : StO X (.Expr e pos) Γ ρ (.nx ρ) := fun lv B0 H0 B H σ S D q => by
  refine of_ps (ps_expr pe_of (plainSw hp)) ?_
  exact he lv B0 H0 B H σ S _ fun v B' H' x r => q σ B' H' (S.grow x)
theorem so_ret (he : EvM .sh X e (Γ.map frM) ρ d) : StO X (.Return (some e) pos) Γ ρ (.ret d) := fun lv B0 H0 B H σ S D q => by
  refine of_ps (ps_ret pe_of) ?_
  obtain ⟨B2, eb, S2⟩ := S.freeze
  exact he lv B0 H0 B2 H σ S2 _ fun v B' H' x r => q v B' H' (S2.ext.trans x) r
theorem so_retN : StO X (.Return none pos) Γ ρ (.ret .non) := fun lv B0 H0 B H σ S D q => of_ps ps_retN (q _ B H S.ext .non)
theorem so_pass : StO X (.Pass pos) Γ ρ (.nx ρ) := fun lv B0 H0 B H σ S D q => of_ps ps_pass (q σ B H S)
theorem so_brk : StO X (.Break pos) Γ ρ (.brk ρ) := fun lv B0 H0 B H σ S D q => of_ps ps_break (q σ B H S)
theorem so_cnt : StO X (.Continue pos) Γ ρ (.cnt ρ) := fun lv B0 H0 B H σ S D q => of_ps ps_continue (q σ B H S)
theorem Post.ends {K : PySem.W.Frag} {lv : Nat → Option (V × Bool × Hp)} {B0 H0 : Hp} {D : Ends} (h : Post K Γ lv B0 H0 D o) : Post K Γ lv B0 H0 D o := h
theorem so_if {A1 A2 : List Stmt} {j : Bool} (hc : EvT X c Γ ρ j) (h1 : j = true → StS X A1 Γ ρ o) (h0 : j = false → StS X A2 Γ ρ o) : StO X (.If c A1 A2 pos) Γ ρ o := fun lv B0 H0 B H σ S D q => by
  refine of_ps (ps_if pt_of pss_of pss_of) ?_
  refine hc lv B0 H0 B H σ S _ fun B1 H1 x1 => ?_
  cases j with
  | true => exact iteT (h1 rfl lv B0 H0 B1 H1 σ (S.grow x1) D q)
  | false => exact iteF (h0 rfl lv B0 H0 B1 H1 σ (S.grow x1) D q)
/-- x.append(e) -/
theorem so_app {l : List D} {cpos : Pos} (g : Good X N sc k) (hi : N[i]? = some nm) (hv : visS sc nm = true) (hd : (nm == ("__debug__" : Str)) = false) (hcd : (nm == ("__classdict__" : Str)) = false) (hl : (apos.endLine == cpos.line) = true)
    (hm : Γ[i]? = some Md.ow) (hr : ρ[i]? = some (some (.lst l))) (hz : l.length < lim) (hp : plainE e = true) (he : EvM .sh X e Γ ρ d) : StO X (.Expr (.Call (.Attribute (.Name nm p) "append" apos) [e] [] cpos) pos) Γ ρ (.nx (ρ.set i (some (.lst (l ++ [d]))))) := fun lv B0 H0 B H σ S D q => by
  refine of_ps (ps_expr (pe_bm PySem.F.plainAttrs_list PySem.F.slot_list_append PySem.F.type_list_append mt_append (pe_var (by rw [g.hN]; exact hi) (g.vis nm hv) hd hcd) (pa_cons pe_of pa_nil (star1 hp)) (by rfl) (by rw [star1 hp]; rfl) hl (star1 hp)) (by rfl)) ?_
  obtain ⟨a, ha, h0, hb, o⟩ := S.ow i _ hm hr
  refine ⟨.ref a, ha, ?_⟩
  have key : ∀ {B H : Hp}, Own X.K B H a (.lst l) → ∃ vs, H a = some (.lst vs) ∧ Reps X.K B vs l := fun o => by
    rcases o with ⟨vs, ds, e, h, r⟩ | ⟨_, _, _, e, _⟩
    · cases e; exact ⟨vs, h, r⟩
    · cases e
  obtain ⟨vs0, h0', _⟩ := key o
  refine ⟨.inl ⟨rfl, vs0, SqL.of h0'⟩, ?_⟩
  refine he lv B0 H0 B H σ S _ fun v B' H' x r => ?_
  have S' := S.grow x
  obtain ⟨a', ha', _, hb', o'⟩ := S'.ow i _ hm hr
  rw [ha] at ha'; cases ha'
  obtain ⟨vs, h1, r1⟩ := key o'
  refine ⟨a, vs, v, rfl, rfl, h1, by rw [r1.length]; exact lim_lt hz, ?_⟩
  exact q σ B' _ (S'.mutOw hm hr ha (.inl ⟨_, _, rfl, upd_same, r1.append (.cons r .nil)⟩))
/-- x.extend(e), e a list -/
theorem so_ext {l m : List D} {cpos : Pos} (g : Good X N sc k) (hi : N[i]? = some nm) (hv : visS sc nm = true) (hd : (nm == ("__debug__" : Str)) = false) (hcd : (nm == ("__classdict__" : Str)) = false) (hl : (apos.endLine == cpos.line) = true)
    (hm : Γ[i]? = some Md.ow) (hr : ρ[i]? = some (some (.lst l))) (hz : l.length + m.length ≤ lim) (hp : plainE e = true) (he : EvM .bo X e Γ ρ (.lst m)) : StO X (.Expr (.Call (.Attribute (.Name nm p) "extend" apos) [e] [] cpos) pos) Γ ρ (.nx (ρ.set i (some (.lst (l ++ m))))) := fun lv B0 H0 B H σ S D q => by
  refine of_ps (ps_expr (pe_bm PySem.F.plainAttrs_list PySem.F.slot_list_extend PySem.F.type_list_extend mt_extend (pe_var (by rw [g.hN]; exact hi) (g.vis nm hv) hd hcd) (pa_cons pe_of pa_nil (star1 hp)) (by rfl) (by rw [star1 hp]; rfl) hl (star1 hp)) (by rfl)) ?_
  obtain ⟨a, ha, h0, hb, o⟩ := S.ow i _ hm hr
  refine ⟨.ref a, ha, ?_⟩
  have key : ∀ {B H : Hp}, Own X.K B H a (.lst l) → ∃ vs, H a = some (.lst vs) ∧ Reps X.K B vs l := fun o => by
    rcases o with ⟨vs, ds, e, h, r⟩ | ⟨_, _, _, e, _⟩
    · cases e; exact ⟨vs, h, r⟩
    · cases e
  obtain ⟨vs0, h0', _⟩ := key o
  refine ⟨.inl ⟨rfl, vs0, SqL.of h0'⟩, ?_⟩
  refine he lv B0 H0 B H σ S _ fun v B' H' x r => ?_
  have S' := S.grow x
  obtain ⟨a', ha', _, hb', o'⟩ := S'.ow i _ hm hr
  rw [ha] at ha'; cases ha'
  obtain ⟨vs, h1, r1⟩ := key o'
  obtain ⟨b, ws, rfl, h2, r2⟩ := bor_lst x.bh r
  refine ⟨a, b, vs, ws, rfl, rfl, h1, h2, by rw [r1.length, r2.length]; exact lim_le hz, ?_⟩
  exact q σ B' _ (S'.mutOw hm hr ha (.inl ⟨_, _, rfl, upd_same, r1.append r2⟩))
/-- x[k] = e, x a dict of one's own -/
theorem so_putK {ks : List Key} {ds : List D} {key : Key} (g : Good X N sc k) (hi : N[i]? = some nm) (hv : visS sc nm = true) (hd : (nm == ("__debug__" : Str)) = false) (hcd : (nm == ("__classdict__" : Str)) = false)
    (hm : Γ[i]? = some Md.ow) (hr : ρ[i]? = some (some (.dic ks ds))) (hz : ks.length < lim) (hp : plainA e = true) (hk : keyD y = some key) (he : EvM .sh X e Γ ρ d) (hy : EvM .sh X b Γ ρ y) : StO X (.Assign [.Subscript (.Name nm p) b apos] e pos) Γ ρ (.nx (ρ.set i (some (.dic (putKs key ks) (putD key d ks ds))))) := fun lv B0 H0 B H σ S D q => by
  refine of_ps (ps_dput (by have := g.hu; omega) (pe_var (by rw [g.hN]; exact hi) (g.vis nm hv) hd hcd) pe_of pe_of (plainSw hp)) ?_
  refine he lv B0 H0 B H σ S _ fun v B1 H1 x1 r1 => ?_
  have S1 := S.grow x1
  obtain ⟨a, ha, _, _, _⟩ := S1.ow i _ hm hr
  refine ⟨.ref a, ha, ?_⟩
  refine hy lv B0 H0 B1 H1 σ S1 _ fun w B2 H2 x2 r2 => ?_
  have S2 := S1.grow x2
  obtain ⟨a', ha', _, _, o⟩ := S2.ow i _ hm hr
  rw [ha] at ha'; cases ha'
  rcases o with ⟨_, _, e, _⟩ | ⟨kvs, ks', ds', e, h2, hks, ko, r⟩
  · cases e
  cases e
  have hw : w = kV key := keyD_V (B := B2) (H := H2) hk (.inl r2)
  refine ⟨a, _, rfl, ?_, q σ B2 _ (S2.mutOw hm hr ha (.inr ⟨putK kvs key v, _, _, rfl, upd_same, ?_, ?_, ?_⟩))⟩
  · rw [hw]; exact DPut.k h2 (by rw [← hks, List.length_map] at hz; exact lim_lt hz)
  · exact putK_keys hks
  · intro x hx
    unfold putKs at hx
    split at hx
    · exact ko x hx
    · rcases List.mem_append.mp hx with h | h
      · exact ko x h
      · have : key = .inr x := (List.mem_singleton.mp h).symm
        subst this
        cases y with
        | str s => cases hk; cases r2 with | str _ o => exact o
        | _ => cases hk
  · exact putK_reps hks ((r1.mono x2.bb)) r
end

/-! ### loops -/
section
variable {X : Cx} {N : List Str} {sc : Scope} {k : Nat} {body : List Stmt} {e a b c tg iter : Expr} {Γ : MEnv} {ρ ρ' : DEnv} {l : List D} {out : Out} {t : T} {pos : Pos} {pins : List Nat} {f : DEnv → Option Out}
theorem Post.loop {K : PySem.W.Frag} {lv' : Nat → Option (V × Bool × Hp)} {B1 H1 : Hp} {D : Ends} {Γ' : MEnv} {W : L2.St → Hp → Prop} {o : Out}
    (hn : ∀ ρ, (o = .nx ρ ∨ o = .cnt ρ) → ∀ σ B H, Stt K Γ' lv' B1 H1 B H σ ρ → W σ H) (hb : ∀ ρ, o = .brk ρ → ∀ σ B H, Stt K Γ' lv' B1 H1 B H σ ρ → D.nx σ H) (hr : ∀ d, o = .ret d → ∀ v B H, Ext B1 H1 B H → Rep K B v d → D.rt v H) :
    Post K Γ' lv' B1 H1 { D with nx := W, ct := W, bk := D.nx } o := by
  cases o with
  | nx ρ => exact fun σ B H S => hn ρ (.inl rfl) σ B H S
  | cnt ρ => exact fun σ B H S => hn ρ (.inr rfl) σ B H S
  | brk ρ => exact fun σ B H S => hb ρ rfl σ B H S
  | ret d => exact fun v B H x r => hr d rfl v B H x r
theorem forG_cons {F : D → DEnv → Option Out} {x : D} {xs : List D} {ρ : DEnv} {out : Out} (h : forG F (x :: xs) ρ = some out) : ∃ o, F x ρ = some o ∧ (∀ ρ', o = .nx ρ' ∨ o = .cnt ρ' → forG F xs ρ' = some out) ∧ (∀ ρ', o = .brk ρ' → out = .nx ρ') ∧ (∀ d, o = .ret d → out = .ret d) := by
  simp only [forG] at h
  obtain ⟨o, h1, h2⟩ := Option.bind_eq_some_iff.mp h
  refine ⟨o, h1, fun ρ' e => ?_, fun ρ' e => ?_, fun d e => ?_⟩
  · rcases e with rfl | rfl <;> exact h2
  · subst e; cases h2; rfl
  · subst e; cases h2; rfl
theorem so_for (g : Good X N sc k) (hpl : plainE iter = true) (hpo : PassesOwn (model X.prog X.w) X.A X.env X.xe) (hi : EvI true X tg iter (pinM pins Γ) ρ l) (hg : PG X tg (gOf X.K t)) (hsh : shT (pinM pins Γ) t = true)
    (hb : ∀ ρ2 o, f ρ2 = some o → StS X body (pinM pins Γ) ρ2 o) (hr : forG (fun x ρ => (asgT t x ρ).bind f) l ρ = some out) : StO X (.For tg iter body [] pos) Γ ρ out := by
  obtain ⟨hl, wi, hpi, hwi⟩ := hi
  intro lv B0 H0 B H σ S D q
  refine of_ps (ps_for hpo g.calm hpi hg pss_of (plainFold hpl)) ?_
  obtain ⟨lv1, H1, e01, eb1, e1, S1, back1⟩ := S.pin pins
  refine hwi lv1 B H1 B H σ S1 _ fun J B2 H2 x2 hw => ?_
  -- once more: what the walk itself has frozen
  obtain ⟨lv3, H3, e13, eb3, e3, S3, back3⟩ := (S1.grow x2).pin []
  have hpn : pinM [] (pinM pins Γ) = pinM pins Γ := by
    unfold pinM
    apply List.ext_getElem?
    intro i
    rw [List.getElem?_mapIdx]
    cases h : (List.mapIdx (fun i m => if i ∈ pins ∧ m = Md.ow then Md.bo else m) Γ)[i]? <;> simp
  rw [hpn] at S3 back3
  have W1 := hw H3 e13 eb3
  have fin : ∀ B' H' σ' ρ', Stt X.K (pinM pins Γ) lv3 B2 H3 B' H' σ' ρ' → Stt X.K Γ lv B0 H0 B' H' σ' ρ' := fun B' H' σ' ρ' S' => back1 B' H' σ' ρ' (back3 B' H' σ' ρ' S')
  have finR : ∀ {v : V} {B' H' : Hp} {d : DL.D}, Ext B2 H3 B' H' → Rep X.K B' v d → out = .ret d → D.rt v H' := fun {v B' H' d} x r e => by
    subst e
    refine q v B' H' ⟨(e01.trans e13).trans x.hh, (S.ext.bb.trans x2.bb).trans x.bb, x.bh, fun a h1 h2 => ?_⟩ r
    have h3 : H1 a ≠ none := fun z => h1 (e01.back z)
    have h4 : B a = none := S.ext.sep a h1 h2
    have h5 : B2 a = none := x2.sep a (fun z => h3 (e1.back z)) h4
    exact x.sep a (fun z => h3 (e13.back z)) h5
  refine ⟨fun i m σ' H' => m = l.length - i ∧ i ≤ l.length ∧ ∃ B' ρ', Stt X.K (pinM pins Γ) lv3 B2 H3 B' H' σ' ρ' ∧ forG (fun x ρ => (asgT t x ρ).bind f) (l.drop i) ρ' = some out,
    ⟨l.length, by omega, by omega, B2, ρ, S3, by rw [List.drop_zero]; exact hr⟩, ?_⟩
  rintro i m σ' H' ⟨rfl, hil, B', ρ', S', hrun⟩
  obtain ⟨w1, w2⟩ := W1 B' H' S'.ext i
  by_cases hlt : i < l.length
  · right
    obtain ⟨w3, w4⟩ := w1 hlt
    refine ⟨w3, _, fun σ2 H2' hN => ⟨l.length - (i + 1), by omega, hN⟩, fun x H4 hy => ?_⟩
    obtain ⟨B4, d, x4, hd, rd⟩ := w4 x H4 hy
    have hdrop : l.drop i = d :: l.drop (i + 1) := by
      rw [List.drop_eq_getElem_cons hlt]
      rw [List.getElem?_eq_getElem hlt] at hd
      cases hd; rfl
    rw [hdrop] at hrun
    obtain ⟨o, ho, c1, c2, c3⟩ := forG_cons hrun
    obtain ⟨ρ5, ha, hfo⟩ := Option.bind_eq_some_iff.mp ho
    refine asg_ok hsh ha (S'.grow x4) rd fun σ5 S5 _ _ => ?_
    refine hb ρ5 o hfo lv3 B2 H3 B4 H4 σ5 S5 _ (Post.loop (fun ρ6 e σ6 B6 H6 S6 => ?_) (fun ρ6 e σ6 B6 H6 S6 => ?_) fun d e v B6 H6 x6 r6 => ?_)
    · exact ⟨rfl, by omega, B6, ρ6, S6, c1 ρ6 e⟩
    · have := c2 ρ6 e
      subst this
      exact q σ6 B6 H6 (fin _ _ _ _ S6)
    · exact finR x6 r6 (c3 d e)
  · left
    have hi' : i = l.length := by omega
    subst hi'
    refine ⟨w2 (Nat.le_refl _), ?_⟩
    rw [List.drop_length] at hrun
    simp only [forG, Option.some.injEq] at hrun
    subst hrun
    exact q σ' B' H' (fin _ _ _ _ S')
theorem whileG_succ {t : DEnv → Option Bool} {f : DEnv → Option Out} {n : Nat} {ρ : DEnv} {out : Out} (h : whileG t f (n + 1) ρ = some out) : ∃ b, t ρ = some b ∧ (b = false → out = .nx ρ) ∧ (b = true → ∃ o, f ρ = some o ∧ (∀ ρ', o = .nx ρ' ∨ o = .cnt ρ' → whileG t f n ρ' = some out) ∧ (∀ ρ', o = .brk ρ' → out = .nx ρ') ∧ (∀ d, o = .ret d → out = .ret d)) := by
  simp only [whileG] at h
  obtain ⟨b, h1, h2⟩ := Option.bind_eq_some_iff.mp h
  refine ⟨b, h1, fun e => ?_, fun e => ?_⟩
  · subst e; cases h2; rfl
  · subst e
    have h2 : (f ρ).bind _ = some out := h2
    obtain ⟨o, h3, h4⟩ := Option.bind_eq_some_iff.mp h2
    refine ⟨o, h3, fun ρ' e => ?_, fun ρ' e => ?_, fun d e => ?_⟩
    · rcases e with rfl | rfl <;> exact h4
    · subst e; cases h4; rfl
    · subst e; cases h4; rfl
theorem so_while {tt : DEnv → Option Bool} {n : Nat} (hpo : PassesOwn (model X.prog X.w) X.A X.env X.xe) (hc : ∀ ρ2 j, tt ρ2 = some j → EvT X c Γ ρ2 j) (hb : ∀ ρ2 o, f ρ2 = some o → StS X body Γ ρ2 o) (hr : whileG tt f n ρ = some out) : StO X (.While c body [] pos) Γ ρ out := by
  intro lv B0 H0 B H σ S D q
  refine of_ps (ps_while hpo pt_of pss_of) ?_
  refine ⟨fun m σ' H' => ∃ B' ρ', Stt X.K Γ lv B0 H0 B' H' σ' ρ' ∧ whileG tt f m ρ' = some out, ⟨n, B, ρ, S, hr⟩, ?_⟩
  rintro m σ' H' ⟨B', ρ', S', hrun⟩
  cases m with
  | zero => simp [whileG] at hrun
  | succ m =>
    obtain ⟨j, h1, h2, h3⟩ := whileG_succ hrun
    refine hc ρ' j h1 lv B0 H0 B' H' σ' S' _ fun B1 H1 x1 => ?_
    cases j with
    | false =>
      have := h2 rfl
      subst this
      exact iteF (q σ' B1 H1 (S'.grow x1))
    | true =>
      obtain ⟨o, ho, c1, c2, c3⟩ := h3 rfl
      refine iteT ⟨fun σ2 H2 => ∃ B' ρ', Stt X.K Γ lv B0 H0 B' H2 σ2 ρ' ∧ whileG tt f m ρ' = some out, fun σ2 H2 hN => ⟨m, Nat.lt_succ_self m, hN⟩, ?_⟩
      refine hb ρ' o ho lv B0 H0 B1 H1 σ' (S'.grow x1) _ (Post.loop (fun ρ6 e σ6 B6 H6 S6 => ?_) (fun ρ6 e σ6 B6 H6 S6 => ?_) fun d e v B6 H6 x6 r6 => ?_)
      · exact ⟨B6, ρ6, S6, c1 ρ6 e⟩
      · have := c2 ρ6 e
        subst this
        exact q σ6 B6 H6 S6
      · have := c3 d e
        subst this
        exact q v B6 H6 x6 r6
end
end DL

set_option Elab.async false
set_option linter.all false
set_option maxRecDepth 100000
set_option maxHeartbeats 4000000
namespace DL
open PySem PySem.Spec L2

/-! ### zip -/
theorem zip_len {l m : List D} : ((l.zip m).map fun p => D.tup [p.1, p.2]).length = min l.length m.length := by simp
theorem zip_at {l m : List D} {i : Nat} {d e : D} (h1 : l[i]? = some d) (h2 : m[i]? = some e) : ((l.zip m).map fun p => D.tup [p.1, p.2])[i]? = some (.tup [d, e]) := by
  rw [List.getElem?_map, (List.getElem?_zip_eq_some (z := (d, e))).mpr ⟨h1, h2⟩]; rfl
theorem walks_zipT {K : PySem.W.Frag} {Bs Hs : Hp} {a b : Addr} {vs ws : List V} {l m : List D} (ha : SqT K Hs a vs) (hb : SqT K Hs b ws) (ra : Reps K Bs vs l) (rb : Reps K Bs ws m) : Walks K (RZ.ItzT K a b) Bs Hs ((l.zip m).map fun p => .tup [p.1, p.2]) := fun B H x i => by
  have ha' := sqT_ex x.hh ha
  have hb' := sqT_ex x.hh hb
  rw [zip_len]
  refine ⟨fun hi => ?_, fun hi => ⟨vs, ws, ha', hb', by rw [ra.length, rb.length]; omega⟩⟩
  have hi1 : i < vs.length := by rw [ra.length]; omega
  have hi2 : i < ws.length := by rw [rb.length]; omega
  refine ⟨⟨vs, ws, vs[i], ws[i], ha', hb', List.getElem?_eq_getElem hi1, List.getElem?_eq_getElem hi2⟩, ?_⟩
  rintro y H' ⟨T, v, w, rfl, hT, rfl, h1, h2⟩
  obtain ⟨d, e1, r1⟩ := ra.get (h1 vs ha')
  obtain ⟨e, e2, r2⟩ := rb.get (h2 ws hb')
  exact ⟨_, _, .new x.bh hT, zip_at e1 e2, .tup (SqT.of upd_same) (.cons ((r1.mono x.bb).mono (.new (x.bh.back hT))) (.cons ((r2.mono x.bb).mono (.new (x.bh.back hT))) .nil))⟩
theorem walks_zipL {K : PySem.W.Frag} {Bs Hs : Hp} {a b : Addr} {vs ws : List V} {l m : List D} (ha : SqL K Hs a vs) (hb : SqL K Hs b ws) (ra : Reps K Bs vs l) (rb : Reps K Bs ws m) : Walks K (Itz K a b) Bs Hs ((l.zip m).map fun p => .tup [p.1, p.2]) := fun B H x i => by
  have ha' := sqL_ex x.hh ha
  have hb' := sqL_ex x.hh hb
  rw [zip_len]
  refine ⟨fun hi => ?_, fun hi => ⟨vs, ws, ha', hb', by rw [ra.length, rb.length]; omega⟩⟩
  have hi1 : i < vs.length := by rw [ra.length]; omega
  have hi2 : i < ws.length := by rw [rb.length]; omega
  refine ⟨⟨vs, ws, vs[i], ws[i], ha', hb', List.getElem?_eq_getElem hi1, List.getElem?_eq_getElem hi2⟩, ?_⟩
  rintro y H' ⟨T, v, w, rfl, hT, rfl, h1, h2⟩
  obtain ⟨d, e1, r1⟩ := ra.get (h1 vs ha')
  obtain ⟨e, e2, r2⟩ := rb.get (h2 ws hb')
  exact ⟨_, _, .new x.bh hT, zip_at e1 e2, .tup (SqT.of upd_same) (.cons ((r1.mono x.bb).mono (.new (x.bh.back hT))) (.cons ((r2.mono x.bb).mono (.new (x.bh.back hT))) .nil))⟩
section
variable {X : Cx} {N : List Str} {sc : Scope} {k : Nat} {e a b c : Expr} {Γ : MEnv} {ρ : DEnv} {d x y : D} {l : List D} {z : Bool} {pos apos p tpos : Pos} {elts : List Expr} {kk : Nat}
theorem ei_zipT {l m : List D} (g : Good X N sc k) (hm : X.mg "zip" = none) (hg : glS sc "zip" = true) (hp : plainE a = true) (hp2 : plainE b = true) (hl : ((l.zip m).map fun p => D.tup [p.1, p.2]).length ≤ sizeLine) (h1 : EvM .bo X a Γ ρ (.tup l)) (h2 : EvM .bo X b Γ ρ (.tup m)) :
    EvI z X (.Tuple elts kk tpos) (.Call (.Name "zip" p) [a, b] [] pos) Γ ρ ((l.zip m).map fun p => .tup [p.1, p.2]) := by
  refine ⟨hl, _, RZ.pi_zipA (g.gl _ hg) hm pa_of (star1 hp) (by rw [star1 hp2]; rfl), fun lv B0 H0 B H σ S R q => ?_⟩
  refine ea_cons hp (by decide) h1 (ea_cons hp2 (by decide) h2 ea_nil) lv B0 H0 B H σ S _ fun vs B' H' x r => ?_
  cases r with
  | cons r1 r2 =>
    cases r2 with
    | cons r2 r3 =>
      cases r3
      obtain ⟨a', vs, rfl, ha, ra⟩ := bor_tup r1
      obtain ⟨b', ws, rfl, hb, rb⟩ := bor_tup r2
      exact ⟨a', b', vs, ws, rfl, .inr ⟨sqT_ex x.bh ha, sqT_ex x.bh hb, q _ B' H' x fun Hs _ e2 => walks_zipT (sqT_ex e2 ha) (sqT_ex e2 hb) ra rb⟩⟩
end

/-! ### a dict comprehension -/
section
variable {X : Cx} {N : List Str} {sc scope : Scope} {k : Nat} {own : List (Str × Nat)} {kx vx tg iter : Expr} {ifs : List Expr} {Γ : MEnv} {ρ : DEnv} {t : T} {l : List D} {pos : Pos} {f : D → Option (Option (Key × D))} {rk : List Key} {rd : List D}
theorem putKs_len (key : Key) (ks : List Key) : (putKs key ks).length ≤ ks.length + 1 := by unfold putKs; split <;> simp
theorem putKs_ok {key : Key} {ks : List Key} (ko : KsOk ks) (h : ∀ x, key = .inr x → okS x) : KsOk (putKs key ks) := by
  intro x hx
  unfold putKs at hx
  split at hx
  · exact ko x hx
  · rcases List.mem_append.mp hx with q | q
    · exact ko x q
    · exact h x (List.mem_singleton.mp q).symm
theorem key_ok {K : PySem.W.Frag} {B : Hp} {v : V} {d : D} {key : Key} (hk : keyD d = some key) (r : Rep K B v d) : ∀ x, key = .inr x → okS x := by
  intro x e
  subst e
  cases d with
  | str s => cases hk; cases r with | str _ o => exact o
  | _ => cases hk
theorem dc_read {wi : TI} (hl : l.length ≤ sizeLine) (hif : ifs.length ≤ 1)
    (hwi : ∀ lv B0 H0 B H σ, Stt X.K Γ lv B0 H0 B H σ ρ → ∀ R : It → Hp → Prop, (∀ J B' H', Ext B H B' H' → (∀ Hs, (if false = true then Ex H0 Hs else Ex H' Hs) → Ex B' Hs → Walks X.K J B' Hs l) → R J H') → wi σ H R)
    (hs : shT Γ t = true) (hin : ∀ i ∈ slT t, i ∈ own.map (·.2))
    (hf : ∀ x ∈ l, ∀ o, f x = some o → ∃ ρ' j, asgT t x (wipeD ρ (own.map (·.2))) = some ρ' ∧ (ifs = [] → j = true) ∧ (∀ (s : Shared) (H : Hp) (C : Addr) (cl : List (Str × Addr)) (fp : List Addr), EvTs (X.blk s H scope (compEnvC scope cl C X.env) fp) ifs Γ ρ' j) ∧
      (j = false → o = none) ∧ (j = true → ∃ key y kd, o = some (key, y) ∧ keyD kd = some key ∧ (∀ (s : Shared) (H : Hp) (C : Addr) (cl : List (Str × Addr)) (fp : List Addr), EvM .sh (X.blk s H scope (compEnvC scope cl C X.env) fp) kx Γ ρ' kd) ∧ ∀ (s : Shared) (H : Hp) (C : Addr) (cl : List (Str × Addr)) (fp : List Addr), EvM .sh (X.blk s H scope (compEnvC scope cl C X.env) fp) vx Γ ρ' y))
    (hr : dcG f l [] [] = some (rk, rd)) : ∀ lv B0 H0 B H σ, Stt X.K Γ lv B0 H0 B H σ ρ → ∀ Q : VK, (∀ v B' H', Ext B H B' H' → RM X.K .ow H B' H' v (.dic rk rd) → Q v H') → tDc wi (gOf X.K t) (tTBlk X scope ifs) (tBlk X scope kx) (tBlk X scope vx) (own.map (·.2)) σ H Q := by
  intro lv B0 H0 B H σ S Q q
  show wi σ H fun J H1 => _
  refine hwi lv B0 H0 B H σ S _ fun J B1 H1 x1 hw => ?_
  have W1 := hw H1 (.refl _) x1.bh
  intro Dl hD
  let Inv' : Nat → Hp → Prop := fun i H' => i ≤ l.length ∧ ∃ B' kvs ks ds, Ext B1 H1 B' H' ∧ B' Dl = none ∧ H' Dl = some (.dK kvs) ∧ kvs.map (·.1) = ks ∧ KsOk ks ∧ Reps X.K B' (kvs.map (·.2)) ds ∧ dcG f (l.drop i) ks ds = some (rk, rd) ∧ kvs.length ≤ i
  refine ⟨fun i m H' => m = l.length - i ∧ Inv' i H', ⟨l.length, by omega, by omega, B1, [], [], [], .own x1.bh hD, x1.bh.back hD, upd_same, rfl, (fun x hx => by cases hx), .nil, by rw [List.drop_zero]; exact hr, Nat.le_refl _⟩, ?_⟩
  rintro i m H' ⟨rfl, hil, B', kvs, ks, ds, x2, b2, h2, hks, ko, r2, hrest, hacc⟩
  obtain ⟨w1, w2⟩ := W1 B' H' x2 i
  by_cases hlt : i < l.length
  · right
    obtain ⟨w3, w4⟩ := w1 hlt
    refine ⟨w3, Inv' (i + 1), fun H'' hN => ⟨l.length - (i + 1), by omega, rfl, hN⟩, fun x H2 hy => ?_⟩
    obtain ⟨B2, d, x3, hd, rd'⟩ := w4 x H2 hy
    have hdrop : l.drop i = d :: l.drop (i + 1) := by
      rw [List.drop_eq_getElem_cons hlt]
      rw [List.getElem?_eq_getElem hlt] at hd
      cases hd; rfl
    rw [hdrop] at hrest
    simp only [dcG] at hrest
    obtain ⟨o, ho, hrest⟩ := Option.bind_eq_some_iff.mp hrest
    obtain ⟨ρ', j, ha, hn, ht, h0, h1⟩ := hf d (List.mem_of_getElem? hd) o ho
    have S2 : Stt X.K Γ lv B0 H0 B2 H2 (wipe σ (own.map (·.2))) (wipeD ρ (own.map (·.2))) := (S.grow ((x1.trans x2).trans x3)).wiped
    have hH2 : H2 Dl = some (.dK kvs) := x3.hh _ _ h2
    have hB2 : B2 Dl = none := x3.sep Dl (by rw [h2]; simp) b2
    refine asg_ok hs ha S2 rd' fun σ' S' k' l' => ⟨?_, ?_⟩
    · rw [wipe_eq (σ := wipe σ (own.map (·.2))) (fun z hz => k' z fun hz' => hz (hin z hz')) l', wipe_wipe]
    · have fin : ∀ B3 H3, Ext B2 H2 B3 H3 → (if j = true then tBlk X scope kx σ' H3 fun y H4 => tBlk X scope vx σ' H4 fun z H5 => ∃ kvs k, y = kV k ∧ H5 Dl = some (.dK kvs) ∧ kvs.length < sizeLine ∧ Inv' (i + 1) (upd H5 Dl (.dK (putK kvs k z))) else Inv' (i + 1) H3) := fun B3 H3 x4 => by
        have hH3 : H3 Dl = some (.dK kvs) := x4.hh _ _ hH2
        have hB3 : B3 Dl = none := x4.sep Dl (by rw [hH2]; simp) hB2
        cases j with
        | false =>
          have := h0 rfl
          subst this
          exact iteF ⟨by omega, B3, kvs, ks, ds, (x2.trans x3).trans x4, hB3, hH3, hks, ko, (r2.mono x3.bb).mono x4.bb, hrest, by omega⟩
        | true =>
          obtain ⟨key, y, kd, rfl, hkd, hk, hy⟩ := h1 rfl
          refine iteT fun s0 Hh0 C cl fp => hk s0 Hh0 C cl fp lv B0 H0 B3 H3 σ' (S'.grow x4) _ fun v B4 H4 x5 r5 => ?_
          intro s0 Hh0 C cl fp
          refine hy s0 Hh0 C cl fp lv B0 H0 B4 H4 σ' ((S'.grow x4).grow x5) _ fun u B5 H5 x6 r6 => ?_
          have hH5 : H5 Dl = some (.dK kvs) := x6.hh _ _ (x5.hh _ _ hH3)
          have hB5 : B5 Dl = none := x6.sep Dl (by rw [x5.hh _ _ hH3]; simp) (x5.sep Dl (by rw [hH3]; simp) hB3)
          have xx := (x2.trans x3).trans ((x4.trans x5).trans x6)
          have hkv : v = kV key := keyD_V (B := B4) (H := H4) hkd (.inl r5)
          refine ⟨kvs, key, hkv, hH5, by omega, by omega, B5, putK kvs key u, putKs key ks, putD key y ks ds, ⟨fun a w ha => ?_, xx.bb, fun a w ha => ?_, xx.sep⟩, hB5, upd_same, putK_keys hks, putKs_ok ko (key_ok hkd r5), putK_reps hks r6 ((((r2.mono x3.bb).mono x4.bb).mono x5.bb).mono x6.bb), hrest, ?_⟩
          · rw [upd_ne (ne_of_none ha hD)]; exact xx.hh a w ha
          · rw [upd_ne (ne_of_none ha hB5)]; exact xx.bh a w ha
          · have h1 := congrArg List.length (putK_keys (v := u) (key := key) hks)
            rw [List.length_map] at h1
            have h2 := putKs_len key ks
            have h3 : ks.length = kvs.length := by rw [← hks, List.length_map]
            omega
      match ifs, ht, hif, hn with
      | [], ht, _, hn =>
        have : j = true := hn rfl
        subst this
        exact fin B2 H2 (.refl x3.bh)
      | [c], ht, _, _ => exact fun s0 Hh0 C cl fp => ht s0 Hh0 C cl fp lv B0 H0 B2 H2 σ' S' _ fun B3 H3 x4 => fin B3 H3 x4
  · left
    have hi' : i = l.length := by omega
    subst hi'
    refine ⟨w2 (Nat.le_refl _), ?_⟩
    rw [List.drop_length] at hrest
    simp only [dcG, Option.some.injEq, Prod.mk.injEq] at hrest
    obtain ⟨rfl, rfl⟩ := hrest
    exact q _ B' H' (x1.trans x2) ⟨Dl, rfl, x1.hh.back hD, b2, .inr ⟨kvs, _, _, rfl, h2, hks, ko, r2⟩⟩
theorem ev_dc (g : Good X N sc k) (hb : blkC N sc scope own = true) (hpl : plainE iter = true) (hif : ifs.length ≤ 1) (hi : EvI false X tg iter Γ ρ l)
    (hg : ∀ (s : Shared) (H : Hp) (C : Addr) (cl : List (Str × Addr)) (fp : List Addr), PG (X.blk s H scope (compEnvC scope cl C X.env) fp) tg (gOf X.K t)) (hs : shT Γ t = true) (hin : ∀ i ∈ slT t, i ∈ own.map (·.2))
    (hf : ∀ x ∈ l, ∀ o, f x = some o → ∃ ρ' j, asgT t x (wipeD ρ (own.map (·.2))) = some ρ' ∧ (ifs = [] → j = true) ∧ (∀ (s : Shared) (H : Hp) (C : Addr) (cl : List (Str × Addr)) (fp : List Addr), EvTs (X.blk s H scope (compEnvC scope cl C X.env) fp) ifs Γ ρ' j) ∧
      (j = false → o = none) ∧ (j = true → ∃ key y kd, o = some (key, y) ∧ keyD kd = some key ∧ (∀ (s : Shared) (H : Hp) (C : Addr) (cl : List (Str × Addr)) (fp : List Addr), EvM .sh (X.blk s H scope (compEnvC scope cl C X.env) fp) kx Γ ρ' kd) ∧ ∀ (s : Shared) (H : Hp) (C : Addr) (cl : List (Str × Addr)) (fp : List Addr), EvM .sh (X.blk s H scope (compEnvC scope cl C X.env) fp) vx Γ ρ' y))
    (hr : dcG f l [] [] = some (rk, rd)) : EvM .ow X (.DictComp kx vx [⟨tg, iter, ifs, 0⟩] scope pos) Γ ρ (.dic rk rd) := by
  obtain ⟨hl, wi, hpi, hwi⟩ := hi
  intro lv B0 H0 B H σ S Q q
  exact of_pe (pe_dc g.calm (by rw [g.hN]; exact g.nd) hpi (g.blkOk hb) hg (pts_of hif) pe_blk pe_blk (plainFold hpl)) (dc_read hl hif hwi hs hin hf hr lv B0 H0 B H σ S Q q)
/-- y = {..} where the target's store stands within the comprehension's frame -/
theorem ps_setDc {i : Nat} {y : Str} {py spos : Pos} {wi : TI} {g : TG} {tt : TT} {tk tv : TE} (hc : X.calm = true) (hN : X.N.Nodup) (hy : X.N[i]? = some y) (hyl : X.env.scope.names.lookup y = some .local)
    (hsw : swapsWith (.DictComp kx vx [⟨tg, iter, ifs, 0⟩] scope pos) (some (.Name y py)) spos.line X.env = pure true) (hi : PI X tg iter wi) (ok : BlkOk X.N X.env.scope scope own)
    (hg : ∀ (s : Shared) (H : Hp) (C : Addr) (cl : List (Str × Addr)) (fp : List Addr), PG (X.blk s H scope (compEnvC scope cl C X.env) fp) tg g) (ht : ∀ (s : Shared) (H : Hp) (C : Addr) (cl : List (Str × Addr)) (fp : List Addr), PTs (X.blk s H scope (compEnvC scope cl C X.env) fp) ifs tt)
    (hk : ∀ (s : Shared) (H : Hp) (C : Addr) (cl : List (Str × Addr)) (fp : List Addr), PE (X.blk s H scope (compEnvC scope cl C X.env) fp) kx tk)
    (he : ∀ (s : Shared) (H : Hp) (C : Addr) (cl : List (Str × Addr)) (fp : List Addr), PE (X.blk s H scope (compEnvC scope cl C X.env) fp) vx tv) (hs : ∀ x, foldedSetIterable iter X.env x = pure x) :
    PS X (.Assign [.Name y py] (.DictComp kx vx [⟨tg, iter, ifs, 0⟩] scope pos) spos) (tAsg (tDc wi g tt tk tv (own.map (·.2))) (gName i)) := by
  refine ⟨fun pins s σ H D I h => ?_⟩
  rw [exec_Assign_Name_used _ _ _ _ hsw]
  refine wpAny_bind (wpAny_standAt (wpAny_bind ?_))
  show wpAny _ X.A (do let _ ← comprehension (.DictComp kx vx [⟨tg, iter, ifs, 0⟩] scope pos) scope X.env (firstIterPos [⟨tg, iter, ifs, 0⟩] pos) newDict false (eval iter X.env) (some (assign (.Name y py) X.env))) _ _ s
  have h : tDc wi g tt tk tv (own.map (·.2)) σ H (fun x H1 => gName i x σ H1 D.nx) := h
  refine wpAny_bind (thn (dc_core (Qf := fun _ s' => SP X pins D .next s') hc hN I hi ok hg ht hk he hs h fun L C s' m H' I' q hn f => ?_) fun _ s' hq => wpAny_pure (wpAny_pure hq))
  show wpAny _ _ (assign (.Name y py) X.env (.ref L)) _ _ _
  refine wpAny_assign_Name (store_ok2 (v := V.ref L) I' hN hy (.inl hyl) rfl (fun s2 I2 ⟨a, sb, ha⟩ => ?_) (.inr hyl))
  obtain ⟨f0, f1, f2, f3, f4, f5⟩ := f
  have haC : C ≠ a := by
    rcases ha with z | z
    · rw [z]; exact f1
    · exact fun e => f4 y a z e.symm
  refine ⟨m, hn.sameBut sb haC, fun h3 sb3 => ?_⟩
  exact ⟨_, H', I2.turned (t' := s2.toks) (fun b o hb e => (sb3.2 b hb).trans e) f0 f1 f3 f4 f5, q⟩
end
/-! ### list.index, a list's item stored -/
theorem toPys_at : ∀ {l : List D} {j : Nat} {d : D}, l[j]? = some d → (toPys l)[j]? = some (toPy d)
  | [], _, _, h => by simp at h
  | x :: xs, 0, d, h => by simp at h; subst h; simp [toPys]
  | x :: xs, j + 1, d, h => by simpa [toPys] using toPys_at (l := xs) (j := j) (by simpa using h)
theorem toPys_of : ∀ {l : List D} {j : Nat} {z : PyData}, (toPys l)[j]? = some z → ∃ d, l[j]? = some d ∧ z = toPy d
  | [], _, _, h => by simp [toPys] at h
  | x :: xs, 0, z, h => by simp [toPys] at h; exact ⟨x, rfl, h.symm⟩
  | x :: xs, j + 1, z, h => by
    obtain ⟨d, h1, h2⟩ := toPys_of (l := xs) (j := j) (by simpa [toPys] using h)
    exact ⟨d, by simpa using h1, h2⟩
theorem indexD_at {y : D} : ∀ {l : List D} {i j : Nat}, indexD y l i = some j → i ≤ j ∧ (∃ x, l[j - i]? = some x ∧ eqv x y = true) ∧ ∀ m x, m < j - i → l[m]? = some x → eqv x y = false
  | [], _, _, h => by simp [indexD] at h
  | x :: xs, i, j, h => by
    simp only [indexD] at h
    split at h
    · rename_i e; cases h
      exact ⟨Nat.le_refl _, ⟨x, by simp, e⟩, fun m x hm => by omega⟩
    · rename_i e
      obtain ⟨h1, ⟨z, h2, h3⟩, h4⟩ := indexD_at h
      refine ⟨by omega, ⟨z, by rw [show j - i = (j - (i + 1)) + 1 by omega]; simpa using h2, h3⟩, fun m w hm hw => ?_⟩
      cases m with
      | zero => simp at hw; subst hw; simpa using e
      | succ m => exact h4 m w (by omega) (by simpa using hw)
theorem dOks_get {n : Nat} : ∀ {l : List D} {j : Nat} {d : D}, dOks n l = true → l[j]? = some d → dOk n d = true
  | [], _, _, _, h => by simp at h
  | x :: xs, 0, d, h0, h => by simp only [dOks, Bool.and_eq_true] at h0; simp at h; subst h; exact h0.1
  | x :: xs, j + 1, d, h0, h => by simp only [dOks, Bool.and_eq_true] at h0; exact dOks_get h0.2 (by simpa using h)
section
variable {X : Cx} {N : List Str} {sc : Scope} {k : Nat} {e a b c : Expr} {Γ : MEnv} {ρ : DEnv} {d x y : D} {l : List D} {pos apos p cpos : Pos} {nm : Str} {i : Nat}
theorem ev_index (g : Good X N sc k) (hb : plainB a = true) (hp : plainE b = true) (hl : (apos.endLine == pos.line) = true) (h : op2D .index (.lst l) y = some d) (ha : EvM .bo X a Γ ρ (.lst l)) (hb' : EvM .bo X b Γ ρ y) : EvM .sh X (.Call (.Attribute a "index" apos) [b] [] pos) Γ ρ d := fun lv B0 H0 B H σ S Q q => by
  simp only [op2D] at h
  split at h
  · rename_i hk
    simp only [Bool.and_eq_true] at hk
    obtain ⟨j, hj, rfl⟩ := Option.map_eq_some_iff.mp h
    obtain ⟨_, ⟨z, hz, hq⟩, hn⟩ := indexD_at hj
    rw [Nat.sub_zero] at hz hn
    have hk2 : dOks 59 l = true := by simpa [dOk] using hk.2
    refine of_pe (pe_bm PySem.F.plainAttrs_list PySem.F.slot_list_index PySem.F.type_list_index (mt_indexD g.hu) pe_of (pa_cons pe_of pa_nil (star1 hp)) (plainBase hb) (by rw [star1 hp]; rfl) hl (star1 hp)) ?_
    refine ha lv B0 H0 B H σ S _ fun v1 B1 H1 x1 r1 => ?_
    obtain ⟨p1, vs, rfl, hv, _⟩ := bor_lst x1.bh r1
    refine ⟨.inl ⟨rfl, vs, SqL.of hv⟩, ?_⟩
    refine hb' lv B0 H0 B1 H1 σ (S.grow x1) _ fun v2 B2 H2 x2 r2 => ?_
    obtain ⟨d1, s1⟩ := bor_dp (K := X.K) x2.bh (by decide) hk.2 (Bor.mono x2.bb x2.hh r1)
    obtain ⟨d2, s2⟩ := bor_dp (K := X.K) x2.bh (by decide) hk.1 r2
    simp only [toPy] at d1 s1
    refine ⟨p1, v2, _, _, j, toPy z, rfl, rfl, d1, d2, s1, s2, toPys_at hz, ?_, fun m z' hm hz' => ?_, q _ B2 H2 (x1.trans x2) (.int _)⟩
    · rw [eqv_py 59 60 z y (dOks_get hk2 hz) hk.1]; exact hq
    · obtain ⟨w, hw, rfl⟩ := toPys_of hz'
      rw [eqv_py 59 60 w y (dOks_get hk2 hw) hk.1]; exact hn m w hm hw
  · cases h
/-- x[k] = e, x a list of one's own -/
theorem so_seti {j : Nat} {z : Int} (g : Good X N sc k) (hi : N[i]? = some nm) (hv : visS sc nm = true) (hd : (nm == ("__debug__" : Str)) = false) (hcd : (nm == ("__classdict__" : Str)) = false)
    (hm : Γ[i]? = some Md.ow) (hr : ρ[i]? = some (some (.lst l))) (hp : plainA e = true) (hpb : plainE b = true) (hj : ixN l.length z = some j) (he : EvM .sh X e Γ ρ d) (hy : EvM .bo X b Γ ρ (.int z)) : StO X (.Assign [.Subscript (.Name nm p) b apos] e pos) Γ ρ (.nx (ρ.set i (some (.lst (l.set j d))))) := fun lv B0 H0 B H σ S D q => by
  have pv1 : PE X (.Name nm p) (tVar i) := pe_var (by rw [g.hN]; exact hi) (g.vis nm hv) hd hcd
  have pgs : PG X (.Subscript (.Name nm p) b apos) (gSub (tVar i) (tOf X b) rSetL) := by
    cases b <;> first | exact pg_sub pv1 pe_of set_list | cases hpb
  refine of_ps (ps_asg (tg := .Subscript (.Name nm p) b apos) pe_of pgs (by cases e <;> first | rfl | cases hp) (by rfl)) ?_
  refine he lv B0 H0 B H σ S _ fun v B1 H1 x1 r1 => ?_
  have S1 := S.grow x1
  obtain ⟨a, ha, _, _, _⟩ := S1.ow i _ hm hr
  refine ⟨.ref a, ha, ?_⟩
  refine hy lv B0 H0 B1 H1 σ S1 _ fun w B2 H2 x2 r2 => ?_
  have S2 := S1.grow x2
  obtain ⟨a', ha', _, _, o⟩ := S2.ow i _ hm hr
  rw [ha] at ha'; cases ha'
  cases bor_int r2
  rcases o with ⟨vs, ds, e, h2, r⟩ | ⟨_, _, _, e, _⟩
  · cases e
    refine ⟨a, vs, z, j, rfl, rfl, h2, by rw [r.length]; exact hj, q σ B2 _ (S2.mutOw hm hr ha (.inl ⟨_, _, rfl, upd_same, r.set (r1.mono x2.bb) j⟩))⟩
  · cases e
end
end DL

set_option Elab.async false
set_option linter.all false
set_option maxRecDepth 100000
set_option maxHeartbeats 4000000
namespace DL
open PySem PySem.Spec L2

/-! ### a def keeps its promise -/
theorem RAs.get {K : PySem.W.Frag} {B H : Hp} {ms : List Md} {vs : List V} {ds : List D} (r : RAs K B H ms vs ds) : ∀ {i : Nat} {d : D}, ds[i]? = some d → ∃ m v, ms[i]? = some m ∧ vs[i]? = some v ∧ RA K m B H v d := by
  induction r with
  | nil => intro i d h; simp at h
  | @cons m ms v vs d ds h t ih =>
    intro i e he
    cases i with
    | zero => simp at he; subst he; exact ⟨m, v, rfl, rfl, h⟩
    | succ i =>
      obtain ⟨m', v', h1, h2, h3⟩ := ih (i := i) (d := e) (by simpa using he)
      exact ⟨m', v', by simpa using h1, by simpa using h2, h3⟩
def inD0 (many : Nat) (ds : List D) : DEnv := ds.map some ++ List.replicate (many - ds.length) none
theorem inD0_at {many i : Nat} {ds : List D} {d : D} (h : (inD0 many ds)[i]? = some (some d)) : ds[i]? = some d := by
  unfold inD0 at h
  by_cases hi : i < ds.length
  · rw [List.getElem?_append_left (by simpa using hi), List.getElem?_map] at h
    cases q : ds[i]? with
    | none => rw [q] at h; cases h
    | some e => rw [q] at h; cases h; rfl
  · rw [List.getElem?_append_right (by simpa using hi)] at h
    have := List.mem_of_getElem? h
    simp at this
theorem start_at {N : List Str} {vs : List V} {i : Nat} {v : V} (h : vs[i]? = some v) : (L2.start N vs)[i]? = some (some v) := by
  unfold L2.start
  have hi : i < vs.length := (List.getElem?_eq_some_iff.mp h).1
  rw [List.getElem?_append_left (by simpa using hi), List.getElem?_map, h]; rfl
theorem stt_start {K : PySem.W.Frag} {B H : Hp} {ms : List Md} {vs : List V} {ds : List D} {N : List Str} {Γ : MEnv} (e : Ex B H) (r : RAs K B H ms vs ds) (hl : ms.length ≤ N.length) (hΓ : Γ.length = N.length) (ht : Γ.take ms.length = ms) (hms : ∀ m ∈ ms, m ≠ .ow) :
    Stt K Γ (fun i => (vs[i]?).map fun v => (v, false, H)) B H B H (L2.start N vs) (inD0 N.length ds) := by
  obtain ⟨l1, l2⟩ := r.len
  have at_ : ∀ (i : Nat) (d : D) (m : Md), Γ[i]? = some m → (inD0 N.length ds)[i]? = some (some d) → ∃ v, vs[i]? = some v ∧ RA K m B H v d ∧ m ≠ .ow := fun i d m h1 h2 => by
    obtain ⟨m', v, h3, h4, h5⟩ := r.get (inD0_at h2)
    have hi : i < ms.length := (List.getElem?_eq_some_iff.mp h3).1
    have : Γ[i]? = ms[i]? := by rw [← ht, List.getElem?_take, if_pos (by simpa [ht] using hi)]; 
    rw [this, h3] at h1
    cases h1
    exact ⟨v, h4, h5, hms _ (List.mem_of_getElem? h3)⟩
  refine ⟨.refl e, fun i v t h hv => ?_, ?_, ?_, fun i d h1 h2 => ?_, fun i d h1 h2 => ?_, fun i d h1 h2 => ?_, fun i j p d _ _ h1 _ h3 _ _ => ?_⟩
  · obtain ⟨w, _, e⟩ := Option.map_eq_some_iff.mp hv
    cases e; exact .refl _
  · unfold L2.start inD0
    rw [List.length_append, List.length_append, List.length_map, List.length_map, List.length_replicate, List.length_replicate, l1, l2]
  · unfold inD0
    rw [List.length_append, List.length_map, List.length_replicate, l2, hΓ]; omega
  · obtain ⟨v, h3, h4, _⟩ := at_ i d _ h1 h2
    exact ⟨v, start_at h3, h4⟩
  · obtain ⟨_, _, _, h⟩ := at_ i d _ h1 h2
    exact absurd rfl h
  · obtain ⟨v, h3, h4, _⟩ := at_ i d _ h1 h2
    exact ⟨v, false, H, by rw [h3]; rfl, start_at h3, h4⟩
  · obtain ⟨_, _, _, h⟩ := at_ i d _ h1 h3
    exact absurd rfl h
section
variable {P : Program} {w : World} {K : PySem.W.Frag} {mg : Str → Option Value} {base : Heap}
theorem fn_ok {x qual : Str} {st : Stmt} {f : Addr} {fd : FuncData} {N ps : List Str} {k : Nat} {ms : List Md} {sem : List D → Option D} {Γ : MEnv} (F : Fun K x qual st f fd) (S : FnScope N ps (defScope st)) (hms : ∀ m ∈ ms, m ≠ .ow) (hps : ms.length = ps.length) (hΓ : Γ.length = N.length) (ht : Γ.take ms.length = ms)
    (h : ∀ X : Cx, X.prog = P → X.w = w → X.K = K → X.mg = mg → X.base = base → Good X N (defScope st) k → PassesOwn (model X.prog X.w) X.A X.env X.xe → ∀ ds d, ds.length = ms.length → sem ds = some d → ∃ o, StS X (defBody st) Γ (inD0 N.length ds) o ∧ (o = .ret d ∨ ∃ ρ, o = .nx ρ ∧ d = .non)) :
    FnOk P w K mg base CX0 (k + 1) f fd ps (spD K ms sem) := by
  have hN : ps.length ≤ N.length := by have := congrArg List.length S.pre; rw [List.length_take] at this; omega
  refine F.ok S (fun vs H Q E h => ?_) fun cdv A outer s H vs Q E hr hsp => ?_
  · obtain ⟨B, ds, d, _, r, _⟩ := h
    rw [r.len.1, hps]
  · obtain ⟨B, ds, d, e, r, hs, q⟩ := hsp
    let X : Cx := (cxOf CX0 P w K mg base N qual (defScope st) f cdv A outer s H E).nox
    have g : Good X N (defScope st) k := by
      refine ⟨rfl, S.nd, rfl, hr, S.kind, fun x hx => ?_, fun x hx => ?_, fun x hx => ?_, fun x hx => ?_, fun x hx => ?_, fun x hx => ?_⟩
      · show (defScope st).names.lookup x = _ ∨ (defScope st).names.lookup x = _ ∨ (defScope st).names.lookup x = _
        unfold visS at hx; split at hx <;> rename_i e <;> first | (rw [e]; simp) | cases hx
      · show (defScope st).names.lookup x = _
        unfold glS at hx; split at hx <;> rename_i e <;> first | exact e | cases hx
      · refine ⟨?_, .inl rfl⟩
        show (defScope st).names.lookup x = _ ∨ (defScope st).names.lookup x = _
        unfold stS at hx; split at hx <;> rename_i e <;> first | (rw [e]; simp) | cases hx
      · show (defScope st).names.lookup x = _
        unfold loS at hx; split at hx <;> rename_i e <;> first | exact e | cases hx
      · show (defScope st).names.lookup x = _
        unfold ceS at hx; split at hx <;> rename_i e <;> first | exact e | cases hx
      · show (defScope st).names.lookup x = _ ∨ (defScope st).names.lookup x = _
        unfold cfS at hx; split at hx <;> rename_i e <;> first | (rw [e]; simp) | cases hx
    obtain ⟨o, hst, ho⟩ := h X rfl rfl rfl rfl rfl g PassesOwn.never ds d r.len.2 hs
    refine ⟨_, pss_of, ?_⟩
    refine hst _ B H B H (L2.start N vs) (stt_start e r (by rw [hps]; exact hN) hΓ ht hms) _ ?_
    rcases ho with rfl | ⟨ρ, rfl, rfl⟩
    · exact fun v B' H' x r => q v B' H' x r
    · exact fun σ B' H' S' => q .non B' H' S'.ext .non
end
end DL

set_option Elab.async false
set_option linter.all false
set_option maxRecDepth 100000
set_option maxHeartbeats 4000000
namespace DL
open PySem PySem.Spec L2

/-! ### from the text to the little language -/
def ixOf (x : Str) : List Str → Nat → Option Nat
  | [], _ => none
  | y :: r, i => if y = x then some i else ixOf x r (i + 1)
theorem ixOf_at {x : Str} : ∀ {N : List Str} {i j : Nat}, ixOf x N i = some j → i ≤ j ∧ N[j - i]? = some x
  | [], _, _, h => by simp [ixOf] at h
  | y :: r, i, j, h => by
    simp only [ixOf] at h
    split at h
    · rename_i e; cases h; subst e; simp
    · obtain ⟨h1, h2⟩ := ixOf_at h
      refine ⟨by omega, ?_⟩
      rw [show j - i = (j - (i + 1)) + 1 by omega]
      simpa using h2
theorem ixOf_0 {x : Str} {N : List Str} {j : Nat} (h : ixOf x N 0 = some j) : N[j]? = some x := by simpa using (ixOf_at h).2
def ownOf (N : List Str) (scope : Scope) : List (Str × Nat) := scope.names.filterMap fun (y, k) => match k with
  | .local => (ixOf y N 0).map fun i => (y, i)
  | .cell => (ixOf y N 0).map fun i => (y, i)
  | _ => none
def nameOk (x : Str) : Bool := !(x == ("__debug__" : Str)) && !(x == ("__classdict__" : Str))
def fnIx (f : Str) : List (Str × List Md) → Nat → Option Nat
  | [], _ => none
  | (g, _) :: r, i => if g = f then some i else fnIx f r (i + 1)
section
variable (N : List Str) (fs : List (Str × List Md))
/-- a target: names, tuples of names -/
def cT : Nat → Scope → Expr → Option T
  | 0, _, _ => none
  | n + 1, sc, .Name x _ => if stS sc x then (ixOf x N 0).map .nm else none
  | n + 1, sc, .Tuple es _ _ => (cTs n sc es).map .tp
  | _, _, _ => none
where cTs : Nat → Scope → List Expr → Option T
  | _, _, [] => some .nl
  | 0, _, _ => none
  | n + 1, sc, e :: es => (cT n sc e).bind fun h => (cTs n sc es).map fun t => .cn h t
def tyOf (x : Str) : Option String := if x = "list" then some "list" else if x = "tuple" then some "tuple" else if x = "dict" then some "dict" else if x = "str" then some "str" else if x = "int" then some "int" else if x = "bool" then some "bool" else none
inductive Blt where | len | list | tuple | int | isi
inductive Mth where | starts | join | get | index
def bk (g : Str) : Option Blt := if g = "len" then some .len else if g = "list" then some .list else if g = "tuple" then some .tuple else if g = "int" then some .int else if g = "isinstance" then some .isi else none
def mk (g : Str) : Option Mth := if g = "startswith" then some .starts else if g = "join" then some .join else if g = "get" then some .get else if g = "index" then some .index else none
def itemsOf : Expr → Option Expr
  | .Call (.Attribute o m apos) [] [] cpos => if m = "items" ∧ plainB o = true ∧ (apos.endLine == cpos.line) = true then some o else none
  | _ => none
/-- range(a), range(a, b) -/
def rngOf (sc : Scope) : Expr → Option (Expr × Option Expr)
  | .Call (.Name g _) es [] _ => if g = "range" ∧ glS sc g = true ∧ plainEs es = true then (match es with
    | [a] => some (a, none)
    | [a, b] => some (a, some b)
    | _ => none) else none
  | _ => none
/-- zip(a, b), the target a tuple -/
def zipOf (sc : Scope) (tp : Bool) : Expr → Option (Expr × Expr)
  | .Call (.Name g _) [a, b] [] _ => if tp = true ∧ g = "zip" ∧ glS sc g = true ∧ plainE a = true ∧ plainE b = true then some (a, b) else none
  | _ => none
def isTup : Expr → Bool
  | .Tuple _ _ _ => true
  | _ => false
mutual
def cE : Nat → Scope → Expr → Option E
  | 0, _, _ => none
  | n + 1, sc, .Name x _ => if visS sc x && nameOk x then (ixOf x N 0).map .var else none
  | n + 1, sc, .Constant c _ _ => match c with
    | .none => some (.con .non)
    | .bool b => some (.con (.bl b))
    | .int i => some (.con (.int i))
    | .str s => if PyData.strOk s && decide (s.length ≤ lim) then some (.con (.str s)) else none
    | _ => none
  | n + 1, sc, .BinOp a op b _ => (binO op).bind fun o => (cE n sc a).bind fun x => (cE n sc b).map fun y => .op2 o x y
  | n + 1, sc, .UnaryOp .Not a _ => (cE n sc a).map .not
  | n + 1, sc, .UnaryOp .USub a _ => (cE n sc a).map (.op1 .neg)
  | n + 1, sc, .BoolOp op (a :: r) pos => match r with
    | [] => cE n sc a
    | b :: rest => (cE n sc a).bind fun x => (cE n sc (.BoolOp op (b :: rest) pos)).map fun y => (match op with | .And => .and x y | .Or => .or x y)
  | n + 1, sc, .Compare a [op] [b] _ => if plainE b then (cE n sc a).bind fun x => (cE n sc b).map fun y => .op2 (cmpO op) x y else none
  | n + 1, sc, .Compare a [op, op'] [b, c] _ => if plainE b && plainE c then (cE n sc a).bind fun x => (cE n sc b).bind fun y => (cE n sc c).map fun z => .chain (cmpO op) (cmpO op') x y z else none
  | n + 1, sc, .IfExp c a b _ => (cE n sc c).bind fun z => (cE n sc a).bind fun x => (cE n sc b).map fun y => .ite z x y
  | n + 1, sc, .Subscript a b _ => match b with
    | .Slice lo hi none _ => (cE n sc a).bind fun x => (cO n sc lo).bind fun l => (cO n sc hi).map fun h => .sl x l h
    | b => if plainE b then (cE n sc a).bind fun x => (cE n sc b).map fun y => .op2 .ix x y else none
  | n + 1, sc, .List es _ => (cA n sc es).map .lst
  | n + 1, sc, .Tuple es _ _ => (cA n sc es).map .tup
  | n + 1, sc, .Dict [] [] _ => some .dnew
  | n + 1, sc, .ListComp elt [⟨tg, iter, ifs, ia⟩] scope _ =>
    if ia = 0 && blkC N sc scope (ownOf N scope) && plainE iter then
      (cI n sc (isTup tg) iter).bind fun it => (cT N n scope tg).bind fun t => (cE n scope elt).bind fun e => ((match ifs with
        | [] => some E.nop
        | [c] => cE n scope c
        | _ => none : Option E)).map fun c => E.lc t ((ownOf N scope).map (·.2)) e it c
    else none
  | n + 1, sc, .DictComp kx vx [⟨tg, iter, ifs, ia⟩] scope _ =>
    if ia = 0 && blkC N sc scope (ownOf N scope) && plainE iter then
      (cI n sc (isTup tg) iter).bind fun it => (cT N n scope tg).bind fun t => (cE n scope kx).bind fun ke => (cE n scope vx).bind fun e => ((match ifs with
        | [] => some E.nop
        | [c] => cE n scope c
        | _ => none : Option E)).map fun c => E.dc t ((ownOf N scope).map (·.2)) ke e it c
    else none
  | n + 1, sc, .Call f es kw pos => if kw.isEmpty then (match f with
    | .Name g _ => if glS sc g && plainEs es && nameOk g then cName n sc g es else none
    | .Attribute o m apos => if plainB o && plainEs es && apos.endLine == pos.line then cMeth n sc o m es else none
    | _ => none) else none
  | _, _, _ => none
def cName : Nat → Scope → Str → List Expr → Option E
  | 0, _, _, _ => none
  | n + 1, sc, g, es => match bk g, es with
    | some .len, [a] => (cE n sc a).map (.op1 .len)
    | some .list, [a] => (match itemsOf a with
      | some o => (cE n sc o).map (.op1 .items)
      | none => (cE n sc a).map (.op1 .list))
    | some .tuple, [a] => (cE n sc a).map (.op1 .tuple)
    | some .int, [a] => (cE n sc a).map (.op1 .int)
    | some .isi, [a, .Name t _] => if glS sc t then (tyOf t).bind fun ty => (cE n sc a).map (.op1 (.isi ty)) else none
    | none, es => (fnIx g fs 0).bind fun i => (cA n sc es).map (.call i)
    | _, _ => none
def cMeth : Nat → Scope → Expr → Str → List Expr → Option E
  | 0, _, _, _, _ => none
  | n + 1, sc, o, m, es => match mk m, es with
    | some .starts, [b] => (cE n sc o).bind fun x => (cE n sc b).map fun y => .op2 .starts x y
    | some .join, [b] => (cE n sc o).bind fun x => (cE n sc b).map fun y => .op2 .join x y
    | some .index, [b] => (cE n sc o).bind fun x => (cE n sc b).map fun y => .op2 .index x y
    | some .get, [b, c] => (cE n sc o).bind fun x => (cE n sc b).bind fun y => (cE n sc c).map fun z => .op3 .get x y z
    | _, _ => none
def cA : Nat → Scope → List Expr → Option E
  | _, _, [] => some .nil
  | 0, _, _ => none
  | n + 1, sc, e :: es => if plainE e then (cE n sc e).bind fun h => (cA n sc es).map fun t => .cons h t else none
def cO : Nat → Scope → Option Expr → Option E
  | _, _, none => some .nop
  | 0, _, _ => none
  | n + 1, sc, some e => (cE n sc e).map fun h => .cons h .nil
def cI : Nat → Scope → Bool → Expr → Option E
  | 0, _, _, _ => none
  | n + 1, sc, tp, e => match rngOf sc e with
    | some (a, none) => (cE n sc a).map .iR1
    | some (a, some b) => (cE n sc a).bind fun x => (cE n sc b).map fun y => .iR2 x y
    | none => match zipOf sc tp e with
      | some (a, b) => (cE n sc a).bind fun x => (cE n sc b).map fun y => .iZip x y
      | none => (cE n sc e).map .iV
end
/-- the slots that a statement stores into or changes -/
def touch : S → List Nat
  | .asg t _ => slT t
  | .asgO i _ => [i]
  | .app i _ => [i]
  | .ext i _ => [i]
  | .setk i _ _ => [i]
  | .ite _ a b => touch a ++ touch b
  | .for_ _ t _ b => slT t ++ touch b
  | .while_ _ b => touch b
  | .seq a b => touch a ++ touch b
  | _ => []
def pinsOf (s : S) : List Nat := (List.range N.length).filter fun i => !(touch s).contains i
mutual
def cS (Γ : MEnv) : Nat → Scope → Stmt → Option S
  | 0, _, _ => none
  | n + 1, sc, .Assign [tg] e _ => match tg with
    | .Name x _ => if stS sc x then (ixOf x N 0).bind fun i => (cE N fs n sc e).map fun v => (if Γ[i]? = some Md.ow then .asgO i v else .asg (.nm i) v) else none
    | .Subscript (.Name x _) b _ => if visS sc x && nameOk x && plainA e && plainE b then (ixOf x N 0).bind fun i => (cE N fs n sc e).bind fun v => (cE N fs n sc b).map fun y => .setk i y v else none
    | _ => none
  | n + 1, sc, .Expr e _ => match e with
    | .Call (.Attribute (.Name x _) m apos) [a] [] cpos => if visS sc x && nameOk x && plainE a && apos.endLine == cpos.line then
        if m = "append" then (ixOf x N 0).bind fun i => (cE N fs n sc a).map fun v => .app i v
        else if m = "extend" then (ixOf x N 0).bind fun i => (cE N fs n sc a).map fun v => .ext i v
        else none
      else none
    | e => if plainA e then (cE N fs n sc e).map .drop else none
  | n + 1, sc, .Return o _ => match o with
    | none => some .retN
    | some e => (cE N fs n sc e).map .ret
  | n + 1, sc, .If c a b _ => (cE N fs n sc c).bind fun x => (cB Γ n sc a).bind fun y => (cB Γ n sc b).map fun z => .ite x y z
  | n + 1, sc, .For tg iter body [] _ => if plainE iter then (cI N fs n sc (isTup tg) iter).bind fun it => (cT N n sc tg).bind fun t => (cB Γ n sc body).map fun b => .for_ (pinsOf N b) t it b else none
  | n + 1, sc, .While c body [] _ => (cE N fs n sc c).bind fun x => (cB Γ n sc body).map fun b => .while_ x b
  | n + 1, sc, .Pass _ => some .nx
  | n + 1, sc, .Break _ => some .brk
  | n + 1, sc, .Continue _ => some .cnt
  | _, _, _ => none
def cB (Γ : MEnv) : Nat → Scope → List Stmt → Option S
  | _, _, [] => some .nx
  | 0, _, _ => none
  | n + 1, sc, s :: ss => (cS Γ n sc s).bind fun a => (cB Γ n sc ss).map fun b => .seq a b
end
end
end DL

set_option Elab.async false
set_option linter.all false
set_option maxRecDepth 100000
set_option maxHeartbeats 4000000
namespace DL
open PySem PySem.Spec L2

/-! ### what may be shared, what is new, what is well used -/
def esc (Γ : MEnv) : E → Bool
  | .var i => decide (Γ[i]? = some Md.sh)
  | .and _ b => esc Γ b
  | .or _ b => esc Γ b
  | .ite _ a b => esc Γ a && esc Γ b
  | _ => true
def escA (Γ : MEnv) : E → Bool
  | .nil => true
  | .cons h t => esc Γ h && escA Γ t
  | _ => false
def fresh : E → Bool
  | .lst _ => true | .lc _ _ _ _ _ => true | .dc _ _ _ _ _ _ => true | .dnew => true | .op1 .list _ => true | .op1 .items _ => true | .op2 .add _ _ => true | .sl _ _ _ => true
  | _ => false
def okArgs (Γ : MEnv) : List Md → E → Bool
  | [], .nil => true
  | m :: ms, .cons h t => (match m with | .sh => esc Γ h | .bo => true | .ow => false) && okArgs Γ ms t
  | _, _ => false
def okIt (Γ : MEnv) : E → Bool
  | .iV (.var i) => decide (Γ[i]? = some Md.sh) || decide (Γ[i]? = some Md.bo)
  | .iV e => esc Γ e
  | .iR1 _ => true
  | .iR2 _ _ => true
  | .iZip _ _ => true
  | _ => false
def okE (fs : List (Str × List Md)) (Γ : MEnv) : E → Bool
  | .var _ => true
  | .con _ => true
  | .op1 _ a => okE fs Γ a
  | .op2 _ a b => okE fs Γ a && okE fs Γ b
  | .op3 _ a b c => okE fs Γ a && okE fs Γ b && okE fs Γ c && esc Γ c
  | .chain _ _ a b c => okE fs Γ a && okE fs Γ b && okE fs Γ c
  | .and a b => okE fs Γ a && okE fs Γ b && esc Γ b
  | .or a b => okE fs Γ a && okE fs Γ b && esc Γ b
  | .not a => okE fs Γ a
  | .ite c a b => okE fs Γ c && okE fs Γ a && okE fs Γ b
  | .sl a l h => okE fs Γ a && okE fs Γ l && okE fs Γ h
  | .nop => true
  | .lst as => okE fs Γ as && escA Γ as
  | .tup as => okE fs Γ as && escA Γ as
  | .dnew => true
  | .lc t vs elt it c => okE fs Γ it && okE fs Γ elt && esc Γ elt && okE fs Γ c && shT Γ t && (slT t).all fun i => vs.contains i
  | .dc t vs ke elt it c => okE fs Γ it && okE fs Γ ke && esc Γ ke && okE fs Γ elt && esc Γ elt && okE fs Γ c && shT Γ t && (slT t).all fun i => vs.contains i
  | .call f as => okE fs Γ as && (match fs[f]? with | some (_, ms) => okArgs Γ ms as | none => false)
  | .nil => true
  | .cons h t => okE fs Γ h && okE fs Γ t
  | .iV e => okE fs Γ e
  | .iR1 a => okE fs Γ a
  | .iR2 a b => okE fs Γ a && okE fs Γ b
  | .iEn _ => false
  | .iZip a b => okE fs Γ a && okE fs Γ b
def R3 (X : Cx) (e : Expr) (Γ : MEnv) (ρ : DEnv) (ir : E) (d : D) : Prop := EvM .bo X e Γ ρ d ∧ (esc Γ ir = true → EvM .sh X e Γ ρ d) ∧ (fresh ir = true → isL d = true → EvM .ow X e Γ ρ d) ∧ (∀ i, ir = .var i → Γ[i]? = some Md.bo → EvB true X e Γ ρ d)
section
variable {X : Cx} {e : Expr} {Γ : MEnv} {ρ : DEnv} {ir : E} {d : D}
theorem R3.of_sh (h : EvM .sh X e Γ ρ d) (hf : fresh ir = false) : R3 X e Γ ρ ir d := ⟨h.bo_of, fun _ => h, (fun z => by rw [hf] at z; cases z), fun _ _ _ => .of_sh h⟩
theorem R3.of_ow (h : EvM .ow X e Γ ρ d) : R3 X e Γ ρ ir d := ⟨h.sh_of.bo_of, fun _ => h.sh_of, fun _ _ => h, fun _ _ _ => .of_sh h.sh_of⟩
theorem R3.of_md (h : EvM (mdR d) X e Γ ρ d) : R3 X e Γ ρ ir d := by
  cases d with
  | lst l => exact .of_ow h
  | dic ks ds => exact .of_ow h
  | _ => exact ⟨EvM.bo_of h, fun _ => h, (fun _ z => by cases z), fun _ _ _ => .of_sh h⟩
end
def bltNames : List Str := ["len", "list", "tuple", "int", "isinstance", "range", "dict", "str", "bool", "zip"]
structure Hyp (X : Cx) (fs : List (Str × List Md)) (Φ : Nat → List D → Option D) (k : Nat) : Prop where
  fns : ∀ i nm ms, fs[i]? = some (nm, ms) → FnAt X k nm ms (Φ i)
  blt : ∀ x ∈ bltNames, X.mg x = none
theorem Hyp.blk {X : Cx} {fs : List (Str × List Md)} {Φ : Nat → List D → Option D} {k : Nat} (h : Hyp X fs Φ k) (s : Shared) (H : Hp) (scope : Scope) (env : Env) (fp : List Addr) : Hyp (X.blk s H scope env fp) fs Φ k :=
  ⟨fun i nm ms e => let ⟨z⟩ := h.fns i nm ms e; ⟨z⟩, h.blt⟩
theorem fnIx_at {f : Str} : ∀ {fs : List (Str × List Md)} {i j : Nat}, fnIx f fs i = some j → i ≤ j ∧ ∃ ms, fs[j - i]? = some (f, ms)
  | [], _, _, h => by simp [fnIx] at h
  | (g, ms) :: r, i, j, h => by
    simp only [fnIx] at h
    split at h
    · rename_i e; cases h; subst e; exact ⟨Nat.le_refl _, ms, by simp⟩
    · obtain ⟨h1, ms', h2⟩ := fnIx_at h
      refine ⟨by omega, ms', ?_⟩
      rw [show j - i = (j - (i + 1)) + 1 by omega]
      simpa using h2
theorem fnIx_0 {f : Str} {fs : List (Str × List Md)} {j : Nat} (h : fnIx f fs 0 = some j) : ∃ ms, fs[j]? = some (f, ms) := by simpa using (fnIx_at h).2

variable (N : List Str) (fs : List (Str × List Md)) (Φ : Nat → List D → Option D) (k : Nat)
def SE (n : Nat) : Prop := ∀ sc e ir, cE N fs n sc e = some ir → plainE e = true ∧ ∀ X, Good X N sc k → Hyp X fs Φ k → ∀ Γ ρ, okE fs Γ ir = true →
  (∀ d, evE Φ ir ρ = some d → R3 X e Γ ρ ir d) ∧ (∀ j, evT Φ ir ρ = some j → EvT X e Γ ρ j)
def SA (n : Nat) : Prop := ∀ sc es ir, cA N fs n sc es = some ir → plainEs es = true ∧ ∀ X, Good X N sc k → Hyp X fs Φ k → ∀ Γ ρ, okE fs Γ ir = true → ∀ ds, evA Φ ir ρ = some ds →
  (∀ ms, okArgs Γ ms ir = true → EvAs ms X es Γ ρ ds) ∧ (escA Γ ir = true → EvAs (List.replicate es.length .sh) X es Γ ρ ds) ∧ (es = [] → ir = .nil)
def SO (n : Nat) : Prop := ∀ sc o ir, cO N fs n sc o = some ir → ∀ X, Good X N sc k → Hyp X fs Φ k → ∀ Γ ρ, okE fs Γ ir = true → ∀ r, evO Φ ir ρ = some r → EvO X o Γ ρ r
def SI (n : Nat) : Prop := ∀ sc tp e ir, cI N fs n sc tp e = some ir → ∀ X, Good X N sc k → Hyp X fs Φ k → ∀ Γ ρ, okE fs Γ ir = true → ∀ l, evI Φ ir ρ = some l → ∀ z tg, (tp = true → ∃ elts kk pos, tg = .Tuple elts kk pos) → (z = true → okIt Γ ir = true) → EvI z X tg e Γ ρ l
def SN (n : Nat) : Prop := ∀ sc g es ir, cName N fs n sc g es = some ir → glS sc g = true → plainEs es = true → nameOk g = true → ∀ p pos X, Good X N sc k → Hyp X fs Φ k → ∀ Γ ρ, okE fs Γ ir = true →
  (∀ d, evE Φ ir ρ = some d → R3 X (.Call (.Name g p) es [] pos) Γ ρ ir d) ∧ (∀ j, evT Φ ir ρ = some j → EvT X (.Call (.Name g p) es [] pos) Γ ρ j)
def SM (n : Nat) : Prop := ∀ sc o m es ir, cMeth N fs n sc o m es = some ir → plainB o = true → plainEs es = true → ∀ apos pos, (apos.endLine == pos.line) = true → ∀ X, Good X N sc k → Hyp X fs Φ k → ∀ Γ ρ, okE fs Γ ir = true →
  (∀ d, evE Φ ir ρ = some d → R3 X (.Call (.Attribute o m apos) es [] pos) Γ ρ ir d) ∧ (∀ j, evT Φ ir ρ = some j → EvT X (.Call (.Attribute o m apos) es [] pos) Γ ρ j)
/-- a test that is a value's truth -/
theorem snd_t {X : Cx} {e : Expr} {Γ : MEnv} {ρ : DEnv} {j : Bool} {o : Option D} (hp : plainT e = true) (h : ∀ d, o = some d → EvM .bo X e Γ ρ d) (hj : o.bind truD = some j) : EvT X e Γ ρ j := by
  obtain ⟨d, h1, h2⟩ := Option.bind_eq_some_iff.mp hj
  exact ev_truth hp h2 (h d h1)
theorem snd_tc {X : Cx} {e : Expr} {Γ : MEnv} {ρ : DEnv} {j : Bool} {o : Option D} (h : ∀ k, o = some (.bl k) → EvT X e Γ ρ k) (hb : ∀ d, o = some d → ∃ k, d = .bl k) (hj : o.bind truD = some j) : EvT X e Γ ρ j := by
  obtain ⟨d, h1, h2⟩ := Option.bind_eq_some_iff.mp hj
  obtain ⟨k, rfl⟩ := hb d h1
  cases h2
  exact h j h1
theorem sa_succ {n : Nat} (hE : SE N fs Φ k n) (hA : SA N fs Φ k n) : SA N fs Φ k (n + 1) := by
  intro sc es ir h
  cases es with
  | nil =>
    simp only [cA, Option.some.injEq] at h
    subst h
    refine ⟨rfl, fun X g hy Γ ρ _ ds hd => ?_⟩
    simp only [evA, Option.some.injEq] at hd
    subst hd
    refine ⟨fun ms hm => ?_, fun _ => ea_nil, fun _ => rfl⟩
    cases ms with
    | nil => exact ea_nil
    | cons m ms => cases m <;> simp [okArgs] at hm
  | cons e es =>
    simp only [cA] at h
    split at h
    · rename_i hp
      obtain ⟨h1, e1, h⟩ := Option.bind_eq_some_iff.mp h
      obtain ⟨h2, e2, rfl⟩ := Option.map_eq_some_iff.mp h
      obtain ⟨p1, s1⟩ := hE sc e h1 e1
      obtain ⟨p2, s2⟩ := hA sc es h2 e2
      refine ⟨by simp only [plainEs, hp, p2, Bool.and_self], fun X g hy Γ ρ ok ds hd => ?_⟩
      simp only [okE, Bool.and_eq_true] at ok
      simp only [evA] at hd
      obtain ⟨d, d1, hd⟩ := Option.bind_eq_some_iff.mp hd
      obtain ⟨ds', d2, rfl⟩ := Option.map_eq_some_iff.mp hd
      obtain ⟨r1, r2, _⟩ := (s1 X g hy Γ ρ ok.1).1 d d1
      obtain ⟨t1, t2, _⟩ := s2 X g hy Γ ρ ok.2 ds' d2
      refine ⟨fun ms hm => ?_, fun hm => ?_, fun z => by cases z⟩
      · cases ms with
        | nil => simp [okArgs] at hm
        | cons m ms =>
          simp only [okArgs, Bool.and_eq_true] at hm
          cases m with
          | sh => exact ea_cons hp (by decide) (r2 hm.1) (t1 ms hm.2)
          | bo => exact ea_cons hp (by decide) r1 (t1 ms hm.2)
          | ow => cases hm.1
      · simp only [escA, Bool.and_eq_true] at hm
        exact ea_cons hp (by decide) (r2 hm.1) (t2 hm.2)
    · cases h
theorem so_succ {n : Nat} (hE : SE N fs Φ k n) : SO N fs Φ k (n + 1) := by
  intro sc o ir h X g hy Γ ρ ok r hr
  cases o with
  | none =>
    simp only [cO, Option.some.injEq] at h
    subst h
    simp only [evO, Option.some.injEq] at hr
    subst hr; rfl
  | some e =>
    simp only [cO] at h
    obtain ⟨h1, e1, rfl⟩ := Option.map_eq_some_iff.mp h
    obtain ⟨p1, s1⟩ := hE sc e h1 e1
    simp only [okE, Bool.and_eq_true] at ok
    simp only [evO] at hr
    obtain ⟨d, d1, hr⟩ := Option.bind_eq_some_iff.mp hr
    cases d with
    | int i => cases hr; exact ⟨i, rfl, ((s1 X g hy Γ ρ ok.1).1 _ d1).1⟩
    | _ => cases hr
end DL

set_option Elab.async false
set_option linter.all false
set_option maxRecDepth 100000
set_option maxHeartbeats 4000000
namespace DL
open PySem PySem.Spec L2
variable (N : List Str) (fs : List (Str × List Md)) (Φ : Nat → List D → Option D) (k : Nat)

theorem bk_of {g : Str} {b : Blt} (h : bk g = some b) : (b = .len ∧ g = "len") ∨ (b = .list ∧ g = "list") ∨ (b = .tuple ∧ g = "tuple") ∨ (b = .int ∧ g = "int") ∨ (b = .isi ∧ g = "isinstance") := by
  unfold bk at h
  split at h
  · cases h; simp_all
  split at h
  · cases h; simp_all
  split at h
  · cases h; simp_all
  split at h
  · cases h; simp_all
  split at h
  · cases h; simp_all
  · cases h
theorem mk_of {g : Str} {b : Mth} (h : mk g = some b) : (b = .starts ∧ g = "startswith") ∨ (b = .join ∧ g = "join") ∨ (b = .get ∧ g = "get") ∨ (b = .index ∧ g = "index") := by
  unfold mk at h
  split at h
  · cases h; simp_all
  split at h
  · cases h; simp_all
  split at h
  · cases h; simp_all
  split at h
  · cases h; simp_all
  · cases h
theorem itemsOf_eq {a o : Expr} (h : itemsOf a = some o) : ∃ apos cpos, a = .Call (.Attribute o "items" apos) [] [] cpos ∧ plainB o = true ∧ (apos.endLine == cpos.line) = true := by
  unfold itemsOf at h
  split at h
  · split at h
    · rename_i hc
      cases h
      obtain ⟨rfl, h1, h2⟩ := hc
      exact ⟨_, _, rfl, h1, h2⟩
    · cases h
  · cases h
theorem tyOf_eq {t : Str} {ty : String} (h : tyOf t = some ty) : t = Str.ofString ty ∧ t ∈ bltNames := by
  unfold tyOf at h
  repeat' (split at h; · (rename_i e; cases h; subst e; exact ⟨rfl, by simp [bltNames]⟩))
  cases h
theorem isi_bl {t : String} {x d : D} (h : op1D (.isi t) x = some d) : ∃ b, d = .bl b := by
  obtain ⟨_, b, _, rfl, _⟩ := isi_sem h
  exact ⟨b, rfl⟩
theorem nameOk_1 {g : Str} (h : nameOk g = true) : (g == ("__debug__" : Str)) = false ∧ (g == ("__classdict__" : Str)) = false := by
  unfold nameOk at h
  simpa using h
theorem sn_succ {n : Nat} (hE : SE N fs Φ k n) (hA : SA N fs Φ k n) : SN N fs Φ k (n + 1) := by
  intro sc g es ir h hg hpl hno p pos X good hy Γ ρ ok
  have pT : plainT (.Call (.Name g p) es [] pos) = true := rfl
  -- from the value to the test
  suffices hv : (∀ d, evE Φ ir ρ = some d → R3 X (.Call (.Name g p) es [] pos) Γ ρ ir d) ∧ (∀ j, evT Φ ir ρ = some j → ∃ o, (o.bind truD = some j ∧ ∀ d, o = some d → evE Φ ir ρ = some d)) by
    refine ⟨hv.1, fun j hj => ?_⟩
    obtain ⟨o, h1, h2⟩ := hv.2 j hj
    exact snd_t pT (fun d hd => (hv.1 d (h2 d hd)).1) h1
  simp only [cName] at h
  split at h
  · -- len
    rename_i a hb
    rcases bk_of hb with ⟨_, rfl⟩ | ⟨z, _⟩ | ⟨z, _⟩ | ⟨z, _⟩ | ⟨z, _⟩ <;> try cases z
    obtain ⟨h1, e1, rfl⟩ := Option.map_eq_some_iff.mp h
    obtain ⟨pa, s1⟩ := hE sc a h1 e1
    refine ⟨fun d hd => ?_, fun j hj => ⟨_, hj, fun d hd => hd⟩⟩
    simp only [evE] at hd
    obtain ⟨x, d1, d2⟩ := Option.bind_eq_some_iff.mp hd
    exact .of_sh (ev_len good (hy.blt _ (by simp [bltNames])) hg pa d2 ((s1 X good hy Γ ρ (by simpa [okE] using ok)).1 x d1).1) rfl
  · -- list
    rename_i a hb
    rcases bk_of hb with ⟨z, _⟩ | ⟨_, rfl⟩ | ⟨z, _⟩ | ⟨z, _⟩ | ⟨z, _⟩ <;> try cases z
    split at h
    · rename_i o ho
      obtain ⟨apos, cpos, rfl, hpb, hl⟩ := itemsOf_eq ho
      obtain ⟨h1, e1, rfl⟩ := Option.map_eq_some_iff.mp h
      obtain ⟨pa, s1⟩ := hE sc o h1 e1
      refine ⟨fun d hd => ?_, fun j hj => ⟨_, hj, fun d hd => hd⟩⟩
      simp only [evE] at hd
      obtain ⟨x, d1, d2⟩ := Option.bind_eq_some_iff.mp hd
      cases x <;> simp [op1D] at d2
      subst d2
      exact .of_ow (ev_items good (hy.blt _ (by simp [bltNames])) hg hpb hl ((s1 X good hy Γ ρ (by simpa [okE] using ok)).1 _ d1).1)
    · obtain ⟨h1, e1, rfl⟩ := Option.map_eq_some_iff.mp h
      obtain ⟨pa, s1⟩ := hE sc a h1 e1
      refine ⟨fun d hd => ?_, fun j hj => ⟨_, hj, fun d hd => hd⟩⟩
      simp only [evE] at hd
      obtain ⟨x, d1, d2⟩ := Option.bind_eq_some_iff.mp hd
      exact .of_ow (ev_list good (hy.blt _ (by simp [bltNames])) hg pa d2 ((s1 X good hy Γ ρ (by simpa [okE] using ok)).1 x d1).1)
  · -- tuple
    rename_i a hb
    rcases bk_of hb with ⟨z, _⟩ | ⟨z, _⟩ | ⟨_, rfl⟩ | ⟨z, _⟩ | ⟨z, _⟩ <;> try cases z
    obtain ⟨h1, e1, rfl⟩ := Option.map_eq_some_iff.mp h
    obtain ⟨pa, s1⟩ := hE sc a h1 e1
    refine ⟨fun d hd => ?_, fun j hj => ⟨_, hj, fun d hd => hd⟩⟩
    simp only [evE] at hd
    obtain ⟨x, d1, d2⟩ := Option.bind_eq_some_iff.mp hd
    exact .of_sh (ev_tuple good (hy.blt _ (by simp [bltNames])) hg pa d2 ((s1 X good hy Γ ρ (by simpa [okE] using ok)).1 x d1).1) rfl
  · -- int
    rename_i a hb
    rcases bk_of hb with ⟨z, _⟩ | ⟨z, _⟩ | ⟨z, _⟩ | ⟨_, rfl⟩ | ⟨z, _⟩ <;> try cases z
    obtain ⟨h1, e1, rfl⟩ := Option.map_eq_some_iff.mp h
    obtain ⟨pa, s1⟩ := hE sc a h1 e1
    refine ⟨fun d hd => ?_, fun j hj => ⟨_, hj, fun d hd => hd⟩⟩
    simp only [evE] at hd
    obtain ⟨x, d1, d2⟩ := Option.bind_eq_some_iff.mp hd
    exact .of_sh (ev_int good (hy.blt _ (by simp [bltNames])) hg pa d2 ((s1 X good hy Γ ρ (by simpa [okE] using ok)).1 x d1).1) rfl
  · -- isinstance
    rename_i a t tp hb
    rcases bk_of hb with ⟨z, _⟩ | ⟨z, _⟩ | ⟨z, _⟩ | ⟨z, _⟩ | ⟨_, rfl⟩ <;> try cases z
    split at h
    · rename_i ht
      obtain ⟨ty, e0, h⟩ := Option.bind_eq_some_iff.mp h
      obtain ⟨h1, e1, rfl⟩ := Option.map_eq_some_iff.mp h
      obtain ⟨pa, s1⟩ := hE sc a h1 e1
      obtain ⟨rfl, hmem⟩ := tyOf_eq e0
      refine ⟨fun d hd => ?_, fun j hj => ⟨_, hj, fun d hd => hd⟩⟩
      simp only [evE] at hd
      obtain ⟨x, d1, d2⟩ := Option.bind_eq_some_iff.mp hd
      exact .of_sh (ev_isi good (hy.blt _ (by simp [bltNames])) hg (hy.blt _ hmem) ht pa d2 ((s1 X good hy Γ ρ (by simpa [okE] using ok)).1 x d1).1) rfl
    · cases h
  · -- own
    rename_i es _ _ hb
    obtain ⟨i, e0, h⟩ := Option.bind_eq_some_iff.mp h
    obtain ⟨h1, e1, rfl⟩ := Option.map_eq_some_iff.mp h
    obtain ⟨ms, hf⟩ := fnIx_0 e0
    obtain ⟨pes, s1⟩ := hA sc es h1 e1
    simp only [okE, hf, Bool.and_eq_true] at ok
    refine ⟨fun d hd => ?_, fun j hj => ⟨_, hj, fun d hd => hd⟩⟩
    simp only [evE] at hd
    obtain ⟨ds, d1, d2⟩ := Option.bind_eq_some_iff.mp hd
    obtain ⟨t1, _, t3⟩ := s1 X good hy Γ ρ ok.1 ds d1
    have F := hy.fns i g ms hf
    cases es with
    | nil =>
      have := t3 rfl
      subst this
      simp only [evA, Option.some.injEq] at d1
      subst d1
      cases ms with
      | nil => exact .of_sh (ev_call0 good F hg (nameOk_1 hno).1 d2) rfl
      | cons m ms => cases m <;> simp [okArgs] at ok
    | cons e es => exact .of_sh (ev_call good F hg (nameOk_1 hno).1 hpl (by simp) d2 (t1 ms ok.2)) rfl
  · cases h
theorem sm_succ {n : Nat} (hE : SE N fs Φ k n) : SM N fs Φ k (n + 1) := by
  intro sc o m es ir h hpb hpl apos pos hl X good hy Γ ρ ok
  have pT : plainT (.Call (.Attribute o m apos) es [] pos) = true := rfl
  suffices hv : (∀ d, evE Φ ir ρ = some d → R3 X (.Call (.Attribute o m apos) es [] pos) Γ ρ ir d) ∧ (∀ j, evT Φ ir ρ = some j → ∃ o, (o.bind truD = some j ∧ ∀ d, o = some d → evE Φ ir ρ = some d)) by
    refine ⟨hv.1, fun j hj => ?_⟩
    obtain ⟨o, h1, h2⟩ := hv.2 j hj
    exact snd_t pT (fun d hd => (hv.1 d (h2 d hd)).1) h1
  simp only [cMeth] at h
  split at h
  · rename_i b hb
    rcases mk_of hb with ⟨_, rfl⟩ | ⟨z, _⟩ | ⟨z, _⟩ | ⟨z, _⟩ <;> try cases z
    obtain ⟨h1, e1, h⟩ := Option.bind_eq_some_iff.mp h
    obtain ⟨h2, e2, rfl⟩ := Option.map_eq_some_iff.mp h
    obtain ⟨p1, s1⟩ := hE sc o h1 e1
    obtain ⟨p2, s2⟩ := hE sc b h2 e2
    simp only [okE, Bool.and_eq_true] at ok
    refine ⟨fun d hd => ?_, fun j hj => ⟨_, hj, fun d hd => hd⟩⟩
    simp only [evE] at hd
    obtain ⟨x, d1, hd⟩ := Option.bind_eq_some_iff.mp hd
    obtain ⟨y, d2, hd⟩ := Option.bind_eq_some_iff.mp hd
    cases x <;> cases y <;> simp [op2D] at hd
    subst hd
    exact .of_sh (ev_starts hpb p2 hl ((s1 X good hy Γ ρ ok.1).1 _ d1).1 ((s2 X good hy Γ ρ ok.2).1 _ d2).1) rfl
  · rename_i b hb
    rcases mk_of hb with ⟨z, _⟩ | ⟨_, rfl⟩ | ⟨z, _⟩ | ⟨z, _⟩ <;> try cases z
    obtain ⟨h1, e1, h⟩ := Option.bind_eq_some_iff.mp h
    obtain ⟨h2, e2, rfl⟩ := Option.map_eq_some_iff.mp h
    obtain ⟨p1, s1⟩ := hE sc o h1 e1
    obtain ⟨p2, s2⟩ := hE sc b h2 e2
    simp only [okE, Bool.and_eq_true] at ok
    refine ⟨fun d hd => ?_, fun j hj => ⟨_, hj, fun d hd => hd⟩⟩
    simp only [evE] at hd
    obtain ⟨x, d1, hd⟩ := Option.bind_eq_some_iff.mp hd
    obtain ⟨y, d2, hd⟩ := Option.bind_eq_some_iff.mp hd
    cases x <;> cases y <;> simp only [op2D, reduceCtorEq] at hd
    rename_i s l
    obtain ⟨xs, hx, hd⟩ := Option.bind_eq_some_iff.mp hd
    split at hd
    · rename_i hz
      cases hd
      exact .of_sh (ev_join hpb p2 hl hx hz ((s1 X good hy Γ ρ ok.1).1 _ d1).1 ((s2 X good hy Γ ρ ok.2).1 _ d2).1) rfl
    · cases hd
  · rename_i b hb
    rcases mk_of hb with ⟨z, _⟩ | ⟨z, _⟩ | ⟨z, _⟩ | ⟨_, rfl⟩ <;> try cases z
    obtain ⟨h1, e1, h⟩ := Option.bind_eq_some_iff.mp h
    obtain ⟨h2, e2, rfl⟩ := Option.map_eq_some_iff.mp h
    obtain ⟨p1, s1⟩ := hE sc o h1 e1
    obtain ⟨p2, s2⟩ := hE sc b h2 e2
    simp only [okE, Bool.and_eq_true] at ok
    refine ⟨fun d hd => ?_, fun j hj => ⟨_, hj, fun d hd => hd⟩⟩
    simp only [evE] at hd
    obtain ⟨x, d1, hd⟩ := Option.bind_eq_some_iff.mp hd
    obtain ⟨y, d2, hd⟩ := Option.bind_eq_some_iff.mp hd
    cases x with
    | lst l => exact .of_sh (ev_index good hpb p2 hl hd ((s1 X good hy Γ ρ ok.1).1 _ d1).1 ((s2 X good hy Γ ρ ok.2).1 _ d2).1) rfl
    | _ => simp [op2D] at hd
  · rename_i b c hb
    rcases mk_of hb with ⟨z, _⟩ | ⟨z, _⟩ | ⟨_, rfl⟩ | ⟨z, _⟩ <;> try cases z
    obtain ⟨h1, e1, h⟩ := Option.bind_eq_some_iff.mp h
    obtain ⟨h2, e2, h⟩ := Option.bind_eq_some_iff.mp h
    obtain ⟨h3, e3, rfl⟩ := Option.map_eq_some_iff.mp h
    obtain ⟨p1, s1⟩ := hE sc o h1 e1
    obtain ⟨p2, s2⟩ := hE sc b h2 e2
    obtain ⟨p3, s3⟩ := hE sc c h3 e3
    simp only [okE, Bool.and_eq_true] at ok
    refine ⟨fun d hd => ?_, fun j hj => ⟨_, hj, fun d hd => hd⟩⟩
    simp only [evE] at hd
    obtain ⟨x, d1, hd⟩ := Option.bind_eq_some_iff.mp hd
    obtain ⟨y, d2, hd⟩ := Option.bind_eq_some_iff.mp hd
    obtain ⟨z, d3, hd⟩ := Option.bind_eq_some_iff.mp hd
    cases x <;> simp [op3D] at hd
    obtain ⟨key, hk, rfl⟩ := hd
    exact .of_sh (ev_get good hpb p2 p3 hl hk ((s1 X good hy Γ ρ ok.1.1.1).1 _ d1).1 ((s2 X good hy Γ ρ ok.1.1.2).1 _ d2).1 (((s3 X good hy Γ ρ ok.1.2).1 _ d3).2.1 ok.2)) rfl
  · cases h
end DL

set_option Elab.async false
set_option linter.all false
set_option maxRecDepth 100000
set_option maxHeartbeats 4000000
namespace DL
open PySem PySem.Spec L2
variable (N : List Str) (fs : List (Str × List Md)) (Φ : Nat → List D → Option D) (k : Nat)

theorem seqL_eq {d : D} {l : List D} (h : seqL d = some l) : l.length ≤ lim ∧ (d = .lst l ∨ d = .tup l ∨ d = .scr l) := by
  unfold seqL at h
  obtain ⟨l', h1, h2⟩ := Option.bind_eq_some_iff.mp h
  split at h2
  · rename_i hl
    cases h2
    refine ⟨hl, ?_⟩
    cases d <;> simp [seqD] at h1 <;> subst h1 <;> simp
  · cases h2
theorem rngOf_eq {sc : Scope} {e a : Expr} {b : Option Expr} (h : rngOf sc e = some (a, b)) : ∃ p pos, glS sc "range" = true ∧ plainE a = true ∧ ((b = none ∧ e = .Call (.Name "range" p) [a] [] pos) ∨ ∃ b', b = some b' ∧ plainE b' = true ∧ e = .Call (.Name "range" p) [a, b'] [] pos) := by
  unfold rngOf at h
  split at h
  · split at h
    · rename_i hc
      obtain ⟨rfl, h1, h2⟩ := hc
      split at h
      · cases h
        simp [plainEs] at h2
        exact ⟨_, _, h1, h2, .inl ⟨rfl, rfl⟩⟩
      · cases h
        simp [plainEs] at h2
        exact ⟨_, _, h1, h2.1, .inr ⟨_, rfl, h2.2, rfl⟩⟩
      · cases h
    · cases h
  · cases h
theorem zipOf_eq {sc : Scope} {tp : Bool} {e a b : Expr} (h : zipOf sc tp e = some (a, b)) : ∃ p pos, e = .Call (.Name "zip" p) [a, b] [] pos ∧ glS sc "zip" = true ∧ plainE a = true ∧ plainE b = true ∧ tp = true := by
  unfold zipOf at h
  split at h
  · split at h
    · rename_i hc
      obtain ⟨h1, rfl, h2, h3, h4⟩ := hc
      cases h
      exact ⟨_, _, rfl, h2, h3, h4, h1⟩
    · cases h
  · cases h
theorem isTup_eq {tg : Expr} (h : isTup tg = true) : ∃ elts kk pos, tg = .Tuple elts kk pos := by
  cases tg <;> first | exact ⟨_, _, _, rfl⟩ | cases h
theorem lim_big : -(2 ^ 62 : Int) ≤ -(lim : Int) ∧ (lim : Int) < 2 ^ 62 := by decide
theorem si_succ {n : Nat} (hE : SE N fs Φ k n) : SI N fs Φ k (n + 1) := by
  intro sc tp e ir h X good hy Γ ρ ok l hl z tg htp hz
  simp only [cI] at h
  split at h
  · rename_i a hr
    obtain ⟨p, pos, hg, hp, ⟨_, rfl⟩ | ⟨b', hb, _⟩⟩ := rngOf_eq hr
    · obtain ⟨h1, e1, rfl⟩ := Option.map_eq_some_iff.mp h
      obtain ⟨_, s1⟩ := hE sc a h1 e1
      simp only [evI] at hl
      obtain ⟨x, d1, hl⟩ := Option.bind_eq_some_iff.mp hl
      cases x <;> simp only [reduceCtorEq] at hl
      split at hl
      · rename_i hj
        cases hl
        exact ei_rng1 good (hy.blt _ (by simp [bltNames])) hg hp hj.1 (Int.le_trans lim_big.1 hj.2) ((s1 X good hy Γ ρ (by simpa [okE] using ok)).1 _ d1).1
      · cases hl
    · cases hb
  · rename_i a b hr
    obtain ⟨p, pos, hg, hp, ⟨hb, _⟩ | ⟨b', hb, hp2, rfl⟩⟩ := rngOf_eq hr
    · cases hb
    · cases hb
      obtain ⟨h1, e1, h⟩ := Option.bind_eq_some_iff.mp h
      obtain ⟨h2, e2, rfl⟩ := Option.map_eq_some_iff.mp h
      obtain ⟨_, s1⟩ := hE sc a h1 e1
      obtain ⟨_, s2⟩ := hE sc b h2 e2
      simp only [okE, Bool.and_eq_true] at ok
      simp only [evI] at hl
      obtain ⟨x, d1, hl⟩ := Option.bind_eq_some_iff.mp hl
      obtain ⟨y, d2, hl⟩ := Option.bind_eq_some_iff.mp hl
      cases x <;> cases y <;> simp only [reduceCtorEq] at hl
      split at hl
      · rename_i hj
        cases hl
        exact ei_rng2 good (hy.blt _ (by simp [bltNames])) hg hp hp2 hj.1 hj.2.2.1 (Int.le_trans lim_big.1 hj.2.2.2) (by have := lim_big.2; omega) ((s1 X good hy Γ ρ ok.1).1 _ d1).1 ((s2 X good hy Γ ρ ok.2).1 _ d2).1
      · cases hl
  split at h
  · rename_i a b hr
    obtain ⟨p, pos, rfl, hg, hp, hp2, ht⟩ := zipOf_eq hr
    obtain ⟨h1, e1, h⟩ := Option.bind_eq_some_iff.mp h
    obtain ⟨h2, e2, rfl⟩ := Option.map_eq_some_iff.mp h
    obtain ⟨_, s1⟩ := hE sc a h1 e1
    obtain ⟨_, s2⟩ := hE sc b h2 e2
    obtain ⟨elts, kk, tpos, rfl⟩ := htp ht
    simp only [okE, Bool.and_eq_true] at ok
    simp only [evI] at hl
    obtain ⟨x, d1, hl⟩ := Option.bind_eq_some_iff.mp hl
    obtain ⟨y, d2, hl⟩ := Option.bind_eq_some_iff.mp hl
    obtain ⟨l', hz', hl⟩ := Option.bind_eq_some_iff.mp hl
    split at hl
    · rename_i hlen
      cases hl
      cases x <;> cases y <;> simp [zipD] at hz'
      subst hz'
      exact ei_zipT good (hy.blt _ (by simp [bltNames])) hg hp hp2 (lim_le hlen) ((s1 X good hy Γ ρ ok.1).1 _ d1).1 ((s2 X good hy Γ ρ ok.2).1 _ d2).1
    · cases hl
  · obtain ⟨h1, e1, rfl⟩ := Option.map_eq_some_iff.mp h
    obtain ⟨_, s1⟩ := hE sc e h1 e1
    simp only [evI] at hl
    obtain ⟨d, d1, hl⟩ := Option.bind_eq_some_iff.mp hl
    obtain ⟨hlen, hd⟩ := seqL_eq hl
    obtain ⟨r1, r2, _, r4⟩ := (s1 X good hy Γ ρ (by simpa [okE] using ok)).1 d d1
    have hsz : l.length ≤ sizeLine := lim_le hlen
    have hB : EvB z X e Γ ρ d := by
      cases z with
      | false => exact .of_bo r1
      | true =>
        have hz := hz rfl
        by_cases hes : esc Γ h1 = true
        · exact .of_sh (r2 hes)
        · have hv : ∃ i, h1 = .var i ∧ Γ[i]? = some Md.bo := by
            cases h1 with
            | var i =>
              simp only [okIt, esc, Bool.or_eq_true, decide_eq_true_eq] at hz hes
              rcases hz with hz | hz
              · exact absurd hz hes
              · exact ⟨i, rfl, hz⟩
            | _ => simp only [okIt] at hz; exact absurd hz hes
          obtain ⟨i, rfl, hb⟩ := hv
          exact r4 i rfl hb
    rcases hd with rfl | rfl | rfl
    · exact ei_list hsz hB (.inl rfl)
    · exact ei_tup hsz r1
    · exact ei_list hsz hB (.inr rfl)

theorem ev_boneB {X : Cx} {a : Expr} {op : BoolOp} {pos : Pos} {Γ : MEnv} {ρ : DEnv} {d : D} (ha : EvB true X a Γ ρ d) : EvB true X (.BoolOp op [a] pos) Γ ρ d := fun lv B0 H0 B H σ S Q q => of_pe (pe_one pe_of) (ha lv B0 H0 B H σ S Q q)
theorem ev_chainT {X : Cx} {sc : Scope} {a b c : Expr} {Γ : MEnv} {ρ : DEnv} {x y z : D} {pos : Pos} {op op' : CmpOp} (g : Good X N sc k) (hc' : plainE c = true) {j r : Bool} (h : op2D (cmpO op) x y = some (.bl j)) (ha : EvM .bo X a Γ ρ x) (hb : EvM .bo X b Γ ρ y)
    (h1 : j = true → EvM .bo X c Γ ρ z ∧ op2D (cmpO op') y z = some (.bl r)) (h0 : j = false → r = false) : EvT X (.Compare a [op, op'] [b, c] pos) Γ ρ r := fun lv B0 H0 B H σ S Q q => by
  obtain ⟨r1', j', e, p1, p2⟩ := cmp_sem (X := X) g.hu h
  cases j with
  | true =>
    obtain ⟨hc, h'⟩ := h1 rfl
    obtain ⟨r', j2, e2, p3, p4⟩ := cmp_sem (X := X) g.hu h'
    refine of_pt (pt_chain p1 p3 pe_of pe_of pe_of (lastM hc')) ?_
    refine ha lv B0 H0 B H σ S _ fun v1 B1 H1 x1 r1 => ?_
    refine hb lv B0 H0 B1 H1 σ (S.grow x1) _ fun v2 B2 H2 x2 r2 => ?_
    refine p2 B2 H2 v1 v2 x2.bh (Bor.mono x2.bb x2.hh r1) r2 _ fun v3 B3 H3 x3 r3 => ?_
    cases r3
    refine ⟨true, rfl, iteT ?_⟩
    have x12 := (x1.trans x2).trans x3
    refine hc lv B0 H0 B3 H3 σ (S.grow x12) _ fun v4 B4 H4 x4 r4 => ?_
    refine p4 B4 H4 v2 v4 x4.bh (Bor.mono (x3.bb.trans x4.bb) (x3.hh.trans x4.hh) r2) r4 _ fun v B' H' x5 r5 => ?_
    cases r5
    exact ⟨r, rfl, q B' H' ((x12.trans x4).trans x5)⟩
  | false =>
    cases h0 rfl
    refine of_pt (pt_chain (op' := op') (r' := fun _ _ _ _ => False) p1 (fun _ _ _ _ _ _ _ _ _ _ _ _ h => h.elim) pe_of pe_of pe_of (lastM hc')) ?_
    refine ha lv B0 H0 B H σ S _ fun v1 B1 H1 x1 r1 => ?_
    refine hb lv B0 H0 B1 H1 σ (S.grow x1) _ fun v2 B2 H2 x2 r2 => ?_
    refine p2 B2 H2 v1 v2 x2.bh (Bor.mono x2.bb x2.hh r1) r2 _ fun v3 B3 H3 x3 r3 => ?_
    cases r3
    exact ⟨false, rfl, iteF ⟨false, rfl, q B3 H3 ((x1.trans x2).trans x3)⟩⟩
theorem cmp_bl {op : CmpOp} {x y d : D} (h : op2D (cmpO op) x y = some d) : ∃ b, d = .bl b := by
  have aux : ∀ (o : Option Bool) (f : Bool → D), (∀ b, ∃ b', f b = .bl b') → o.map f = some d → ∃ b, d = .bl b := fun o f hf h => by
    obtain ⟨b, _, rfl⟩ := Option.map_eq_some_iff.mp h
    exact hf b
  cases op <;> simp only [cmpO] at h
  · exact aux _ (fun b => .bl b) (fun b => ⟨b, rfl⟩) h
  · exact aux _ (fun b => .bl (!b)) (fun b => ⟨_, rfl⟩) h
  · cases x <;> cases y <;> simp [op2D] at h <;> exact ⟨_, h.symm⟩
  · cases x <;> cases y <;> simp [op2D] at h <;> exact ⟨_, h.symm⟩
  · cases x <;> cases y <;> simp [op2D] at h <;> exact ⟨_, h.symm⟩
  · cases x <;> cases y <;> simp [op2D] at h <;> exact ⟨_, h.symm⟩
  · cases y <;> simp [op2D] at h; cases x <;> cases h <;> exact ⟨_, rfl⟩
  · cases y <;> simp [op2D] at h; cases x <;> cases h <;> exact ⟨_, rfl⟩
  · exact aux _ (fun b => .bl b) (fun b => ⟨b, rfl⟩) h
  · exact aux _ (fun b => .bl (!b)) (fun b => ⟨_, rfl⟩) h
/-- targets -/
theorem pg_of {X : Cx} {sc : Scope} (g : Good X N sc k) : ∀ (n : Nat), (∀ tg t, cT N n sc tg = some t → PG X tg (gOf X.K t)) ∧ (∀ es t, cT.cTs N n sc es = some t → PGs X es (gsOf X.K t) ∧ es.length = lenT t ∧ (assignEach es X.env).length = es.length ∧ (assignEach es X.env).findIdx? (·.1) = none)
  | 0 => ⟨fun tg t h => by simp [cT] at h, fun es t h => by
      cases es with
      | nil => simp only [cT.cTs, Option.some.injEq] at h; subst h; exact ⟨pgs_nil, rfl, rfl, rfl⟩
      | cons _ _ => simp [cT.cTs] at h⟩
  | n + 1 => by
    obtain ⟨i1, i2⟩ := pg_of g n
    constructor
    · intro tg t h
      cases tg with
      | Name x pos =>
        simp only [cT] at h
        split at h
        · rename_i hs
          obtain ⟨j, h1, rfl⟩ := Option.map_eq_some_iff.mp h
          obtain ⟨l1, l2⟩ := g.st x hs
          exact pg_name (by rw [g.hN]; exact g.nd) (by rw [g.hN]; exact ixOf_0 h1) l1 l2
        · cases h
      | Tuple es kk pos =>
        simp only [cT] at h
        obtain ⟨t', h1, rfl⟩ := Option.map_eq_some_iff.mp h
        obtain ⟨p1, p2, p3, p4⟩ := i2 es t' h1
        exact pg_tup g.calm p1 (by rw [p3, p2]) p4
      | _ => simp [cT] at h
    · intro es t h
      cases es with
      | nil => simp only [cT.cTs, Option.some.injEq] at h; subst h; exact ⟨pgs_nil, rfl, rfl, rfl⟩
      | cons e es =>
        simp only [cT.cTs] at h
        obtain ⟨a, h1, h⟩ := Option.bind_eq_some_iff.mp h
        obtain ⟨b, h2, rfl⟩ := Option.map_eq_some_iff.mp h
        obtain ⟨p1, p2, p3, p4⟩ := i2 es b h2
        have hs : assignEach (e :: es) X.env = (false, assign e X.env) :: assignEach es X.env := by
          cases e with
          | Starred _ _ => cases n <;> simp [cT] at h1
          | _ => rfl
        refine ⟨pgs_cons (i1 e a h1) p1 (by rw [hs]; rfl), by rw [List.length_cons, p2]; rfl, by rw [hs, List.length_cons, p3, List.length_cons], ?_⟩
        rw [hs]
        simp [List.findIdx?_cons, p4]
end DL

set_option Elab.async false
set_option linter.all false
set_option maxRecDepth 100000
set_option maxHeartbeats 4000000
namespace DL
open PySem PySem.Spec L2
variable (N : List Str) (fs : List (Str × List Md)) (Φ : Nat → List D → Option D) (k : Nat)

theorem evT_op2 {o : Op2} {a b : E} {ρ : DEnv} : evT Φ (.op2 o a b) ρ = (evE Φ (.op2 o a b) ρ).bind truD := by simp only [evT, evE]
theorem se_succ {n : Nat} (hE : SE N fs Φ k n) (hA : SA N fs Φ k n) (hO : SO N fs Φ k n) (hI : SI N fs Φ k n) (hN : SN N fs Φ k n) (hM : SM N fs Φ k n) : SE N fs Φ k (n + 1) := by
  intro sc e ir h
  cases e with
  | Name x pos =>
    simp only [cE] at h
    split at h
    · rename_i hc
      simp only [Bool.and_eq_true] at hc
      obtain ⟨i, h1, rfl⟩ := Option.map_eq_some_iff.mp h
      refine ⟨rfl, fun X g hy Γ ρ ok => ?_⟩
      obtain ⟨n1, n2⟩ := nameOk_1 hc.2
      have hx : X.N[i]? = some x := by rw [g.hN]; exact ixOf_0 h1
      have hv := g.vis x hc.1
      have rd : ∀ d, evE Φ (.var i) ρ = some d → ρ[i]? = some (some d) := fun d hd => by
        simp only [evE] at hd
        obtain ⟨o, o1, o2⟩ := Option.bind_eq_some_iff.mp hd
        have : o = some d := o2
        rw [o1, this]
      refine ⟨fun d hd => ⟨ev_var hx hv n1 n2 (rd d hd), fun hm => ev_varS hx hv n1 n2 (rd d hd) (by simpa [esc] using hm), (fun z => by cases z), fun j hj hb => ?_⟩, fun j hj => ?_⟩
      · cases hj; exact EvB.var hx hv n1 n2 (rd d hd) hb
      · simp only [evT] at hj
        obtain ⟨d, d1, d2⟩ := Option.bind_eq_some_iff.mp hj
        exact ev_truth rfl d2 (ev_var hx hv n1 n2 (rd d (by simpa only [evE] using d1)))
    · cases h
  | Constant c kk pos =>
    simp only [cE] at h
    have fin : ∀ {d : D}, (∀ X : Cx, PE X (.Constant c kk pos) (tC (match d with | .non => .non | .bl b => .bl b | .int i => .int i | .str s => .str s | _ => .non)) ∧ ∀ B, Rep X.K B (match d with | .non => .non | .bl b => .bl b | .int i => .int i | .str s => .str s | _ => .non) d) → plainE (.Constant c kk pos) = true ∧ ∀ X, Good X N sc k → Hyp X fs Φ k → ∀ Γ ρ, okE fs Γ (.con d) = true → (∀ d', evE Φ (.con d) ρ = some d' → R3 X (.Constant c kk pos) Γ ρ (.con d) d') ∧ (∀ j, evT Φ (.con d) ρ = some j → EvT X (.Constant c kk pos) Γ ρ j) := fun {d} hp => by
      refine ⟨rfl, fun X g hy Γ ρ ok => ⟨fun d' hd => ?_, fun j hj => ?_⟩⟩
      · simp only [evE, Option.some.injEq] at hd
        subst hd
        exact .of_sh (ev_const (hp X).1 (hp X).2) rfl
      · simp only [evT] at hj
        exact ev_truth rfl hj (ev_const (hp X).1 (hp X).2).bo_of
    cases c with
    | none => simp only [Option.some.injEq] at h; subst h; exact fin fun X => ⟨pe_non, fun B => .non⟩
    | bool b => simp only [Option.some.injEq] at h; subst h; exact fin fun X => ⟨pe_bl, fun B => .bl b⟩
    | int i => simp only [Option.some.injEq] at h; subst h; exact fin fun X => ⟨pe_int, fun B => .int i⟩
    | str s =>
      simp only at h
      split at h
      · rename_i hs
        simp only [Bool.and_eq_true, decide_eq_true_eq] at hs
        cases h
        exact fin fun X => ⟨pe_str, fun B => .str s ⟨hs.1, lim_le hs.2⟩⟩
      · cases h
    | _ => cases h
  | BinOp a op b pos =>
    simp only [cE] at h
    obtain ⟨o, ho, h⟩ := Option.bind_eq_some_iff.mp h
    obtain ⟨h1, e1, h⟩ := Option.bind_eq_some_iff.mp h
    obtain ⟨h2, e2, rfl⟩ := Option.map_eq_some_iff.mp h
    obtain ⟨_, s1⟩ := hE sc a h1 e1
    obtain ⟨_, s2⟩ := hE sc b h2 e2
    refine ⟨rfl, fun X g hy Γ ρ ok => ?_⟩
    simp only [okE, Bool.and_eq_true] at ok
    have main : ∀ d, evE Φ (.op2 o h1 h2) ρ = some d → EvM (mdR d) X (.BinOp a op b pos) Γ ρ d := fun d hd => by
      simp only [evE] at hd
      obtain ⟨x, d1, hd⟩ := Option.bind_eq_some_iff.mp hd
      obtain ⟨y, d2, hd⟩ := Option.bind_eq_some_iff.mp hd
      exact ev_bin ho hd ((s1 X g hy Γ ρ ok.1).1 x d1).1 ((s2 X g hy Γ ρ ok.2).1 y d2).1
    refine ⟨fun d hd => .of_md (main d hd), fun j hj => ?_⟩
    rw [evT_op2] at hj
    exact snd_t rfl (fun d hd => (R3.of_md (ir := .nop) (main d hd)).1) hj
  | UnaryOp op a pos =>
    cases op with
    | Not =>
      simp only [cE] at h
      obtain ⟨h1, e1, rfl⟩ := Option.map_eq_some_iff.mp h
      obtain ⟨_, s1⟩ := hE sc a h1 e1
      refine ⟨rfl, fun X g hy Γ ρ ok => ?_⟩
      simp only [okE] at ok
      refine ⟨fun d hd => ?_, fun j hj => ?_⟩
      · simp only [evE] at hd
        obtain ⟨x, d1, hd⟩ := Option.bind_eq_some_iff.mp hd
        cases x <;> cases hd
        exact .of_sh (ev_not ((s1 X g hy Γ ρ ok).1 _ d1).1) rfl
      · simp only [evT] at hj
        obtain ⟨c, c1, rfl⟩ := Option.map_eq_some_iff.mp hj
        exact ev_tNot ((s1 X g hy Γ ρ ok).2 c c1)
    | USub =>
      simp only [cE] at h
      obtain ⟨h1, e1, rfl⟩ := Option.map_eq_some_iff.mp h
      obtain ⟨_, s1⟩ := hE sc a h1 e1
      refine ⟨rfl, fun X g hy Γ ρ ok => ?_⟩
      simp only [okE] at ok
      have main : ∀ d, evE Φ (.op1 .neg h1) ρ = some d → EvM .sh X (.UnaryOp .USub a pos) Γ ρ d := fun d hd => by
        simp only [evE] at hd
        obtain ⟨x, d1, hd⟩ := Option.bind_eq_some_iff.mp hd
        cases x <;> simp [op1D] at hd
        subst hd
        exact ev_neg ((s1 X g hy Γ ρ ok).1 _ d1).1
      refine ⟨fun d hd => .of_sh (main d hd) rfl, fun j hj => ?_⟩
      simp only [evT] at hj
      exact snd_t rfl (fun d hd => (main d (by simpa only [evE] using hd)).bo_of) hj
    | _ => simp [cE] at h
  | BoolOp op vs pos =>
    cases vs with
    | nil => simp [cE] at h
    | cons a r =>
      cases r with
      | nil =>
        simp only [cE] at h
        obtain ⟨_, s1⟩ := hE sc a ir h
        refine ⟨rfl, fun X g hy Γ ρ ok => ⟨fun d hd => ?_, fun j hj => ev_tOne ((s1 X g hy Γ ρ ok).2 j hj)⟩⟩
        obtain ⟨r1, r2, r3, r4⟩ := (s1 X g hy Γ ρ ok).1 d hd
        exact ⟨ev_one r1, fun z => ev_one (r2 z), fun z w => ev_one (r3 z w), fun i z w => ev_boneB (r4 i z w)⟩
      | cons b rest =>
        simp only [cE] at h
        obtain ⟨h1, e1, h⟩ := Option.bind_eq_some_iff.mp h
        obtain ⟨h2, e2, h⟩ := Option.map_eq_some_iff.mp h
        obtain ⟨_, s1⟩ := hE sc a h1 e1
        obtain ⟨_, s2⟩ := hE sc _ h2 e2
        refine ⟨rfl, fun X g hy Γ ρ ok => ?_⟩
        cases op with
        | And =>
          subst h
          simp only [okE, Bool.and_eq_true] at ok
          refine ⟨fun d hd => ?_, fun j hj => ?_⟩
          · simp only [evE] at hd
            obtain ⟨x, d1, hd⟩ := Option.bind_eq_some_iff.mp hd
            cases x <;> try cases hd
            rename_i p
            refine .of_sh (ev_and (p := p) ((s1 X g hy Γ ρ ok.1.1).1 _ d1).1 (fun hp => ?_) fun hp => ?_) rfl
            · subst hp; exact ((s2 X g hy Γ ρ ok.1.2).1 d hd).2.1 ok.2
            · subst hp; cases hd; rfl
          · simp only [evT] at hj
            obtain ⟨p, p1, hj⟩ := Option.bind_eq_some_iff.mp hj
            cases p with
            | true => exact ev_tAnd (p := true) (q := j) ((s1 X g hy Γ ρ ok.1.1).2 _ p1) (fun _ => (s2 X g hy Γ ρ ok.1.2).2 j (by simpa using hj)) (by simp) fun t ht => pw_bool ht
            | false =>
              have : j = false := by simpa [eq_comm] using hj
              subst this
              exact ev_tAnd (p := false) (q := false) ((s1 X g hy Γ ρ ok.1.1).2 _ p1) (fun z => by cases z) (by simp) fun t ht => pw_bool ht
        | Or =>
          subst h
          simp only [okE, Bool.and_eq_true] at ok
          refine ⟨fun d hd => ?_, fun j hj => ?_⟩
          · simp only [evE] at hd
            obtain ⟨x, d1, hd⟩ := Option.bind_eq_some_iff.mp hd
            cases x <;> try cases hd
            rename_i p
            refine .of_sh (ev_or (p := p) ((s1 X g hy Γ ρ ok.1.1).1 _ d1).1 (fun hp => ?_) fun hp => ?_) rfl
            · subst hp; exact ((s2 X g hy Γ ρ ok.1.2).1 d hd).2.1 ok.2
            · subst hp; cases hd; rfl
          · simp only [evT] at hj
            obtain ⟨p, p1, hj⟩ := Option.bind_eq_some_iff.mp hj
            cases p with
            | false => exact ev_tOr (p := false) (q := j) ((s1 X g hy Γ ρ ok.1.1).2 _ p1) (fun _ => (s2 X g hy Γ ρ ok.1.2).2 j (by simpa using hj)) (by simp) fun t ht => pw_bool ht
            | true =>
              have : j = true := by simpa [eq_comm] using hj
              subst this
              exact ev_tOr (p := true) (q := false) ((s1 X g hy Γ ρ ok.1.1).2 _ p1) (fun z => by cases z) (by simp) fun t ht => pw_bool ht
  | IfExp c a b pos =>
    simp only [cE] at h
    obtain ⟨h0, e0, h⟩ := Option.bind_eq_some_iff.mp h
    obtain ⟨h1, e1, h⟩ := Option.bind_eq_some_iff.mp h
    obtain ⟨h2, e2, rfl⟩ := Option.map_eq_some_iff.mp h
    obtain ⟨_, s0⟩ := hE sc c h0 e0
    obtain ⟨_, s1⟩ := hE sc a h1 e1
    obtain ⟨_, s2⟩ := hE sc b h2 e2
    refine ⟨rfl, fun X g hy Γ ρ ok => ⟨fun d hd => ?_, fun j hj => by simp [evT] at hj⟩⟩
    simp only [okE, Bool.and_eq_true] at ok
    simp only [evE] at hd
    obtain ⟨p, p1, hd⟩ := Option.bind_eq_some_iff.mp hd
    have hc := (s0 X g hy Γ ρ ok.1.1).2 p p1
    have all : ∀ m, (p = true → EvM m X a Γ ρ d) → (p = false → EvM m X b Γ ρ d) → EvM m X (.IfExp c a b pos) Γ ρ d := fun m => ev_ite hc
    refine ⟨all .bo (fun z => ?_) fun z => ?_, fun he => all .sh (fun z => ?_) fun z => ?_, (fun z => by cases z), fun i z => by cases z⟩
    · subst z; exact ((s1 X g hy Γ ρ ok.1.2).1 d hd).1
    · subst z; exact ((s2 X g hy Γ ρ ok.2).1 d hd).1
    · simp only [esc, Bool.and_eq_true] at he; subst z; exact ((s1 X g hy Γ ρ ok.1.2).1 d hd).2.1 he.1
    · simp only [esc, Bool.and_eq_true] at he; subst z; exact ((s2 X g hy Γ ρ ok.2).1 d hd).2.1 he.2
  | Compare a ops bs pos =>
    match ops, bs, h with
    | [op], [b], h =>
      simp only [cE] at h
      split at h
      · rename_i hb
        obtain ⟨h1, e1, h⟩ := Option.bind_eq_some_iff.mp h
        obtain ⟨h2, e2, rfl⟩ := Option.map_eq_some_iff.mp h
        obtain ⟨_, s1⟩ := hE sc a h1 e1
        obtain ⟨_, s2⟩ := hE sc b h2 e2
        refine ⟨rfl, fun X g hy Γ ρ ok => ?_⟩
        simp only [okE, Bool.and_eq_true] at ok
        refine ⟨fun d hd => ?_, fun j hj => ?_⟩
        · simp only [evE] at hd
          obtain ⟨x, d1, hd⟩ := Option.bind_eq_some_iff.mp hd
          obtain ⟨y, d2, hd⟩ := Option.bind_eq_some_iff.mp hd
          exact .of_sh (ev_cmp g hb hd ((s1 X g hy Γ ρ ok.1).1 x d1).1 ((s2 X g hy Γ ρ ok.2).1 y d2).1) (by cases op <;> rfl)
        · rw [evT_op2] at hj
          refine snd_tc (fun k' hk => ?_) (fun d hd => ?_) hj
          · simp only [evE] at hk
            obtain ⟨x, d1, hk⟩ := Option.bind_eq_some_iff.mp hk
            obtain ⟨y, d2, hk⟩ := Option.bind_eq_some_iff.mp hk
            exact ev_cmpT g hb hk ((s1 X g hy Γ ρ ok.1).1 x d1).1 ((s2 X g hy Γ ρ ok.2).1 y d2).1
          · simp only [evE] at hd
            obtain ⟨x, d1, hd⟩ := Option.bind_eq_some_iff.mp hd
            obtain ⟨y, d2, hd⟩ := Option.bind_eq_some_iff.mp hd
            exact cmp_bl hd
      · cases h
    | [op, op'], [b, c], h =>
      simp only [cE] at h
      split at h
      · rename_i hb
        simp only [Bool.and_eq_true] at hb
        obtain ⟨h1, e1, h⟩ := Option.bind_eq_some_iff.mp h
        obtain ⟨h2, e2, h⟩ := Option.bind_eq_some_iff.mp h
        obtain ⟨h3, e3, rfl⟩ := Option.map_eq_some_iff.mp h
        obtain ⟨_, s1⟩ := hE sc a h1 e1
        obtain ⟨_, s2⟩ := hE sc b h2 e2
        obtain ⟨_, s3⟩ := hE sc c h3 e3
        refine ⟨rfl, fun X g hy Γ ρ ok => ?_⟩
        simp only [okE, Bool.and_eq_true] at ok
        refine ⟨fun d hd => ?_, fun j hj => ?_⟩
        · simp only [evE] at hd
          obtain ⟨x, d1, hd⟩ := Option.bind_eq_some_iff.mp hd
          obtain ⟨y, d2, hd⟩ := Option.bind_eq_some_iff.mp hd
          obtain ⟨r, d3, hd⟩ := Option.bind_eq_some_iff.mp hd
          obtain ⟨j, rfl⟩ := cmp_bl d3
          cases j with
          | true =>
            obtain ⟨z, d4, hd⟩ := Option.bind_eq_some_iff.mp hd
            exact .of_sh (ev_chain (j := true) g hb.2 d3 ((s1 X g hy Γ ρ ok.1.1).1 x d1).1 ((s2 X g hy Γ ρ ok.1.2).1 y d2).1 (fun _ => ⟨((s3 X g hy Γ ρ ok.2).1 z d4).1, hd⟩) (fun z => by cases z)) rfl
          | false =>
            have hd : some (D.bl false) = some d := hd
            cases hd
            exact .of_sh (ev_chain (j := false) (z := .non) g hb.2 d3 ((s1 X g hy Γ ρ ok.1.1).1 x d1).1 ((s2 X g hy Γ ρ ok.1.2).1 y d2).1 (fun z => by cases z) (fun _ => rfl)) rfl
        · simp only [evT] at hj
          obtain ⟨x, d1, hj⟩ := Option.bind_eq_some_iff.mp hj
          obtain ⟨y, d2, hj⟩ := Option.bind_eq_some_iff.mp hj
          obtain ⟨r, d3, hj⟩ := Option.bind_eq_some_iff.mp hj
          obtain ⟨b', rfl⟩ := cmp_bl d3
          cases b' with
          | true =>
            obtain ⟨w, w1, w2⟩ := Option.bind_eq_some_iff.mp hj
            obtain ⟨z, d4, w1⟩ := Option.bind_eq_some_iff.mp w1
            obtain ⟨b2, rfl⟩ := cmp_bl w1
            cases w2
            exact ev_chainT N k (j := true) g hb.2 d3 ((s1 X g hy Γ ρ ok.1.1).1 x d1).1 ((s2 X g hy Γ ρ ok.1.2).1 y d2).1 (fun _ => ⟨((s3 X g hy Γ ρ ok.2).1 z d4).1, w1⟩) (fun z => by cases z)
          | false =>
            have hj : some false = some j := hj
            cases hj
            exact ev_chainT N k (j := false) (z := .non) g hb.2 d3 ((s1 X g hy Γ ρ ok.1.1).1 x d1).1 ((s2 X g hy Γ ρ ok.1.2).1 y d2).1 (fun z => by cases z) (fun _ => rfl)
      · cases h
    | [], _, h => simp [cE] at h
    | [_], [], h => simp [cE] at h
    | [_], _ :: _ :: _, h => simp [cE] at h
    | _ :: _ :: _ :: _, _, h => simp [cE] at h
    | [_, _], [], h => simp [cE] at h
    | [_, _], [_], h => simp [cE] at h
    | [_, _], _ :: _ :: _ :: _, h => simp [cE] at h
  | Subscript a b pos =>
    have gen : plainE b = true → (∀ h1 h2, cE N fs n sc a = some h1 → cE N fs n sc b = some h2 → ir = .op2 .ix h1 h2 → plainE (.Subscript a b pos) = true ∧ ∀ X, Good X N sc k → Hyp X fs Φ k → ∀ Γ ρ, okE fs Γ ir = true → (∀ d, evE Φ ir ρ = some d → R3 X (.Subscript a b pos) Γ ρ ir d) ∧ (∀ j, evT Φ ir ρ = some j → EvT X (.Subscript a b pos) Γ ρ j)) := fun hb h1 h2 e1 e2 he => by
      subst he
      obtain ⟨_, s1⟩ := hE sc a h1 e1
      obtain ⟨_, s2⟩ := hE sc b h2 e2
      refine ⟨rfl, fun X g hy Γ ρ ok => ?_⟩
      simp only [okE, Bool.and_eq_true] at ok
      have main : ∀ d, evE Φ (.op2 .ix h1 h2) ρ = some d → EvM .sh X (.Subscript a b pos) Γ ρ d := fun d hd => by
        simp only [evE] at hd
        obtain ⟨x, d1, hd⟩ := Option.bind_eq_some_iff.mp hd
        obtain ⟨y, d2, hd⟩ := Option.bind_eq_some_iff.mp hd
        exact ev_ix g hb hd ((s1 X g hy Γ ρ ok.1).1 x d1).1 ((s2 X g hy Γ ρ ok.2).1 y d2).1
      refine ⟨fun d hd => .of_sh (main d hd) rfl, fun j hj => ?_⟩
      rw [evT_op2] at hj
      exact snd_t rfl (fun d hd => (main d hd).bo_of) hj
    simp only [cE] at h
    split at h
    · rename_i lo hi p2
      obtain ⟨h1, e1, h⟩ := Option.bind_eq_some_iff.mp h
      obtain ⟨h2, e2, h⟩ := Option.bind_eq_some_iff.mp h
      obtain ⟨h3, e3, rfl⟩ := Option.map_eq_some_iff.mp h
      obtain ⟨_, s1⟩ := hE sc a h1 e1
      refine ⟨rfl, fun X g hy Γ ρ ok => ?_⟩
      simp only [okE, Bool.and_eq_true] at ok
      refine ⟨fun d hd => ?_, fun j hj => by simp [evT] at hj⟩
      simp only [evE] at hd
      obtain ⟨x, d1, hd⟩ := Option.bind_eq_some_iff.mp hd
      obtain ⟨l, d2, hd⟩ := Option.bind_eq_some_iff.mp hd
      obtain ⟨u, d3, hd⟩ := Option.bind_eq_some_iff.mp hd
      exact .of_md (ev_sl hd ((s1 X g hy Γ ρ ok.1.1).1 x d1).1 (hO sc lo h2 e2 X g hy Γ ρ ok.1.2 l d2) (hO sc hi h3 e3 X g hy Γ ρ ok.2 u d3))
    · split at h
      · rename_i hb
        obtain ⟨h1, e1, h⟩ := Option.bind_eq_some_iff.mp h
        obtain ⟨h2, e2, h⟩ := Option.map_eq_some_iff.mp h
        exact gen hb h1 h2 e1 e2 h.symm
      · cases h
  | List es pos =>
    simp only [cE] at h
    obtain ⟨h1, e1, rfl⟩ := Option.map_eq_some_iff.mp h
    obtain ⟨_, s1⟩ := hA sc es h1 e1
    refine ⟨rfl, fun X g hy Γ ρ ok => ⟨fun d hd => ?_, fun j hj => by simp [evT] at hj⟩⟩
    simp only [okE, Bool.and_eq_true] at ok
    simp only [evE] at hd
    obtain ⟨ds, d1, hd⟩ := Option.bind_eq_some_iff.mp hd
    split at hd
    · rename_i hl
      cases hd
      exact .of_ow (ev_lst hl ((s1 X g hy Γ ρ ok.1 ds d1).2.1 ok.2))
    · cases hd
  | Tuple es kk pos =>
    simp only [cE] at h
    obtain ⟨h1, e1, rfl⟩ := Option.map_eq_some_iff.mp h
    obtain ⟨_, s1⟩ := hA sc es h1 e1
    refine ⟨rfl, fun X g hy Γ ρ ok => ⟨fun d hd => ?_, fun j hj => by simp [evT] at hj⟩⟩
    simp only [okE, Bool.and_eq_true] at ok
    simp only [evE] at hd
    obtain ⟨ds, d1, hd⟩ := Option.bind_eq_some_iff.mp hd
    split at hd
    · rename_i hl
      cases hd
      exact .of_sh (ev_tup hl ((s1 X g hy Γ ρ ok.1 ds d1).2.1 ok.2)) rfl
    · cases hd
  | Dict ks vs pos =>
    match ks, vs, h with
    | [], [], h =>
      simp only [cE, Option.some.injEq] at h
      subst h
      refine ⟨rfl, fun X g hy Γ ρ ok => ⟨fun d hd => ?_, fun j hj => by simp [evT] at hj⟩⟩
      simp only [evE, Option.some.injEq] at hd
      subst hd
      exact .of_ow ev_dnew
    | _ :: _, _, h => simp [cE] at h
    | [], _ :: _, h => simp [cE] at h
  | ListComp elt gs scope pos =>
    match gs, h with
    | [⟨tg, iter, ifs, ia⟩], h =>
      simp only [cE] at h
      split at h
      · rename_i hc
        simp only [Bool.and_eq_true, decide_eq_true_eq] at hc
        obtain ⟨⟨rfl, hb⟩, hpl⟩ := hc
        obtain ⟨h1, e1, h⟩ := Option.bind_eq_some_iff.mp h
        obtain ⟨t, e2, h⟩ := Option.bind_eq_some_iff.mp h
        obtain ⟨h3, e3, h⟩ := Option.bind_eq_some_iff.mp h
        obtain ⟨h4, e4, rfl⟩ := Option.map_eq_some_iff.mp h
        obtain ⟨_, s3⟩ := hE scope elt h3 e3
        refine ⟨rfl, fun X g hy Γ ρ ok => ⟨fun d hd => ?_, fun j hj => by simp [evT] at hj⟩⟩
        simp only [okE, Bool.and_eq_true, List.all_eq_true, List.contains_iff_mem] at ok
        obtain ⟨⟨⟨⟨⟨ok1, ok2⟩, ok3⟩, ok4⟩, ok5⟩, ok6⟩ := ok
        simp only [evE] at hd
        obtain ⟨l, d1, hd⟩ := Option.bind_eq_some_iff.mp hd
        obtain ⟨r, d2, rfl⟩ := Option.map_eq_some_iff.mp hd
        have hi := hI sc (isTup tg) iter h1 e1 X g hy Γ ρ ok1 l d1 false tg isTup_eq (fun z => by cases z)
        have gb : ∀ (s : Shared) (H : Hp) (C : Addr) (cl : List (Str × Addr)) (fp : List Addr), Good (X.blk s H scope (compEnvC scope cl C X.env) fp) N scope k := fun s H C cl fp => g.blk hb s H C cl fp
        have hyb : ∀ (s : Shared) (H : Hp) (C : Addr) (cl : List (Str × Addr)) (fp : List Addr), Hyp (X.blk s H scope (compEnvC scope cl C X.env) fp) fs Φ k := fun s H C cl fp => hy.blk s H scope _ fp
        have hif : ifs.length ≤ 1 := by
          match ifs, e4 with
          | [], _ => exact Nat.zero_le _
          | [_], _ => exact Nat.le_refl _
          | _ :: _ :: _, e4 => cases e4
        refine .of_ow (ev_lc g hb hpl hif hi (fun s H C cl fp => (pg_of N k (gb s H C cl fp) n).1 tg t e2) ok5 ok6 (fun x hx o ho => ?_) d2)
        obtain ⟨ρ', r1, ho⟩ := Option.bind_eq_some_iff.mp ho
        obtain ⟨j, r2, ho⟩ := Option.bind_eq_some_iff.mp ho
        refine ⟨ρ', j, r1, fun z => ?_, fun s H C cl fp => ?_, fun z => ?_, fun z => ?_⟩
        · subst z
          simp only [Option.some.injEq] at e4
          subst e4
          simp only [evT, Option.some.injEq] at r2
          exact r2.symm
        · match ifs, e4 with
          | [], e4 =>
            simp only [Option.some.injEq] at e4
            subst e4
            simp only [evT, Option.some.injEq] at r2
            exact r2.symm
          | [c], e4 => exact ((hE scope c h4 e4).2 _ (gb s H C cl fp) (hyb s H C cl fp) Γ ρ' ok4).2 j r2
          | _ :: _ :: _, e4 => cases e4
        · subst z; simpa [eq_comm] using ho
        · subst z
          obtain ⟨y, r3, rfl⟩ := Option.map_eq_some_iff.mp (show (evE Φ h3 ρ').map some = some o by simpa using ho)
          exact ⟨y, rfl, fun s H C cl fp => ((s3 _ (gb s H C cl fp) (hyb s H C cl fp) Γ ρ' ok2).1 y r3).2.1 ok3⟩
      · cases h
    | [], h => simp [cE] at h
    | _ :: _ :: _, h => simp [cE] at h
  | DictComp kx elt gs scope pos =>
    match gs, h with
    | [⟨tg, iter, ifs, ia⟩], h =>
      simp only [cE] at h
      split at h
      · rename_i hc
        simp only [Bool.and_eq_true, decide_eq_true_eq] at hc
        obtain ⟨⟨rfl, hb⟩, hpl⟩ := hc
        obtain ⟨h1, e1, h⟩ := Option.bind_eq_some_iff.mp h
        obtain ⟨t, e2, h⟩ := Option.bind_eq_some_iff.mp h
        obtain ⟨hk, ek, h⟩ := Option.bind_eq_some_iff.mp h
        obtain ⟨h3, e3, h⟩ := Option.bind_eq_some_iff.mp h
        obtain ⟨h4, e4, rfl⟩ := Option.map_eq_some_iff.mp h
        obtain ⟨_, s3⟩ := hE scope elt h3 e3
        obtain ⟨_, sk⟩ := hE scope kx hk ek
        refine ⟨rfl, fun X g hy Γ ρ ok => ⟨fun d hd => ?_, fun j hj => by simp [evT] at hj⟩⟩
        simp only [okE, Bool.and_eq_true, List.all_eq_true, List.contains_iff_mem] at ok
        obtain ⟨⟨⟨⟨⟨⟨⟨ok1, okk⟩, okk2⟩, ok2⟩, ok3⟩, ok4⟩, ok5⟩, ok6⟩ := ok
        simp only [evE] at hd
        obtain ⟨l, d1, hd⟩ := Option.bind_eq_some_iff.mp hd
        obtain ⟨⟨rk, rv⟩, d2, rfl⟩ := Option.map_eq_some_iff.mp hd
        have hi := hI sc (isTup tg) iter h1 e1 X g hy Γ ρ ok1 l d1 false tg isTup_eq (fun z => by cases z)
        have gb : ∀ (s : Shared) (H : Hp) (C : Addr) (cl : List (Str × Addr)) (fp : List Addr), Good (X.blk s H scope (compEnvC scope cl C X.env) fp) N scope k := fun s H C cl fp => g.blk hb s H C cl fp
        have hyb : ∀ (s : Shared) (H : Hp) (C : Addr) (cl : List (Str × Addr)) (fp : List Addr), Hyp (X.blk s H scope (compEnvC scope cl C X.env) fp) fs Φ k := fun s H C cl fp => hy.blk s H scope _ fp
        have hif : ifs.length ≤ 1 := by
          match ifs, e4 with
          | [], _ => exact Nat.zero_le _
          | [_], _ => exact Nat.le_refl _
          | _ :: _ :: _, e4 => cases e4
        refine .of_ow (ev_dc g hb hpl hif hi (fun s H C cl fp => (pg_of N k (gb s H C cl fp) n).1 tg t e2) ok5 ok6 (fun x hx o ho => ?_) d2)
        obtain ⟨ρ', r1, ho⟩ := Option.bind_eq_some_iff.mp ho
        obtain ⟨j, r2, ho⟩ := Option.bind_eq_some_iff.mp ho
        refine ⟨ρ', j, r1, fun z => ?_, fun s H C cl fp => ?_, fun z => ?_, fun z => ?_⟩
        · subst z
          simp only [Option.some.injEq] at e4
          subst e4
          simp only [evT, Option.some.injEq] at r2
          exact r2.symm
        · match ifs, e4 with
          | [], e4 =>
            simp only [Option.some.injEq] at e4
            subst e4
            simp only [evT, Option.some.injEq] at r2
            exact r2.symm
          | [c], e4 => exact ((hE scope c h4 e4).2 _ (gb s H C cl fp) (hyb s H C cl fp) Γ ρ' ok4).2 j r2
          | _ :: _ :: _, e4 => cases e4
        · subst z; simpa [eq_comm] using ho
        · subst z
          have ho : (evE Φ hk ρ').bind (fun kd => (keyD kd).bind fun key => (evE Φ h3 ρ').map fun y => some (key, y)) = some o := by simpa using ho
          obtain ⟨kd, r3, ho⟩ := Option.bind_eq_some_iff.mp ho
          obtain ⟨key, r4, ho⟩ := Option.bind_eq_some_iff.mp ho
          obtain ⟨y, r5, rfl⟩ := Option.map_eq_some_iff.mp ho
          exact ⟨key, y, kd, rfl, r4, fun s H C cl fp => ((sk _ (gb s H C cl fp) (hyb s H C cl fp) Γ ρ' okk).1 kd r3).2.1 okk2, fun s H C cl fp => ((s3 _ (gb s H C cl fp) (hyb s H C cl fp) Γ ρ' ok2).1 y r5).2.1 ok3⟩
      · cases h
    | [], h => simp [cE] at h
    | _ :: _ :: _, h => simp [cE] at h
  | Call f es kw pos =>
    simp only [cE] at h
    split at h
    · rename_i hkw
      have hkw : kw = [] := by simpa using hkw
      subst hkw
      split at h
      · rename_i g' p
        split at h
        · rename_i hc
          simp only [Bool.and_eq_true] at hc
          exact ⟨rfl, fun X g hy Γ ρ ok => hN sc g' es ir h hc.1.1 hc.1.2 hc.2 p pos X g hy Γ ρ ok⟩
        · cases h
      · rename_i o m apos
        split at h
        · rename_i hc
          simp only [Bool.and_eq_true] at hc
          exact ⟨rfl, fun X g hy Γ ρ ok => hM sc o m es ir h hc.1.1 hc.1.2 apos pos hc.2 X g hy Γ ρ ok⟩
        · cases h
      · cases h
    · cases h
  | _ => simp [cE] at h
theorem snd_all : ∀ n, SE N fs Φ k n ∧ SA N fs Φ k n ∧ SO N fs Φ k n ∧ SI N fs Φ k n ∧ SN N fs Φ k n ∧ SM N fs Φ k n
  | 0 => by
    refine ⟨fun sc e ir h => by simp [cE] at h, fun sc es ir h => ?_, fun sc o ir h => ?_, fun sc tp e ir h => by simp [cI] at h, fun sc g es ir h => by simp [cName] at h, fun sc o m es ir h => by simp [cMeth] at h⟩
    · cases es with
      | nil =>
        simp only [cA, Option.some.injEq] at h
        subst h
        refine ⟨rfl, fun X g hy Γ ρ _ ds hd => ?_⟩
        simp only [evA, Option.some.injEq] at hd
        subst hd
        refine ⟨fun ms hm => ?_, fun _ => ea_nil, fun _ => rfl⟩
        cases ms with
        | nil => exact ea_nil
        | cons m ms => cases m <;> simp [okArgs] at hm
      | cons _ _ => simp [cA] at h
    · cases o with
      | none =>
        simp only [cO, Option.some.injEq] at h
        subst h
        intro X g hy Γ ρ _ r hr
        simp only [evO, Option.some.injEq] at hr
        subst hr; rfl
      | some e => simp [cO] at h
  | n + 1 => by
    obtain ⟨hE, hA, hO, hI, hN, hM⟩ := snd_all n
    exact ⟨se_succ N fs Φ k hE hA hO hI hN hM, sa_succ N fs Φ k hE hA, so_succ N fs Φ k hE, si_succ N fs Φ k hE, sn_succ N fs Φ k hE hA, sm_succ N fs Φ k hE⟩
end DL

set_option Elab.async false
set_option linter.all false
set_option maxRecDepth 100000
set_option maxHeartbeats 4000000
namespace DL
open PySem PySem.Spec L2
variable (N : List Str) (fs : List (Str × List Md)) (Φ : Nat → List D → Option D) (k : Nat)

/-! ### a comprehension that is named -/
def swapS (sc scope : Scope) (y : Str) (py pos : Pos) : Bool := loS sc y && py.line == pos.line && !(scope.names.any fun (n, k) => n == y && (k == .local || k == .cell))
theorem swap_not {X : Cx} {sc scope : Scope} {y : Str} {py pos : Pos} {elt : Expr} {gs : List Comprehension} {l : Nat} (g : Good X N sc k) (hs : stS sc y = true) (h : swapS sc scope y py pos = false) : swapsWith (.ListComp elt gs scope pos) (some (.Name y py)) l X.env = pure false := by
  show (pure (X.env.blockKind == .function && X.env.kindOf y == some .local && py.line == pos.line && !(scope.names.any fun (n, k) => n == y && (k == .local || k == .cell))) : Sem Bool) = pure false
  congr 1
  unfold swapS at h
  by_cases hl : loS sc y = true
  · rw [hl, Bool.true_and] at h
    rw [Bool.and_assoc, h, Bool.and_false]
  · have hc : ceS sc y = true := by
      unfold stS at hs
      unfold loS at hl
      unfold ceS
      split at hs <;> rename_i e <;> first | (rw [e] at hl; exact absurd rfl hl) | rw [e] | cases hs
    have e : X.env.kindOf y = some .cell := g.ce y hc
    rw [e]
    simp
theorem swap_yes {X : Cx} {sc scope : Scope} {y : Str} {py pos : Pos} {elt : Expr} {gs : List Comprehension} {l : Nat} (g : Good X N sc k) (h : swapS sc scope y py pos = true) : swapsWith (.ListComp elt gs scope pos) (some (.Name y py)) l X.env = pure true := by
  unfold swapS at h
  simp only [Bool.and_eq_true] at h
  exact sw_true g.kind (g.lo y h.1.1) h.1.2 (by simpa using h.2)
theorem swap_notD {X : Cx} {sc scope : Scope} {y : Str} {py pos : Pos} {kx elt : Expr} {gs : List Comprehension} {l : Nat} (g : Good X N sc k) (hs : stS sc y = true) (h : swapS sc scope y py pos = false) : swapsWith (.DictComp kx elt gs scope pos) (some (.Name y py)) l X.env = pure false := by
  show (pure (X.env.blockKind == .function && X.env.kindOf y == some .local && py.line == pos.line && !(scope.names.any fun (n, k) => n == y && (k == .local || k == .cell))) : Sem Bool) = pure false
  congr 1
  unfold swapS at h
  by_cases hl : loS sc y = true
  · rw [hl, Bool.true_and] at h
    rw [Bool.and_assoc, h, Bool.and_false]
  · have hc : ceS sc y = true := by
      unfold stS at hs
      unfold loS at hl
      unfold ceS
      split at hs <;> rename_i e <;> first | (rw [e] at hl; exact absurd rfl hl) | rw [e] | cases hs
    have e : X.env.kindOf y = some .cell := g.ce y hc
    rw [e]
    simp
theorem sw_trueD {kx elt : Expr} {gs : List Comprehension} {scope : Scope} {pos py : Pos} {y : Str} {l : Nat} {env : Env} (hk : env.scope.kind = .function) (hy : env.scope.names.lookup y = some .local) (hl : (py.line == pos.line) = true)
    (ha : (scope.names.any fun (n, k) => n == y && (k == .local || k == .cell)) = false) : swapsWith (.DictComp kx elt gs scope pos) (some (.Name y py)) l env = pure true := by
  have ky : env.kindOf y = some .local := hy
  have hb : env.blockKind = .function := by unfold Env.blockKind; rw [hk]; rfl
  unfold swapsWith
  simp only [hb, ky, ha, Expr.pos, hl]
  rfl
theorem swap_yesD {X : Cx} {sc scope : Scope} {y : Str} {py pos : Pos} {kx elt : Expr} {gs : List Comprehension} {l : Nat} (g : Good X N sc k) (h : swapS sc scope y py pos = true) : swapsWith (.DictComp kx elt gs scope pos) (some (.Name y py)) l X.env = pure true := by
  unfold swapS at h
  simp only [Bool.and_eq_true] at h
  exact sw_trueD g.kind (g.lo y h.1.1) h.1.2 (by simpa using h.2)
/-- all that the rules of a comprehension ask -/
theorem lc_snd {n : Nat} {sc scope : Scope} {elt tg iter : Expr} {ifs : List Expr} {ia : Int} {pos : Pos} {ir : E} (h : cE N fs (n + 1) sc (.ListComp elt [⟨tg, iter, ifs, ia⟩] scope pos) = some ir) {X : Cx} (g : Good X N sc k) (hy : Hyp X fs Φ k) {Γ : MEnv} {ρ : DEnv} (ok : okE fs Γ ir = true) {d : D} (hd : evE Φ ir ρ = some d) :
    ia = 0 ∧ isL d = true ∧ ∃ wi gg tt te own, PI X tg iter wi ∧ BlkOk X.N X.env.scope scope own ∧ (∀ (s : Shared) (H : Hp) (C : Addr) (cl : List (Str × Addr)) (fp : List Addr), PG (X.blk s H scope (compEnvC scope cl C X.env) fp) tg gg) ∧
      (∀ (s : Shared) (H : Hp) (C : Addr) (cl : List (Str × Addr)) (fp : List Addr), PTs (X.blk s H scope (compEnvC scope cl C X.env) fp) ifs tt) ∧ (∀ (s : Shared) (H : Hp) (C : Addr) (cl : List (Str × Addr)) (fp : List Addr), PE (X.blk s H scope (compEnvC scope cl C X.env) fp) elt te) ∧
      (∀ x, foldedSetIterable iter X.env x = pure x) ∧ ∀ lv B0 H0 B H σ, Stt X.K Γ lv B0 H0 B H σ ρ → ∀ Q : VK, (∀ v B' H', Ext B H B' H' → RM X.K .ow H B' H' v d → Q v H') → tLc wi gg tt te (own.map (·.2)) σ H Q := by
  obtain ⟨hE, _, _, hI, _, _⟩ := snd_all N fs Φ k n
  simp only [cE] at h
  split at h
  · rename_i hc
    simp only [Bool.and_eq_true, decide_eq_true_eq] at hc
    obtain ⟨⟨rfl, hb⟩, hpl⟩ := hc
    obtain ⟨h1, e1, h⟩ := Option.bind_eq_some_iff.mp h
    obtain ⟨t, e2, h⟩ := Option.bind_eq_some_iff.mp h
    obtain ⟨h3, e3, h⟩ := Option.bind_eq_some_iff.mp h
    obtain ⟨h4, e4, rfl⟩ := Option.map_eq_some_iff.mp h
    obtain ⟨_, s3⟩ := hE scope elt h3 e3
    simp only [okE, Bool.and_eq_true, List.all_eq_true, List.contains_iff_mem] at ok
    obtain ⟨⟨⟨⟨⟨ok1, ok2⟩, ok3⟩, ok4⟩, ok5⟩, ok6⟩ := ok
    simp only [evE] at hd
    obtain ⟨l, d1, hd⟩ := Option.bind_eq_some_iff.mp hd
    obtain ⟨r, d2, rfl⟩ := Option.map_eq_some_iff.mp hd
    obtain ⟨hl, wi, hpi, hwi⟩ := hI sc (isTup tg) iter h1 e1 X g hy Γ ρ ok1 l d1 false tg isTup_eq (fun z => by cases z)
    have gb : ∀ (s : Shared) (H : Hp) (C : Addr) (cl : List (Str × Addr)) (fp : List Addr), Good (X.blk s H scope (compEnvC scope cl C X.env) fp) N scope k := fun s H C cl fp => g.blk hb s H C cl fp
    have hyb : ∀ (s : Shared) (H : Hp) (C : Addr) (cl : List (Str × Addr)) (fp : List Addr), Hyp (X.blk s H scope (compEnvC scope cl C X.env) fp) fs Φ k := fun s H C cl fp => hy.blk s H scope _ fp
    have hif : ifs.length ≤ 1 := by
      match ifs, e4 with
      | [], _ => exact Nat.zero_le _
      | [_], _ => exact Nat.le_refl _
      | _ :: _ :: _, e4 => cases e4
    refine ⟨rfl, rfl, wi, gOf X.K t, tTBlk X scope ifs, tBlk X scope elt, ownOf N scope, hpi, g.blkOk hb, fun s H C cl fp => (pg_of N k (gb s H C cl fp) n).1 tg t e2, pts_of hif, pe_blk, plainFold hpl, lc_read hl hif hwi ok5 ok6 (fun x hx o ho => ?_) d2⟩
    obtain ⟨ρ', r1, ho⟩ := Option.bind_eq_some_iff.mp ho
    obtain ⟨j, r2, ho⟩ := Option.bind_eq_some_iff.mp ho
    refine ⟨ρ', j, r1, fun z => ?_, fun s H C cl fp => ?_, fun z => ?_, fun z => ?_⟩
    · subst z
      simp only [Option.some.injEq] at e4
      subst e4
      simp only [evT, Option.some.injEq] at r2
      exact r2.symm
    · match ifs, e4 with
      | [], e4 =>
        simp only [Option.some.injEq] at e4
        subst e4
        simp only [evT, Option.some.injEq] at r2
        exact r2.symm
      | [c], e4 => exact ((hE scope c h4 e4).2 _ (gb s H C cl fp) (hyb s H C cl fp) Γ ρ' ok4).2 j r2
      | _ :: _ :: _, e4 => cases e4
    · subst z; simpa [eq_comm] using ho
    · subst z
      obtain ⟨y, r3, rfl⟩ := Option.map_eq_some_iff.mp (show (evE Φ h3 ρ').map some = some o by simpa using ho)
      exact ⟨y, rfl, fun s H C cl fp => ((s3 _ (gb s H C cl fp) (hyb s H C cl fp) Γ ρ' ok2).1 y r3).2.1 ok3⟩
  · cases h
theorem dc_snd {n : Nat} {sc scope : Scope} {kx elt tg iter : Expr} {ifs : List Expr} {ia : Int} {pos : Pos} {ir : E} (h : cE N fs (n + 1) sc (.DictComp kx elt [⟨tg, iter, ifs, ia⟩] scope pos) = some ir) {X : Cx} (g : Good X N sc k) (hy : Hyp X fs Φ k) {Γ : MEnv} {ρ : DEnv} (ok : okE fs Γ ir = true) {d : D} (hd : evE Φ ir ρ = some d) :
    ia = 0 ∧ isL d = true ∧ ∃ wi gg tt tk te own, PI X tg iter wi ∧ BlkOk X.N X.env.scope scope own ∧ (∀ (s : Shared) (H : Hp) (C : Addr) (cl : List (Str × Addr)) (fp : List Addr), PG (X.blk s H scope (compEnvC scope cl C X.env) fp) tg gg) ∧
      (∀ (s : Shared) (H : Hp) (C : Addr) (cl : List (Str × Addr)) (fp : List Addr), PTs (X.blk s H scope (compEnvC scope cl C X.env) fp) ifs tt) ∧ (∀ (s : Shared) (H : Hp) (C : Addr) (cl : List (Str × Addr)) (fp : List Addr), PE (X.blk s H scope (compEnvC scope cl C X.env) fp) kx tk) ∧ (∀ (s : Shared) (H : Hp) (C : Addr) (cl : List (Str × Addr)) (fp : List Addr), PE (X.blk s H scope (compEnvC scope cl C X.env) fp) elt te) ∧
      (∀ x, foldedSetIterable iter X.env x = pure x) ∧ ∀ lv B0 H0 B H σ, Stt X.K Γ lv B0 H0 B H σ ρ → ∀ Q : VK, (∀ v B' H', Ext B H B' H' → RM X.K .ow H B' H' v d → Q v H') → tDc wi gg tt tk te (own.map (·.2)) σ H Q := by
  obtain ⟨hE, _, _, hI, _, _⟩ := snd_all N fs Φ k n
  simp only [cE] at h
  split at h
  · rename_i hc
    simp only [Bool.and_eq_true, decide_eq_true_eq] at hc
    obtain ⟨⟨rfl, hb⟩, hpl⟩ := hc
    obtain ⟨h1, e1, h⟩ := Option.bind_eq_some_iff.mp h
    obtain ⟨t, e2, h⟩ := Option.bind_eq_some_iff.mp h
    obtain ⟨hk, ek, h⟩ := Option.bind_eq_some_iff.mp h
    obtain ⟨h3, e3, h⟩ := Option.bind_eq_some_iff.mp h
    obtain ⟨h4, e4, rfl⟩ := Option.map_eq_some_iff.mp h
    obtain ⟨_, s3⟩ := hE scope elt h3 e3
    obtain ⟨_, sk⟩ := hE scope kx hk ek
    simp only [okE, Bool.and_eq_true, List.all_eq_true, List.contains_iff_mem] at ok
    obtain ⟨⟨⟨⟨⟨⟨⟨ok1, okk⟩, okk2⟩, ok2⟩, ok3⟩, ok4⟩, ok5⟩, ok6⟩ := ok
    simp only [evE] at hd
    obtain ⟨l, d1, hd⟩ := Option.bind_eq_some_iff.mp hd
    obtain ⟨⟨rk, rv⟩, d2, rfl⟩ := Option.map_eq_some_iff.mp hd
    obtain ⟨hl, wi, hpi, hwi⟩ := hI sc (isTup tg) iter h1 e1 X g hy Γ ρ ok1 l d1 false tg isTup_eq (fun z => by cases z)
    have gb : ∀ (s : Shared) (H : Hp) (C : Addr) (cl : List (Str × Addr)) (fp : List Addr), Good (X.blk s H scope (compEnvC scope cl C X.env) fp) N scope k := fun s H C cl fp => g.blk hb s H C cl fp
    have hyb : ∀ (s : Shared) (H : Hp) (C : Addr) (cl : List (Str × Addr)) (fp : List Addr), Hyp (X.blk s H scope (compEnvC scope cl C X.env) fp) fs Φ k := fun s H C cl fp => hy.blk s H scope _ fp
    have hif : ifs.length ≤ 1 := by
      match ifs, e4 with
      | [], _ => exact Nat.zero_le _
      | [_], _ => exact Nat.le_refl _
      | _ :: _ :: _, e4 => cases e4
    refine ⟨rfl, rfl, wi, gOf X.K t, tTBlk X scope ifs, tBlk X scope kx, tBlk X scope elt, ownOf N scope, hpi, g.blkOk hb, fun s H C cl fp => (pg_of N k (gb s H C cl fp) n).1 tg t e2, pts_of hif, pe_blk, pe_blk, plainFold hpl, dc_read hl hif hwi ok5 ok6 (fun x hx o ho => ?_) d2⟩
    obtain ⟨ρ', r1, ho⟩ := Option.bind_eq_some_iff.mp ho
    obtain ⟨j, r2, ho⟩ := Option.bind_eq_some_iff.mp ho
    refine ⟨ρ', j, r1, fun z => ?_, fun s H C cl fp => ?_, fun z => ?_, fun z => ?_⟩
    · subst z
      simp only [Option.some.injEq] at e4
      subst e4
      simp only [evT, Option.some.injEq] at r2
      exact r2.symm
    · match ifs, e4 with
      | [], e4 =>
        simp only [Option.some.injEq] at e4
        subst e4
        simp only [evT, Option.some.injEq] at r2
        exact r2.symm
      | [c], e4 => exact ((hE scope c h4 e4).2 _ (gb s H C cl fp) (hyb s H C cl fp) Γ ρ' ok4).2 j r2
      | _ :: _ :: _, e4 => cases e4
    · subst z; simpa [eq_comm] using ho
    · subst z
      have ho : (evE Φ hk ρ').bind (fun kd => (keyD kd).bind fun key => (evE Φ h3 ρ').map fun y => some (key, y)) = some o := by simpa using ho
      obtain ⟨kd, r3, ho⟩ := Option.bind_eq_some_iff.mp ho
      obtain ⟨key, r4, ho⟩ := Option.bind_eq_some_iff.mp ho
      obtain ⟨y, r5, rfl⟩ := Option.map_eq_some_iff.mp ho
      exact ⟨key, y, kd, rfl, r4, fun s H C cl fp => ((sk _ (gb s H C cl fp) (hyb s H C cl fp) Γ ρ' okk).1 kd r3).2.1 okk2, fun s H C cl fp => ((s3 _ (gb s H C cl fp) (hyb s H C cl fp) Γ ρ' ok2).1 y r5).2.1 ok3⟩
  · cases h
theorem plainA_of {n : Nat} {sc : Scope} {e : Expr} {ir : E} (h : cE N fs n sc e = some ir) (hp : plainE e = true) (hn : ∀ elt gs s p, e ≠ .ListComp elt gs s p) (hn2 : ∀ kx elt gs s p, e ≠ .DictComp kx elt gs s p) : plainA e = true := by
  cases n with
  | zero => simp [cE] at h
  | succ n =>
    cases e with
    | ListComp elt gs s p => exact absurd rfl (hn elt gs s p)
    | DictComp kx elt gs s p => exact absurd rfl (hn2 kx elt gs s p)
    | SetComp _ _ _ _ => simp [cE] at h
    | _ => exact hp
/-- x = e -/
theorem so_assign {n : Nat} {sc : Scope} {e : Expr} {ir : E} {i : Nat} {nm : Str} {p pos : Pos} (h : cE N fs n sc e = some ir) {X : Cx} (g : Good X N sc k) (hy : Hyp X fs Φ k) {Γ : MEnv} {ρ : DEnv} (ok : okE fs Γ ir = true) {d : D} (hd : evE Φ ir ρ = some d) (hi : N[i]? = some nm) (hv : stS sc nm = true)
    (hm : (Γ[i]? = some Md.sh ∧ esc Γ ir = true) ∨ (Γ[i]? = some Md.ow ∧ fresh ir = true ∧ isL d = true)) : StO X (.Assign [.Name nm p] e pos) Γ ρ (.nx (ρ.set i (some d))) := by
  obtain ⟨hp, s⟩ := (snd_all N fs Φ k n).1 sc e ir h
  obtain ⟨r1, r2, r3, _⟩ := (s X g hy Γ ρ ok).1 d hd
  by_cases hlc : ∃ elt gs s p, e = .ListComp elt gs s p
  · obtain ⟨elt, gs, scope, lp, rfl⟩ := hlc
    cases hsw : swapS sc scope nm p lp with
    | false =>
      obtain ⟨h1, h2⟩ := g.st nm hv
      have ps : ∀ {te : TE}, PE X (.ListComp elt gs scope lp) te → PS X (.Assign [.Name nm p] (.ListComp elt gs scope lp) pos) (tAsg te (gName i)) := fun pe => ps_set (by rw [g.hN]; exact g.nd) (by rw [g.hN]; exact hi) h1 pe (swap_not N k g hv hsw) h2
      intro lv B0 H0 B H σ S D q
      refine of_ps (ps pe_of) ?_
      rcases hm with ⟨hm, he⟩ | ⟨hm, hf, hl⟩
      · exact r2 he lv B0 H0 B H σ S _ fun v B' H' x r => q _ B' H' ((S.grow x).setSh hm r)
      · refine r3 hf hl lv B0 H0 B H σ S _ fun v B' H' x r => ?_
        obtain ⟨a, rfl, ha, hb, o⟩ := r
        exact q _ B' H' (S.setOw x hm ha hb o)
    | true =>
      cases n with
      | zero => simp [cE] at h
      | succ n =>
        match gs, h with
        | [⟨tg, iter, ifs, ia⟩], h =>
          obtain ⟨rfl, hl, wi, gg, tt, te, own, a1, a2, a3, a4, a5, a6, a7⟩ := lc_snd N fs Φ k h g hy ok hd
          have hlo : X.env.scope.names.lookup nm = some .local := by
            apply g.lo
            unfold swapS at hsw
            simp only [Bool.and_eq_true] at hsw
            exact hsw.1.1
          intro lv B0 H0 B H σ S D q
          refine of_ps (ps_setLc g.calm (by rw [g.hN]; exact g.nd) (by rw [g.hN]; exact hi) hlo (swap_yes N k g hsw) a1 a2 a3 a4 a5 a6) ?_
          rcases hm with ⟨hm, _⟩ | ⟨hm, _, _⟩
          · refine a7 lv B0 H0 B H σ S _ fun v B' H' x r => ?_
            obtain ⟨B2, x2, _, r2⟩ := fresh_sh x r
            exact q _ B2 H' ((S.grow x2).setSh hm r2)
          · refine a7 lv B0 H0 B H σ S _ fun v B' H' x r => ?_
            obtain ⟨a, rfl, ha, hb, o⟩ := r
            exact q _ B' H' (S.setOw x hm ha hb o)
        | [], h => simp [cE] at h
        | _ :: _ :: _, h => simp [cE] at h
  · by_cases hdc : ∃ kx elt gs s p, e = .DictComp kx elt gs s p
    · obtain ⟨kx, elt, gs, scope, lp, rfl⟩ := hdc
      cases hsw : swapS sc scope nm p lp with
      | false =>
        obtain ⟨h1, h2⟩ := g.st nm hv
        have ps : ∀ {te : TE}, PE X (.DictComp kx elt gs scope lp) te → PS X (.Assign [.Name nm p] (.DictComp kx elt gs scope lp) pos) (tAsg te (gName i)) := fun pe => ps_set (by rw [g.hN]; exact g.nd) (by rw [g.hN]; exact hi) h1 pe (swap_notD N k g hv hsw) h2
        intro lv B0 H0 B H σ S D q
        refine of_ps (ps pe_of) ?_
        rcases hm with ⟨hm, he⟩ | ⟨hm, hf, hl⟩
        · exact r2 he lv B0 H0 B H σ S _ fun v B' H' x r => q _ B' H' ((S.grow x).setSh hm r)
        · refine r3 hf hl lv B0 H0 B H σ S _ fun v B' H' x r => ?_
          obtain ⟨a, rfl, ha, hb, o⟩ := r
          exact q _ B' H' (S.setOw x hm ha hb o)
      | true =>
        cases n with
        | zero => simp [cE] at h
        | succ n =>
          match gs, h with
          | [⟨tg, iter, ifs, ia⟩], h =>
            obtain ⟨rfl, hl, wi, gg, tt, tk, te, own, a1, a2, a3, a4, ak, a5, a6, a7⟩ := dc_snd N fs Φ k h g hy ok hd
            have hlo : X.env.scope.names.lookup nm = some .local := by
              apply g.lo
              unfold swapS at hsw
              simp only [Bool.and_eq_true] at hsw
              exact hsw.1.1
            intro lv B0 H0 B H σ S D q
            refine of_ps (ps_setDc g.calm (by rw [g.hN]; exact g.nd) (by rw [g.hN]; exact hi) hlo (swap_yesD N k g hsw) a1 a2 a3 a4 ak a5 a6) ?_
            rcases hm with ⟨hm, _⟩ | ⟨hm, _, _⟩
            · refine a7 lv B0 H0 B H σ S _ fun v B' H' x r => ?_
              obtain ⟨B2, x2, _, r2⟩ := fresh_sh x r
              exact q _ B2 H' ((S.grow x2).setSh hm r2)
            · refine a7 lv B0 H0 B H σ S _ fun v B' H' x r => ?_
              obtain ⟨a, rfl, ha, hb, o⟩ := r
              exact q _ B' H' (S.setOw x hm ha hb o)
          | [], h => simp [cE] at h
          | _ :: _ :: _, h => simp [cE] at h
    · have hpa := plainA_of N fs h hp (fun elt gs s p z => hlc ⟨elt, gs, s, p, z⟩) (fun kx elt gs s p z => hdc ⟨kx, elt, gs, s, p, z⟩)
      rcases hm with ⟨hm, he⟩ | ⟨hm, hf, hl⟩
      · exact so_set g hi hv hpa hm (r2 he)
      · exact so_setO g hi hv hpa hm (r3 hf hl)

/-! ### statements -/
def okSt (Γ : MEnv) : S → Bool
  | .asg t e => (match t with | .nm i => decide (Γ[i]? = some Md.sh) | _ => false) && okE fs Γ e && esc Γ e
  | .asgO i e => decide (Γ[i]? = some Md.ow) && okE fs Γ e && fresh e
  | .app i e => decide (Γ[i]? = some Md.ow) && okE fs Γ e && esc Γ e
  | .ext i e => decide (Γ[i]? = some Md.ow) && okE fs Γ e
  | .setk i y e => decide (Γ[i]? = some Md.ow) && okE fs Γ y && esc Γ y && okE fs Γ e && esc Γ e
  | .drop e => okE fs Γ e
  | .ret e => okE fs (Γ.map frM) e && esc (Γ.map frM) e
  | .retN => true
  | .ite c a b => okE fs Γ c && okSt Γ a && okSt Γ b
  | .for_ pins t it b => okE fs (pinM pins Γ) it && okIt (pinM pins Γ) it && shT (pinM pins Γ) t && okSt (pinM pins Γ) b
  | .while_ c b => okE fs Γ c && okSt Γ b
  | .brk => true
  | .cnt => true
  | .nx => true
  | .seq a b => okSt Γ a && okSt Γ b
def SS (n : Nat) : Prop := ∀ Γ0 sc st ir, cS N fs Γ0 n sc st = some ir → ∀ X, Good X N sc k → Hyp X fs Φ k → PassesOwn (model X.prog X.w) X.A X.env X.xe → ∀ Γ, okSt fs Γ ir = true → ∀ m ρ o, exS Φ m ir ρ = some o → StO X st Γ ρ o
def SB (n : Nat) : Prop := ∀ Γ0 sc sts ir, cB N fs Γ0 n sc sts = some ir → ∀ X, Good X N sc k → Hyp X fs Φ k → PassesOwn (model X.prog X.w) X.A X.env X.xe → ∀ Γ, okSt fs Γ ir = true → ∀ m ρ o, exS Φ m ir ρ = some o → StS X sts Γ ρ o
theorem sb_nil {Γ0 : MEnv} {n : Nat} {sc : Scope} {ir : S} (h : cB N fs Γ0 n sc [] = some ir) : ir = .nx := by
  cases n <;> simp only [cB, Option.some.injEq] at h <;> exact h.symm
theorem sb_succ {n : Nat} (hS : SS N fs Φ k n) (hB : SB N fs Φ k n) : SB N fs Φ k (n + 1) := by
  intro Γ0 sc sts ir h X g hy hpo Γ ok m ρ o ho
  cases sts with
  | nil =>
    cases sb_nil N fs h
    simp only [exS, Option.some.injEq] at ho
    subst ho
    exact ss_nil
  | cons s ss =>
    simp only [cB] at h
    obtain ⟨a, e1, h⟩ := Option.bind_eq_some_iff.mp h
    obtain ⟨b, e2, rfl⟩ := Option.map_eq_some_iff.mp h
    simp only [okSt, Bool.and_eq_true] at ok
    simp only [exS] at ho
    obtain ⟨o1, r1, ho⟩ := Option.bind_eq_some_iff.mp ho
    have h1 := hS Γ0 sc s a e1 X g hy hpo Γ ok.1 m ρ o1 r1
    refine ss_cons h1 (fun ρ' z => ?_) fun z => ?_
    · subst z
      exact hB Γ0 sc ss b e2 X g hy hpo Γ ok.2 m ρ' o ho
    · cases o1 with
      | nx ρ' => exact absurd rfl (z ρ')
      | _ => cases ho; rfl
theorem ss_succ {n : Nat} (hB : SB N fs Φ k n) : SS N fs Φ k (n + 1) := by
  intro Γ0 sc st ir h X g hy hpo Γ ok m ρ o ho
  have hsE : SE N fs Φ k n := (snd_all N fs Φ k n).1
  have hsI : SI N fs Φ k n := (snd_all N fs Φ k n).2.2.2.1
  cases st with
  | Assign tgs e pos =>
    match tgs, h with
    | [tg], h =>
      simp only [cS] at h
      split at h
      · rename_i x p
        split at h
        · rename_i hv
          obtain ⟨i, i1, h⟩ := Option.bind_eq_some_iff.mp h
          obtain ⟨v, e1, h⟩ := Option.map_eq_some_iff.mp h
          split at h
          · subst h
            simp only [okSt, Bool.and_eq_true, decide_eq_true_eq] at ok
            simp only [exS] at ho
            obtain ⟨d, d1, ho⟩ := Option.bind_eq_some_iff.mp ho
            split at ho
            · rename_i hl
              cases ho
              exact so_assign N fs Φ k e1 g hy ok.1.2 d1 (ixOf_0 i1) hv (.inr ⟨ok.1.1, ok.2, hl⟩)
            · cases ho
          · subst h
            simp only [okSt, Bool.and_eq_true, decide_eq_true_eq] at ok
            simp only [exS] at ho
            obtain ⟨d, d1, ho⟩ := Option.bind_eq_some_iff.mp ho
            simp only [asgT, Option.map_some, Option.some.injEq] at ho
            subst ho
            exact so_assign N fs Φ k e1 g hy ok.1.2 d1 (ixOf_0 i1) hv (.inl ⟨ok.1.1, ok.2⟩)
        · cases h
      · rename_i x p b p2
        split at h
        · rename_i hc
          simp only [Bool.and_eq_true] at hc
          obtain ⟨i, i1, h⟩ := Option.bind_eq_some_iff.mp h
          obtain ⟨v, e1, h⟩ := Option.bind_eq_some_iff.mp h
          obtain ⟨y, e2, rfl⟩ := Option.map_eq_some_iff.mp h
          simp only [okSt, Bool.and_eq_true, decide_eq_true_eq] at ok
          obtain ⟨⟨⟨⟨ok1, ok2⟩, ok3⟩, ok4⟩, ok5⟩ := ok
          simp only [exS] at ho
          obtain ⟨d, d1, ho⟩ := Option.bind_eq_some_iff.mp ho
          obtain ⟨kd, d2, ho⟩ := Option.bind_eq_some_iff.mp ho
          split at ho
          · rename_i ks ds hr
            obtain ⟨key, d3, ho⟩ := Option.bind_eq_some_iff.mp ho
            split at ho
            · rename_i hz
              cases ho
              obtain ⟨n1, n2⟩ := nameOk_1 hc.1.1.2
              exact so_putK g (ixOf_0 i1) hc.1.1.1 n1 n2 ok1 hr hz hc.1.2 d3 (((hsE sc e v e1).2 X g hy Γ ρ ok4).1 d d1 |>.2.1 ok5) (((hsE sc b y e2).2 X g hy Γ ρ ok2).1 kd d2 |>.2.1 ok3)
            · cases ho
          · rename_i l hr
            split at ho
            · rename_i z
              obtain ⟨j, d3, rfl⟩ := Option.map_eq_some_iff.mp ho
              obtain ⟨n1, n2⟩ := nameOk_1 hc.1.1.2
              exact so_seti g (ixOf_0 i1) hc.1.1.1 n1 n2 ok1 hr hc.1.2 hc.2 d3 (((hsE sc e v e1).2 X g hy Γ ρ ok4).1 d d1 |>.2.1 ok5) (((hsE sc b y e2).2 X g hy Γ ρ ok2).1 _ d2 |>.1)
            · cases ho
          · cases ho
        · cases h
      · cases h
    | [], h => simp [cS] at h
    | _ :: _ :: _, h => simp [cS] at h
  | Expr e pos =>
    simp only [cS] at h
    split at h
    · rename_i x p mm apos a cpos
      split at h
      · rename_i hc
        simp only [Bool.and_eq_true] at hc
        obtain ⟨n1, n2⟩ := nameOk_1 hc.1.1.2
        split at h
        · rename_i hm
          subst hm
          obtain ⟨i, i1, h⟩ := Option.bind_eq_some_iff.mp h
          obtain ⟨v, e1, rfl⟩ := Option.map_eq_some_iff.mp h
          simp only [okSt, Bool.and_eq_true, decide_eq_true_eq] at ok
          simp only [exS] at ho
          obtain ⟨d, d1, ho⟩ := Option.bind_eq_some_iff.mp ho
          split at ho
          · rename_i l hr
            split at ho
            · rename_i hz
              cases ho
              exact so_app g (ixOf_0 i1) hc.1.1.1 n1 n2 hc.2 ok.1.1 hr hz hc.1.2 (((hsE sc a v e1).2 X g hy Γ ρ ok.1.2).1 d d1 |>.2.1 ok.2)
            · cases ho
          · cases ho
        · split at h
          · rename_i hm
            subst hm
            obtain ⟨i, i1, h⟩ := Option.bind_eq_some_iff.mp h
            obtain ⟨v, e1, rfl⟩ := Option.map_eq_some_iff.mp h
            simp only [okSt, Bool.and_eq_true, decide_eq_true_eq] at ok
            simp only [exS] at ho
            obtain ⟨d, d1, ho⟩ := Option.bind_eq_some_iff.mp ho
            split at ho
            · rename_i l m' hr
              split at ho
              · rename_i hz
                cases ho
                exact so_ext g (ixOf_0 i1) hc.1.1.1 n1 n2 hc.2 ok.1 hr hz hc.1.2 (((hsE sc a v e1).2 X g hy Γ ρ ok.2).1 _ d1).1
              · cases ho
            · cases ho
          · cases h
      · cases h
    · split at h
      · rename_i hp
        obtain ⟨v, e1, rfl⟩ := Option.map_eq_some_iff.mp h
        simp only [okSt] at ok
        simp only [exS] at ho
        obtain ⟨d, d1, rfl⟩ := Option.map_eq_some_iff.mp ho
        exact so_drop hp (((hsE sc e v e1).2 X g hy Γ ρ ok).1 d d1).1
      · cases h
  | Return oe pos =>
    cases oe with
    | none =>
      simp only [cS, Option.some.injEq] at h
      subst h
      simp only [exS, Option.some.injEq] at ho
      subst ho
      exact so_retN
    | some e =>
      simp only [cS] at h
      obtain ⟨v, e1, rfl⟩ := Option.map_eq_some_iff.mp h
      simp only [okSt, Bool.and_eq_true] at ok
      simp only [exS] at ho
      obtain ⟨d, d1, rfl⟩ := Option.map_eq_some_iff.mp ho
      exact so_ret (((hsE sc e v e1).2 X g hy (Γ.map frM) ρ ok.1).1 d d1 |>.2.1 ok.2)
  | If c a b pos =>
    simp only [cS] at h
    obtain ⟨x, e1, h⟩ := Option.bind_eq_some_iff.mp h
    obtain ⟨y, e2, h⟩ := Option.bind_eq_some_iff.mp h
    obtain ⟨z, e3, rfl⟩ := Option.map_eq_some_iff.mp h
    simp only [okSt, Bool.and_eq_true] at ok
    simp only [exS] at ho
    obtain ⟨j, j1, ho⟩ := Option.bind_eq_some_iff.mp ho
    refine so_if (((hsE sc c x e1).2 X g hy Γ ρ ok.1.1).2 j j1) (fun w => ?_) fun w => ?_
    · subst w; exact hB Γ0 sc a y e2 X g hy hpo Γ ok.1.2 m ρ o ho
    · subst w; exact hB Γ0 sc b z e3 X g hy hpo Γ ok.2 m ρ o (by simpa using ho)
  | For tg iter body oe pos =>
    cases oe with
    | cons _ _ => simp [cS] at h
    | nil =>
      simp only [cS] at h
      split at h
      · rename_i hpl
        obtain ⟨it, e1, h⟩ := Option.bind_eq_some_iff.mp h
        obtain ⟨t, e2, h⟩ := Option.bind_eq_some_iff.mp h
        obtain ⟨b, e3, rfl⟩ := Option.map_eq_some_iff.mp h
        simp only [okSt, Bool.and_eq_true] at ok
        obtain ⟨⟨⟨ok1, ok2⟩, ok3⟩, ok4⟩ := ok
        simp only [exS] at ho
        obtain ⟨l, l1, ho⟩ := Option.bind_eq_some_iff.mp ho
        exact so_for g hpl hpo (hsI sc (isTup tg) iter it e1 X g hy _ ρ ok1 l l1 true tg isTup_eq (fun _ => ok2)) ((pg_of N k g n).1 tg t e2) ok3 (fun ρ2 o2 h2 => hB Γ0 sc body b e3 X g hy hpo _ ok4 m ρ2 o2 h2) ho
      · cases h
  | While c body oe pos =>
    cases oe with
    | cons _ _ => simp [cS] at h
    | nil =>
      simp only [cS] at h
      obtain ⟨x, e1, h⟩ := Option.bind_eq_some_iff.mp h
      obtain ⟨b, e3, rfl⟩ := Option.map_eq_some_iff.mp h
      simp only [okSt, Bool.and_eq_true] at ok
      simp only [exS] at ho
      exact so_while hpo (fun ρ2 j h2 => ((hsE sc c x e1).2 X g hy Γ ρ2 ok.1).2 j h2) (fun ρ2 o2 h2 => hB Γ0 sc body b e3 X g hy hpo Γ ok.2 m ρ2 o2 h2) ho
  | Pass pos =>
    simp only [cS, Option.some.injEq] at h
    subst h
    simp only [exS, Option.some.injEq] at ho
    subst ho
    exact so_pass
  | Break pos =>
    simp only [cS, Option.some.injEq] at h
    subst h
    simp only [exS, Option.some.injEq] at ho
    subst ho
    exact so_brk
  | Continue pos =>
    simp only [cS, Option.some.injEq] at h
    subst h
    simp only [exS, Option.some.injEq] at ho
    subst ho
    exact so_cnt
  | _ => simp [cS] at h
theorem sst_all : ∀ n, SS N fs Φ k n ∧ SB N fs Φ k n
  | 0 => by
    refine ⟨fun Γ0 sc st ir h => by simp [cS] at h, fun Γ0 sc sts ir h X g hy hpo Γ ok m ρ o ho => ?_⟩
    cases sts with
    | nil =>
      cases sb_nil N fs h
      simp only [exS, Option.some.injEq] at ho
      subst ho
      exact ss_nil
    | cons _ _ => simp [cB] at h
  | n + 1 => by
    obtain ⟨hS, hB⟩ := sst_all n
    exact ⟨ss_succ N fs Φ k hB, sb_succ N fs Φ k hS hB⟩
/-- THE RULE: a def whose text reads as ir, and whose reading gives what sem says, keeps the promise of sem -/
theorem def_ok {P : Program} {w : World} {K : PySem.W.Frag} {mg : Str → Option Value} {base : Heap} {x qual : Str} {st : Stmt} {f : Addr} {fd : FuncData} {ps : List Str} {ms : List Md} {sem : List D → Option D} {Γ : MEnv} {n m : Nat} {ir : S}
    (F : Fun K x qual st f fd) (S : FnScope N ps (defScope st)) (hc : cB N fs Γ n (defScope st) (defBody st) = some ir) (hok : okSt fs Γ ir = true)
    (hms : (ms.all fun m => decide (m ≠ .ow)) = true) (hps : ms.length = ps.length) (hΓ : Γ.length = N.length) (ht : Γ.take ms.length = ms)
    (hfn : ∀ i nm ms, fs[i]? = some (nm, ms) → ∃ (f : Addr) (fd : FuncData) (ps : List Str) (j : Nat), j ≤ k ∧ mg nm = some (.ref f) ∧ PySem.W.keepIn K (.ref f) = true ∧ Binds K fd ps [] ∧ FnOk P w K mg base CX0 j f fd ps (spD K ms (Φ i)))
    (hblt : ∀ x ∈ bltNames, mg x = none)
    (hsem : ∀ ds d, ds.length = ms.length → sem ds = some d → runF Φ m N.length ir ds = some d) : FnOk P w K mg base CX0 (k + 1) f fd ps (spD K ms sem) := by
  refine fn_ok F S (fun m hm => by simpa using (List.all_eq_true.mp hms) m hm) hps hΓ ht fun X eP ew eK em eb g hpo ds d hl hd => ?_
  have hy : Hyp X fs Φ k := ⟨fun i nm ms hi => ⟨by rw [eP, ew, eK, em, eb]; exact hfn i nm ms hi⟩, fun x hx => by rw [em]; exact hblt x hx⟩
  have hr := hsem ds d hl hd
  unfold runF at hr
  obtain ⟨o, o1, o2⟩ := Option.bind_eq_some_iff.mp hr
  refine ⟨o, (sst_all N fs Φ k n).2 Γ (defScope st) (defBody st) ir hc X g hy hpo Γ hok m _ o o1, ?_⟩
  cases o with
  | ret d' => cases o2; exact .inl rfl
  | nx ρ => cases o2; exact .inr ⟨ρ, rfl, rfl⟩
  | _ => cases o2
end DL

set_option Elab.async false
set_option linter.all false
set_option maxRecDepth 100000
set_option maxHeartbeats 4000000
namespace DL
open PySem PySem.Spec L2

/-! ### a def as callers see it -/
structure Fg (P : Program) (w : World) (K : PySem.W.Frag) (mg : Str → Option Value) (base : Heap) (k : Nat) (nm : Str) (ms : List Md) (sem : List D → Option D) : Prop where
  ex : ∃ (f : Addr) (fd : FuncData) (ps : List Str) (j : Nat), j ≤ k ∧ mg nm = some (.ref f) ∧ PySem.W.keepIn K (.ref f) = true ∧ Binds K fd ps [] ∧ FnOk P w K mg base CX0 j f fd ps (spD K ms sem)
section
variable {P : Program} {w : World} {K : PySem.W.Frag} {mg : Str → Option Value} {base : Heap}
theorem Fg.mono {j k : Nat} {nm : Str} {ms : List Md} {sem : List D → Option D} (h : j ≤ k) (F : Fg P w K mg base j nm ms sem) : Fg P w K mg base k nm ms sem := by
  obtain ⟨f, fd, ps, i, h1, h2⟩ := F.ex
  exact ⟨f, fd, ps, i, Nat.le_trans h1 h, h2⟩
/-- what the end finds of a def -/
structure Fw (K : PySem.W.Frag) (mg : Str → Option Value) (x : Str) (st : Stmt) (ps : List Str) : Prop where
  ex : ∃ (f : Addr) (fd : FuncData), mg x = some (.ref f) ∧ Fun K x x st f fd ∧ Binds K fd ps []
theorem fg_ok (N : List Str) (fs : List (Str × List Md)) (Φ : Nat → List D → Option D) (k : Nat) {x : Str} {st : Stmt} {ps : List Str} {ms : List Md} {Γ : MEnv} {n m : Nat} {ir : S}
    (W : Fw K mg x st ps) (S : FnScope N ps (defScope st)) (hc : cB N fs Γ n (defScope st) (defBody st) = some ir) (hok : okSt fs Γ ir = true)
    (hblt : ∀ x ∈ bltNames, mg x = none) (hfn : ∀ i nm ms, fs[i]? = some (nm, ms) → Fg P w K mg base k nm ms (Φ i))
    (hms : (ms.all fun m => decide (m ≠ .ow)) = true := by decide) (hps : ms.length = ps.length := by rfl) (hΓ : Γ.length = N.length := by rfl) (ht : Γ.take ms.length = ms := by rfl) : Fg P w K mg base (k + 1) x ms (runF Φ m N.length ir) := by
  obtain ⟨f, fd, h1, F, b⟩ := W.ex
  exact ⟨f, fd, ps, k + 1, Nat.le_refl _, h1, F.kp, b, def_ok N fs Φ k F S hc hok hms hps hΓ ht (fun i nm ms h => (hfn i nm ms h).ex) hblt (fun ds d _ h => h)⟩
/-- the callees, one by one -/
theorem fns_nil {k : Nat} {Φ : Nat → List D → Option D} : ∀ i nm ms, ([] : List (Str × List Md))[i]? = some (nm, ms) → Fg P w K mg base k nm ms (Φ i) := fun i nm ms h => by simp at h
theorem fns_cons {k : Nat} {Φ : Nat → List D → Option D} {nm : Str} {ms : List Md} {fs : List (Str × List Md)} (h0 : Fg P w K mg base k nm ms (Φ 0)) (h : ∀ i nm ms, fs[i]? = some (nm, ms) → Fg P w K mg base k nm ms (Φ (i + 1))) : ∀ i nm' ms', ((nm, ms) :: fs)[i]? = some (nm', ms') → Fg P w K mg base k nm' ms' (Φ i)
  | 0, _, _, e => by simp at e; obtain ⟨rfl, rfl⟩ := e; exact h0
  | i + 1, nm', ms', e => h i nm' ms' (by simpa using e)
end
/-- the end of a law -/
theorem law_walk {l : PySem.W.OpenLaw} {q : Program} {loose : List Str} {XP : (Str → Option Value) → Heap → Prop} {YP : World → Heap → Prop} {d : DefRec} {K : Params → PySem.W.Frag} {k : Nat} {m : Md} {sem : List D → Option D} {x : Str} (hn : l.most = some 63) (hdf : d.params.defaults = []) (hk : Room k callerA) (hm : m ≠ .ow)
    (hsem : ∀ ns : List Int, ns.length ≤ 63 → sem [.scr (ns.map D.int)] = some (.bl true))
    (hY : ∀ (w : World) (h : Heap), YP w h → (K w.params).In h)
    (F : ∀ (w : World) (mg : Str → Option Value) (fa : Addr) (h : Heap), (K w.params).In h → h.Ns mainGlobals mg → mg d.name = some (.ref fa) →
      ∃ fd : FuncData, (∀ (s : Shared) (u : Value), BindsTo s fd ⟨[u], []⟩ [(x, u)]) ∧ ∀ base : Heap, (K w.params).In base → base.Ns mainGlobals mg → FnOk l.prog w (K w.params) mg base CX0 k fa fd [x] (spD (K w.params) [m] sem)) :
    PySem.W.WalkO q loose XP YP l.row.toRowW d [] (fun f vs => PySem.call f vs) :=
  L2.walk_of (n := 63) (k := k) (x := x) (CX := fun _ => CX0) (sp := fun w => spD (K w.params) [m] sem) hn (by decide) hdf hk hY F (fun w H a ns hl _ hS => by
    have r : Rep (K w.params) H (.ref a) (.scr (ns.map D.int)) := by
      refine .scr hS ?_
      clear hl hS
      induction ns with
      | nil => exact .nil
      | cons n ns ih => exact .cons (.int n) ih
    refine ⟨H, [.scr (ns.map D.int)], .bl true, .refl _, .cons ?_ .nil, hsem ns hl, fun v B' H' _ r => ?_⟩
    · cases m with
      | sh => exact r
      | bo => exact .inl r
      | ow => exact absurd rfl hm
    · cases r; rfl) fun _ _ _ _ _ z => z
end DL

set_option Elab.async false
set_option linter.all false
set_option maxRecDepth 100000
set_option maxHeartbeats 4000000
/-! Running the readings: what serves every law. -/
namespace M
open PySem L2 DL

/-! ### texts -/
theorem starts_q (x : Str) : Txt.startswith x ⟨#[63]⟩ = decide (x.cps.toList.head? = some 63) := by
  obtain ⟨l, rfl⟩ : ∃ l : List Nat, x = ⟨l.toArray⟩ := ⟨x.cps.toList, by cases x; simp⟩
  cases l with
  | nil => rfl
  | cons c r =>
    show (decide (0 + 1 ≤ (c :: r).toArray.size) && ((c :: r).toArray.extract 0 (0 + 1) == #[63])) = _
    have e : (c :: r).toArray.extract 0 (0 + 1) = #[c] := by simp
    rw [e]
    simp
    by_cases h : c = 63
    · subst h; rfl
    · rw [decide_eq_false h]; exact beq_eq_false_iff_ne.mpr fun z => h (by simpa using z)
theorem str_beq (a b : Str) : (a == b) = decide (a = b) := by
  by_cases h : a = b
  · subst h; simp
  · rw [decide_eq_false h]; exact beq_eq_false_iff_ne.mpr h
theorem eqv_str (a b : Str) : eqv (.str a) (.str b) = decide (a = b) := by rw [eqv, str_beq]
theorem any_str (x : Str) : ∀ l : List Str, ((l.map D.str).any fun z => eqv z (.str x)) = decide (x ∈ l)
  | [] => by simp
  | y :: r => by
    rw [List.map_cons, List.any_cons, eqv_str, any_str x r]
    by_cases h : y = x
    · subst h; simp
    · simp [h, Ne.symm h, eq_comm]
theorem dOk_str (n : Nat) (x : Str) : dOk n (.str x) = true := by cases n <;> rfl
theorem dOks_strs (n : Nat) : ∀ l : List Str, dOks n (l.map D.str) = true
  | [] => by cases n <;> rfl
  | y :: r => by rw [List.map_cons, dOks, dOk_str, dOks_strs n r]; rfl
theorem in_strs (x : Str) (l : List Str) : inD (.str x) (.lst (l.map D.str)) = some (decide (x ∈ l)) := by
  unfold inD
  dsimp only
  rw [dOk_str, show dOk 60 (.lst (l.map D.str)) = true from dOks_strs 59 l, any_str]
  rfl
/-! ### loops -/
theorem lcG_map {f : D → Option (Option D)} {g : D → D} : ∀ {l : List D}, (∀ x ∈ l, f x = some (some (g x))) → lcG f l = some (l.map g)
  | [], _ => rfl
  | x :: xs, h => by
    rw [lcG, h x (by simp), lcG_map (l := xs) fun y hy => h y (by simp [hy])]; rfl
theorem atI_lt {α : Type} {l : List α} {i : Int} (h0 : 0 ≤ i) (h1 : i < l.length) : atI l i = some (l[i.toNat]'(by omega)) := by
  unfold atI ixN
  rw [if_pos h0, if_pos h1]
  simp
/-! ### running, row by row -/
def loopF (Φ : Nat → List D → Option D) (t : T) (b : S) : D → DEnv → Option Out := fun x ρ => (asgT t x ρ).bind (exS Φ 1000 b)
def lcF (Φ : Nat → List D → Option D) (t : T) (vs : List Nat) (elt c : E) (ρ : DEnv) : D → Option (Option D) := fun x => (asgT t x (wipeD ρ vs)).bind fun ρ' => (evT Φ c ρ').bind fun k => if k then (evE Φ elt ρ').map some else some none
section
variable {Φ : Nat → List D → Option D} {ρ : DEnv} {i j : Nat} {a b c e : E} {s s' : S} {t : T} {vs pins : List Nat} {d : D}
@[simp] theorem x_asg : exS Φ 1000 (.asg (.nm i) e) ρ = (evE Φ e ρ).bind fun d => some (.nx (ρ.set i (some d))) := rfl
@[simp] theorem x_asgO : exS Φ 1000 (.asgO i e) ρ = (evE Φ e ρ).bind fun d => if isL d then some (.nx (ρ.set i (some d))) else none := rfl
@[simp] theorem x_app : exS Φ 1000 (.app i e) ρ = (evE Φ e ρ).bind fun d => (match ρ[i]? with | some (some (.lst l)) => if l.length < lim then some (.nx (ρ.set i (some (.lst (l ++ [d]))))) else none | _ => none) := rfl
@[simp] theorem x_ext : exS Φ 1000 (.ext i e) ρ = (evE Φ e ρ).bind fun d => (match ρ[i]?, d with | some (some (.lst l)), .lst m => if l.length + m.length ≤ lim then some (.nx (ρ.set i (some (.lst (l ++ m))))) else none | _, _ => none) := rfl
@[simp] theorem x_setk : exS Φ 1000 (.setk i a e) ρ = (evE Φ e ρ).bind fun d => (evE Φ a ρ).bind fun kd => (match ρ[i]? with
      | some (some (.dic ks ds)) => (keyD kd).bind fun key => if ks.length < lim then some (.nx (ρ.set i (some (.dic (putKs key ks) (putD key d ks ds))))) else none
      | some (some (.lst l)) => (match kd with | .int z => (ixN l.length z).map fun j => .nx (ρ.set i (some (.lst (l.set j d)))) | _ => none)
      | _ => none) := rfl
@[simp] theorem x_drop : exS Φ 1000 (.drop e) ρ = (evE Φ e ρ).map fun _ => .nx ρ := rfl
@[simp] theorem x_ret : exS Φ 1000 (.ret e) ρ = (evE Φ e ρ).map .ret := rfl
@[simp] theorem x_retN : exS Φ 1000 .retN ρ = some (.ret .non) := rfl
@[simp] theorem x_ite : exS Φ 1000 (.ite c s s') ρ = (evT Φ c ρ).bind fun k => if k then exS Φ 1000 s ρ else exS Φ 1000 s' ρ := rfl
@[simp] theorem x_for : exS Φ 1000 (.for_ pins t e s) ρ = (evI Φ e ρ).bind fun l => forG (loopF Φ t s) l ρ := rfl
@[simp] theorem x_while : exS Φ 1000 (.while_ c s) ρ = whileG (evT Φ c) (exS Φ 1000 s) 1000 ρ := rfl
@[simp] theorem x_brk : exS Φ 1000 .brk ρ = some (.brk ρ) := rfl
@[simp] theorem x_cnt : exS Φ 1000 .cnt ρ = some (.cnt ρ) := rfl
@[simp] theorem x_nx : exS Φ 1000 .nx ρ = some (.nx ρ) := rfl
def andThen (o : Option Out) (k : DEnv → Option Out) : Option Out := o.bind fun o => (match o with | .nx ρ' => k ρ' | o => some o)
@[simp] theorem x_seq : exS Φ 1000 (.seq s s') ρ = andThen (exS Φ 1000 s ρ) (exS Φ 1000 s') := rfl
@[simp] theorem then_nx {k : DEnv → Option Out} : andThen (some (.nx ρ)) k = k ρ := rfl
@[simp] theorem then_ret {k : DEnv → Option Out} : andThen (some (.ret d)) k = some (.ret d) := rfl
@[simp] theorem then_brk {k : DEnv → Option Out} : andThen (some (.brk ρ)) k = some (.brk ρ) := rfl
@[simp] theorem then_cnt {k : DEnv → Option Out} : andThen (some (.cnt ρ)) k = some (.cnt ρ) := rfl
@[simp] theorem then_none {k : DEnv → Option Out} : andThen none k = none := rfl
@[simp] theorem then_map {k : DEnv → Option Out} {o : Option D} : andThen (o.map .ret) k = o.map .ret := by cases o <;> rfl
@[simp] theorem e_var : evE Φ (.var i) ρ = (ρ[i]?).bind id := rfl
@[simp] theorem e_con : evE Φ (.con d) ρ = some d := rfl
@[simp] theorem e_op1 {o : Op1} : evE Φ (.op1 o a) ρ = (evE Φ a ρ).bind (op1D o) := rfl
@[simp] theorem e_op2 {o : Op2} : evE Φ (.op2 o a b) ρ = (evE Φ a ρ).bind fun x => (evE Φ b ρ).bind fun y => op2D o x y := rfl
@[simp] theorem e_op3 {o : Op3} : evE Φ (.op3 o a b c) ρ = (evE Φ a ρ).bind fun x => (evE Φ b ρ).bind fun y => (evE Φ c ρ).bind fun z => op3D o x y z := rfl
@[simp] theorem e_and : evE Φ (.and a b) ρ = (evE Φ a ρ).bind fun x => (match x with | .bl true => evE Φ b ρ | .bl false => some (.bl false) | _ => none) := rfl
@[simp] theorem e_or : evE Φ (.or a b) ρ = (evE Φ a ρ).bind fun x => (match x with | .bl true => some (.bl true) | .bl false => evE Φ b ρ | _ => none) := rfl
@[simp] theorem e_not : evE Φ (.not a) ρ = (evE Φ a ρ).bind fun x => (match x with | .bl c => some (.bl (!c)) | _ => none) := rfl
@[simp] theorem e_ite : evE Φ (.ite c a b) ρ = (evT Φ c ρ).bind fun k => if k then evE Φ a ρ else evE Φ b ρ := rfl
@[simp] theorem e_sl : evE Φ (.sl a b c) ρ = (evE Φ a ρ).bind fun x => (evO Φ b ρ).bind fun l => (evO Φ c ρ).bind fun h => slD x l h := rfl
@[simp] theorem e_lst : evE Φ (.lst a) ρ = (evA Φ a ρ).bind fun l => if l.length ≤ lim then some (.lst l) else none := rfl
@[simp] theorem e_tup : evE Φ (.tup a) ρ = (evA Φ a ρ).bind fun l => if l.length ≤ lim then some (.tup l) else none := rfl
@[simp] theorem e_dnew : evE Φ .dnew ρ = some (.dic [] []) := rfl
@[simp] theorem e_lc : evE Φ (.lc t vs e b c) ρ = (evI Φ b ρ).bind fun l => (lcG (lcF Φ t vs e c ρ) l).map .lst := rfl
@[simp] theorem e_call : evE Φ (.call i a) ρ = (evA Φ a ρ).bind (Φ i) := rfl
@[simp] theorem t_and : evT Φ (.and a b) ρ = (evT Φ a ρ).bind fun k => if k then evT Φ b ρ else some false := rfl
@[simp] theorem t_or : evT Φ (.or a b) ρ = (evT Φ a ρ).bind fun k => if k then some true else evT Φ b ρ := rfl
@[simp] theorem t_not : evT Φ (.not a) ρ = (evT Φ a ρ).map (!·) := rfl
@[simp] theorem t_nop : evT Φ .nop ρ = some true := rfl
@[simp] theorem t_var : evT Φ (.var i) ρ = ((ρ[i]?).bind id).bind truD := rfl
@[simp] theorem t_op1 {o : Op1} : evT Φ (.op1 o a) ρ = ((evE Φ a ρ).bind (op1D o)).bind truD := rfl
@[simp] theorem t_op2 {o : Op2} : evT Φ (.op2 o a b) ρ = ((evE Φ a ρ).bind fun x => (evE Φ b ρ).bind fun y => op2D o x y).bind truD := rfl
@[simp] theorem t_call : evT Φ (.call i a) ρ = ((evA Φ a ρ).bind (Φ i)).bind truD := rfl
@[simp] theorem a_nil : evA Φ .nil ρ = some [] := rfl
@[simp] theorem a_cons : evA Φ (.cons a b) ρ = (evE Φ a ρ).bind fun x => (evA Φ b ρ).map (x :: ·) := rfl
@[simp] theorem o_nop : evO Φ .nop ρ = some none := rfl
@[simp] theorem o_cons : evO Φ (.cons a b) ρ = (evE Φ a ρ).bind fun x => (match x with | .int i => some (some i) | _ => none) := rfl
@[simp] theorem i_V : evI Φ (.iV e) ρ = (evE Φ e ρ).bind seqL := rfl
@[simp] theorem i_R1 : evI Φ (.iR1 a) ρ = (evE Φ a ρ).bind fun x => (match x with | .int j => if j ≤ lim ∧ -(lim : Int) ≤ j then some (rngD 0 j.toNat) else none | _ => none) := rfl
@[simp] theorem i_R2 : evI Φ (.iR2 a b) ρ = (evE Φ a ρ).bind fun x => (evE Φ b ρ).bind fun y => (match x, y with | .int i, .int j => if 0 ≤ i ∧ i ≤ lim ∧ j ≤ lim ∧ -(lim : Int) ≤ j then some (rngD i (j - i).toNat) else none | _, _ => none) := rfl
@[simp] theorem i_Zip : evI Φ (.iZip a b) ρ = (evE Φ a ρ).bind fun x => (evE Φ b ρ).bind fun y => (zipD x y).bind fun l => if l.length ≤ lim then some l else none := rfl
def dcF (Φ : Nat → List D → Option D) (t : T) (vs : List Nat) (ke elt c : E) (ρ : DEnv) : D → Option (Option (Key × D)) := fun x => (asgT t x (wipeD ρ vs)).bind fun ρ' => (evT Φ c ρ').bind fun k => if k then (evE Φ ke ρ').bind fun kd => (keyD kd).bind fun key => (evE Φ elt ρ').map fun y => some (key, y) else some none
@[simp] theorem e_dc {ke : E} : evE Φ (.dc t vs ke e b c) ρ = (evI Φ b ρ).bind fun l => (dcG (dcF Φ t vs ke e c ρ) l [] []).map fun p => .dic p.1 p.2 := rfl
@[simp] theorem tru_bl {b : Bool} : truD (.bl b) = some b := rfl
@[simp] theorem o2_add {i j : Int} : op2D .add (.int i) (.int j) = some (.int (i + j)) := rfl
@[simp] theorem o2_addS {x y : Str} : op2D .add (.str x) (.str y) = catS x y := rfl
@[simp] theorem o2_addL {x y : List D} : op2D .add (.lst x) (.lst y) = if x.length + y.length ≤ lim then some (.lst (x ++ y)) else none := rfl
@[simp] theorem o2_addT {x y : List D} : op2D .add (.tup x) (.tup y) = if x.length + y.length ≤ lim then some (.tup (x ++ y)) else none := rfl
@[simp] theorem o2_sub {i j : Int} : op2D .sub (.int i) (.int j) = some (.int (i - j)) := rfl
@[simp] theorem o2_mul {i j : Int} : op2D .mul (.int i) (.int j) = if mulOk i j then some (.int (i * j)) else none := rfl
@[simp] theorem o2_fdiv {i j : Int} : op2D .fdiv (.int i) (.int j) = if 0 < j ∧ j < 1073741824 then some (.int (i / j)) else none := rfl
@[simp] theorem o2_mod {i j : Int} : op2D .mod (.int i) (.int j) = if 0 < j then some (.int (i % j)) else none := rfl
@[simp] theorem o2_eq {x y : D} : op2D .eq x y = (eqD x y).map .bl := rfl
@[simp] theorem o2_ne {x y : D} : op2D .ne x y = (eqD x y).map fun b => .bl (!b) := rfl
@[simp] theorem o2_lt {i j : Int} : op2D .lt (.int i) (.int j) = some (.bl (decide (i < j))) := rfl
@[simp] theorem o2_le {i j : Int} : op2D .le (.int i) (.int j) = some (.bl (decide (i ≤ j))) := rfl
@[simp] theorem o2_gt {i j : Int} : op2D .gt (.int i) (.int j) = some (.bl (decide (j < i))) := rfl
@[simp] theorem o2_ge {i j : Int} : op2D .ge (.int i) (.int j) = some (.bl (decide (j ≤ i))) := rfl
@[simp] theorem o2_isin {x y : D} : op2D .isin x y = (inD x y).map .bl := rfl
@[simp] theorem o2_notin {x y : D} : op2D .notin x y = (inD x y).map fun b => .bl (!b) := rfl
@[simp] theorem o2_ixL {l : List D} {i : Int} : op2D .ix (.lst l) (.int i) = atI l i := rfl
@[simp] theorem o2_ixT {l : List D} {i : Int} : op2D .ix (.tup l) (.int i) = atI l i := rfl
@[simp] theorem o2_ixZ {l : List D} {i : Int} : op2D .ix (.scr l) (.int i) = atI l i := rfl
@[simp] theorem o2_ixS {x : Str} {i : Int} : op2D .ix (.str x) (.int i) = (atI x.cps.toList i).map fun c => .str ⟨#[c]⟩ := rfl
@[simp] theorem o2_ixD {ks : List Key} {ds : List D} {x : Str} : op2D .ix (.dic ks ds) (.str x) = lookD (.inr x) ks ds := rfl
@[simp] theorem o2_starts {x y : Str} : op2D .starts (.str x) (.str y) = some (.bl (Txt.startswith x y)) := rfl
@[simp] theorem o2_join {s : Str} {l : List D} : op2D .join (.str s) (.lst l) = (strsD l).bind fun xs => if (xs.map (·.length)).sum + xs.length * s.length ≤ lim then some (.str (Txt.join s xs)) else none := rfl
@[simp] theorem o1_lenL {l : List D} : op1D .len (.lst l) = some (.int l.length) := rfl
@[simp] theorem o1_lenT {l : List D} : op1D .len (.tup l) = some (.int l.length) := rfl
@[simp] theorem o1_lenZ {l : List D} : op1D .len (.scr l) = some (.int l.length) := rfl
@[simp] theorem o1_listL {l : List D} : op1D .list (.lst l) = some (.lst l) := rfl
@[simp] theorem o1_listT {l : List D} : op1D .list (.tup l) = some (.lst l) := rfl
@[simp] theorem o1_tupL {l : List D} : op1D .tuple (.lst l) = some (.tup l) := rfl
@[simp] theorem o1_tupT {l : List D} : op1D .tuple (.tup l) = some (.tup l) := rfl
@[simp] theorem o1_isiL {l : List D} : op1D (.isi "list") (.lst l) = some (.bl true) := rfl
@[simp] theorem o1_isiT {l : List D} : op1D (.isi "tuple") (.tup l) = some (.bl true) := rfl
@[simp] theorem o1_isiD {ks : List Key} {ds : List D} : op1D (.isi "dict") (.dic ks ds) = some (.bl true) := rfl
@[simp] theorem o1_isiI {i : Int} : op1D (.isi "int") (.int i) = some (.bl true) := rfl
@[simp] theorem o1_isiB {i : Int} : op1D (.isi "bool") (.int i) = some (.bl false) := rfl
@[simp] theorem o1_isiS {x : Str} : op1D (.isi "str") (.str x) = some (.bl true) := rfl
@[simp] theorem o1_items {ks : List Key} {ds : List D} : op1D .items (.dic ks ds) = some (.lst ((ks.zip ds).map fun p => .tup [keyE p.1, p.2])) := rfl
@[simp] theorem sl_L {l : List D} {lo hi : Option Int} : slD (.lst l) lo hi = some (.lst (cutD l lo hi)) := rfl
@[simp] theorem sl_T {l : List D} {lo hi : Option Int} : slD (.tup l) lo hi = some (.tup (cutD l lo hi)) := rfl
@[simp] theorem sl_Z {l : List D} {lo hi : Option Int} : slD (.scr l) lo hi = some (.lst (cutD l lo hi)) := rfl
@[simp] theorem sl_S {x : Str} {lo hi : Option Int} : slD (.str x) lo hi = some (.str (cutS x lo hi)) := rfl
@[simp] theorem as_nm : asgT (.nm i) d ρ = some (ρ.set i (some d)) := rfl
@[simp] theorem isL_l {l : List D} : isL (.lst l) = true := rfl
@[simp] theorem isL_d {ks : List Key} {ds : List D} : isL (.dic ks ds) = true := rfl
def fin (o : Option Out) : Option D := o.bind fun o => (match o with | .ret d => some d | .nx _ => some .non | _ => none)
theorem run_def {many : Nat} {ds : List D} : runF Φ 1000 many s ds = fin (exS Φ 1000 s (inD0 many ds)) := rfl
@[simp] theorem fin_ret : fin (some (.ret d)) = some d := rfl
@[simp] theorem fin_nx : fin (some (.nx ρ)) = some .non := rfl
@[simp] theorem fin_map {o : Option D} : fin (o.map .ret) = o := by cases o <;> rfl
theorem for_nil {f : D → DEnv → Option Out} : forG f [] ρ = some (.nx ρ) := rfl
/-- a turn that goes on -/
theorem for_cons {f : D → DEnv → Option Out} {x : D} {xs : List D} {ρ' : DEnv} (h : f x ρ = some (.nx ρ')) : forG f (x :: xs) ρ = forG f xs ρ' := by rw [forG, h]; rfl
theorem for_ret {f : D → DEnv → Option Out} {x : D} {xs : List D} (h : f x ρ = some (.ret d)) : forG f (x :: xs) ρ = some (.ret d) := by rw [forG, h]; rfl
end
end M

set_option Elab.async false
set_option linter.all false
set_option maxRecDepth 100000
set_option maxHeartbeats 4000000
/-! Words and things: texts of signs that are drawn. -/
namespace M
open PySem L2 DL

def one (c : Nat) : Str := ⟨#[c]⟩
def chL (L : List Nat) (i : Int) : Nat := L.getD i.toNat 0
theorem ch_at {L : List Nat} {n : Int} (i : Int) (hn : (L.length : Int) = n) (h0 : 0 < n) : atI L (i % n) = some (chL L (i % n)) ∧ chL L (i % n) ∈ L := by
  have h1 := Int.emod_nonneg i (by omega : n ≠ 0)
  have h2 := Int.emod_lt_of_pos i h0
  have hl : (i % n).toNat < L.length := by omega
  rw [atI_lt h1 (by omega)]
  have e : chL L (i % n) = L[(i % n).toNat] := by unfold chL; rw [List.getD_eq_getElem?_getD, List.getElem?_eq_getElem hl]; rfl
  rw [e]
  exact ⟨rfl, List.getElem_mem hl⟩
theorem strs_map {α : Type} (f : α → Str) : ∀ l : List α, strsD (l.map fun x => .str (f x)) = some (l.map f)
  | [] => rfl
  | x :: xs => by rw [List.map_cons, strsD, strs_map f xs]; rfl
theorem joinL_nil : ∀ ps : List (List Nat), TL.joinL [] ps = ps.flatten
  | [] => rfl
  | [p] => by simp [TL.joinL]
  | p :: q :: r => by rw [TL.joinL, joinL_nil (q :: r)]; simp
theorem join_ones (l : List Nat) : (Txt.join ⟨#[]⟩ (l.map one)).cps.toList = l := by
  rw [TL.join_eq]
  have e : (Str.join ⟨#[]⟩ (l.map one)).cps.toList = TL.joinL [] ((l.map one).map TL.tl) := TL.tl_join ⟨#[]⟩ (l.map one)
  rw [e, joinL_nil, List.map_map]
  clear e
  induction l with
  | nil => rfl
  | cons x xs ih => rw [List.map_cons, List.flatten_cons, ih]; rfl
theorem len_ones : ∀ l : List Nat, ((l.map one).map (·.length)).sum = l.length
  | [] => rfl
  | x :: xs => by rw [List.map_cons, List.map_cons, List.sum_cons, len_ones xs, List.length_cons]; show 1 + _ = _; omega
/-- a list of one-signed texts, joined -/
theorem run_join (l : List Nat) (h : l.length ≤ 1000) : ∃ s : Str, op2D .join (.str ⟨#[]⟩) (.lst (l.map fun c => .str (one c))) = some (.str s) ∧ s.cps.toList = l := by
  refine ⟨Txt.join ⟨#[]⟩ (l.map one), ?_, join_ones l⟩
  rw [o2_join, strs_map one l]
  simp only [Option.bind_some]
  rw [if_pos]
  rw [len_ones, List.length_map]
  show l.length + l.length * 0 ≤ lim
  have : lim = 100000 := rfl
  omega
theorem cut_list (x : Str) (lo hi : Option Int) : (cutS x lo hi).cps.toList = (x.cps.toList.drop (HT.sIx x.length 0 lo)).take (HT.sIx x.length x.length hi - HT.sIx x.length 0 lo) := by
  unfold cutS
  simp [Str.length]
theorem sIx_pos {n d : Nat} {i : Int} (h : 0 ≤ i) : HT.sIx n d (some i) = min i.toNat n := by
  obtain ⟨j, rfl⟩ : ∃ j : Nat, i = (j : Int) := ⟨i.toNat, by omega⟩
  rw [HT.sIx_nat]; simp
/-- a word or a thing: one to eight signs of L -/
structure Wd (L : List Nat) (x : Str) : Prop where
  mem : ∀ c ∈ x.cps.toList, c ∈ L
  pos : 1 ≤ x.cps.toList.length
  few : x.cps.toList.length ≤ 8
theorem Wd.ne {L : List Nat} {x : Str} (h : Wd L x) : x.cps.toList ≠ [] := fun e => by have := h.pos; rw [e] at this; simp at this
theorem Wd.len {L : List Nat} {x : Str} (h : Wd L x) : x.length ≤ 8 := by rw [← str_len]; exact h.few
theorem cat_str {x y : Str} (h : x.length + y.length ≤ 1000) : catS x y = some (.str (x ++ y)) := by
  unfold catS
  rw [if_pos]
  have : lim = 100000 := rfl
  omega
theorem lc_rng {f : D → Option (Option D)} {g : Int → D} {n : Nat} (h : ∀ j : Int, 0 ≤ j → j < n → f (.int j) = some (some (g j))) : lcG f (rngD 0 n) = some ((List.range n).map fun (k : Nat) => g (k : Int)) := by
  have : rngD 0 n = (List.range n).map fun (k : Nat) => D.int (k : Int) := by unfold rngD; simp
  rw [this, lcG_map (g := fun d => match d with | .int j => g j | d => d)]
  · rw [List.map_map]; rfl
  · intro x hx
    obtain ⟨k, hk, rfl⟩ := List.mem_map.mp hx
    have := List.mem_range.mp hk
    exact h k (by omega) (by omega)
end M

set_option Elab.async false
set_option linter.all false
set_option maxRecDepth 100000
set_option maxHeartbeats 4000000
/-! Lists that are drawn; equal data; dicts of texts. -/
namespace M
open PySem L2 DL

theorem lcG_ex {f : D → Option (Option D)} {P : D → Prop} : ∀ {l : List D}, (∀ x ∈ l, ∃ y, f x = some (some y) ∧ P y) → ∃ ys, lcG f l = some ys ∧ (∀ y ∈ ys, P y) ∧ ys.length = l.length
  | [], _ => ⟨[], rfl, by simp, rfl⟩
  | x :: xs, h => by
    obtain ⟨y, h1, h2⟩ := h x (by simp)
    obtain ⟨ys, h3, h4, h5⟩ := lcG_ex (l := xs) fun z hz => h z (by simp [hz])
    refine ⟨y :: ys, by rw [lcG, h1, h3]; rfl, fun z hz => ?_, by simp [h5]⟩
    rcases List.mem_cons.mp hz with rfl | hz
    · exact h2
    · exact h4 z hz
theorem map_of {α : Type} {g : α → D} {Q : α → Prop} : ∀ {ys : List D}, (∀ y ∈ ys, ∃ s, y = g s ∧ Q s) → ∃ ss : List α, ys = ss.map g ∧ (∀ s ∈ ss, Q s) ∧ ss.length = ys.length
  | [], _ => ⟨[], rfl, by simp, rfl⟩
  | y :: ys, h => by
    obtain ⟨s, rfl, h1⟩ := h y (by simp)
    obtain ⟨ss, rfl, h2, h3⟩ := map_of (ys := ys) fun z hz => h z (by simp [hz])
    refine ⟨s :: ss, rfl, fun z hz => ?_, by simp⟩
    rcases List.mem_cons.mp hz with rfl | hz
    · exact h1
    · exact h2 z hz
/-- a comprehension over numbers that makes texts -/
theorem lc_ex {α : Type} {g : α → D} {Q : α → Prop} {f : D → Option (Option D)} {l : List D} (h : ∀ x ∈ l, ∃ s, f x = some (some (g s)) ∧ Q s) : ∃ ss : List α, lcG f l = some (ss.map g) ∧ (∀ s ∈ ss, Q s) ∧ ss.length = l.length := by
  obtain ⟨ys, h1, h2, h3⟩ := lcG_ex (f := f) (P := fun y => ∃ s, y = g s ∧ Q s) (l := l) fun x hx => let ⟨s, a, b⟩ := h x hx; ⟨g s, a, s, rfl, b⟩
  obtain ⟨ss, rfl, h4, h5⟩ := map_of h2
  exact ⟨ss, h1, h4, by rw [h5, h3]⟩
theorem rng_mem {x : D} {n : Nat} (h : x ∈ rngD 0 n) : ∃ j : Int, x = .int j ∧ 0 ≤ j ∧ j < n := by
  unfold rngD at h
  obtain ⟨k, hk, rfl⟩ := List.mem_map.mp h
  have := List.mem_range.mp hk
  exact ⟨_, rfl, by omega, by omega⟩
mutual
theorem eqv_refl : ∀ (n : Nat) (d : D), dOk n d = true → eqv d d = true
  | _, .non, _ => by simp [eqv]
  | _, .bl b, _ => by simp [eqv]
  | _, .int i, _ => by simp [eqv]
  | _, .str s, _ => by simp [eqv]
  | n, .dic _ _, h => by cases n <;> simp [dOk] at h
  | n, .scr _, h => by cases n <;> simp [dOk] at h
  | 0, .lst l, h => by simp [dOk] at h
  | 0, .tup l, h => by simp [dOk] at h
  | n + 1, .lst l, h => by rw [dOk] at h; simp only [eqv]; exact eqvs_refl n l h
  | n + 1, .tup l, h => by rw [dOk] at h; simp only [eqv]; exact eqvs_refl n l h
theorem eqvs_refl : ∀ (n : Nat) (l : List D), dOks n l = true → eqvs l l = true
  | _, [], _ => by simp [eqvs]
  | n, x :: xs, h => by
    simp only [dOks, Bool.and_eq_true] at h
    simp only [eqvs, eqv_refl n x h.1, eqvs_refl n xs h.2, Bool.and_self]
end
theorem eqD_refl {d : D} (h : dOk 60 d = true) : eqD d d = some true := by
  have e : eqv d d = true := eqv_refl 60 d h
  cases d <;> first | (simp [dOk] at h; done) | (unfold eqD; simp only [h, e]; rfl)
theorem dOks_map {α : Type} {g : α → D} {n : Nat} (h : ∀ a, dOk n (g a) = true) : ∀ l : List α, dOks n (l.map g) = true
  | [] => by cases n <;> rfl
  | x :: xs => by rw [List.map_cons, dOks, h x, dOks_map h xs]; rfl

theorem cutD_nat {l : List D} {a b : Nat} (h : a ≤ b) : cutD l (some (a : Int)) (some (b : Int)) = (l.drop a).take (b - a) := by
  unfold cutD
  rw [HT.sIx_nat, HT.sIx_nat]
  by_cases h1 : l.length ≤ a
  · rw [Nat.min_eq_right h1, List.drop_eq_nil_of_le (Nat.le_refl _), List.drop_eq_nil_of_le h1]; simp
  · rw [Nat.min_eq_left (by omega : a ≤ l.length)]
    by_cases h2 : b ≤ l.length
    · rw [Nat.min_eq_left h2]
    · rw [Nat.min_eq_right (by omega : l.length ≤ b), List.take_of_length_le (by simp), List.take_of_length_le (by simp; omega)]

/-! ### a dict of texts -/
def fil (l : List (Str × Str)) : D := .dic (l.map fun p => .inr p.1) (l.map fun p => .str p.2)
def subst (l : List (Str × Str)) (t : Str) : Str := ((l.find? fun p => decide (p.1 = t)).map (·.2)).getD t
theorem look_fil (t : Str) : ∀ l : List (Str × Str), lookD (.inr t) (l.map fun p => .inr p.1) (l.map fun p => D.str p.2) = (l.find? fun p => decide (p.1 = t)).map fun p => D.str p.2
  | [] => rfl
  | p :: r => by
    rw [List.map_cons, List.map_cons, lookD]
    by_cases h : p.1 = t
    · rw [if_pos (by rw [h]), List.find?_cons_of_pos (by simp [h])]; rfl
    · rw [if_neg (fun z => h (Sum.inr.inj z)), List.find?_cons_of_neg (by simp [h]), look_fil t r]
theorem getD_fil (t : Str) (l : List (Str × Str)) : (lookD (.inr t) (l.map fun p => .inr p.1) (l.map fun p => D.str p.2)).getD (.str t) = .str (subst l t) := by
  rw [look_fil]; unfold subst
  cases l.find? fun p => decide (p.1 = t) <;> rfl
theorem any_fil (t : Str) (l : List (Str × Str)) : ((l.map fun p => (Sum.inr p.1 : Key)).any fun k' => decide (k' = .inr t)) = (l.find? fun p => decide (p.1 = t)).isSome := by
  induction l with
  | nil => rfl
  | cons p r ih =>
    rw [List.map_cons, List.any_cons, ih]
    by_cases h : p.1 = t
    · rw [List.find?_cons_of_pos (by simp [h])]; simp [h]
    · rw [List.find?_cons_of_neg (by simp [h])]
      have : ¬ (Sum.inr p.1 : Key) = .inr t := fun z => h (Sum.inr.inj z)
      simp [this]
/-- one more entry, or another value -/
theorem put_fil (s t : Str) (l : List (Str × Str)) : ∃ l', D.dic (putKs (.inr s) (l.map fun p => .inr p.1)) (putD (.inr s) (.str t) (l.map fun p => .inr p.1) (l.map fun p => .str p.2)) = fil l' ∧ l'.length ≤ l.length + 1 ∧ ∀ p ∈ l', p.1 = s ∨ ∃ q ∈ l, q.1 = p.1 := by
  unfold putKs putD
  rw [any_fil]
  cases h : (l.find? fun p => decide (p.1 = s)).isSome with
  | false =>
    refine ⟨l ++ [(s, t)], ?_, by simp, fun p hp => ?_⟩
    · simp [fil]
    · rcases List.mem_append.mp hp with h | h
      · exact .inr ⟨p, h, rfl⟩
      · rw [List.mem_singleton.mp h]; exact .inl rfl
  | true =>
    refine ⟨l.map fun p => if p.1 = s then (p.1, t) else p, ?_, by simp, fun p hp => ?_⟩
    · simp only [if_true, fil]
      congr 1
      · rw [List.map_map]
        apply List.map_congr_left
        intro p _
        show (Sum.inr p.1 : Key) = .inr (if p.1 = s then (p.1, t) else p).1
        split <;> rfl
      · clear h
        induction l with
        | nil => rfl
        | cons p r ih =>
          simp only [List.map_cons, repD, ih]
          by_cases h : p.1 = s
          · simp [h]
          · have : ¬ (Sum.inr p.1 : Key) = .inr s := fun z => h (Sum.inr.inj z)
            simp [h, this]
    · obtain ⟨q, hq, rfl⟩ := List.mem_map.mp hp
      refine .inr ⟨q, hq, ?_⟩
      split <;> rfl
end M

set_option Elab.async false
set_option linter.all false
set_option maxRecDepth 100000
set_option maxHeartbeats 4000000

/-! The readings of the defs of notfound_k02_fitted. -/
namespace R
open PySem L2 DL
def top (i : Nat) : Stmt := PySem.Challenge.pw_notfound_k02_fitted.main.body.getD i (.Pass ⟨0, 0, 0, 0⟩)
/-! ### is_slot -/
abbrev s_is_slot : Stmt := top 1
def N_is_slot : List Str := ["text"]
def F_is_slot : List (Str × List Md) := []
def G_is_slot : MEnv := [.bo]
def ir_is_slot : S := .seq (.ret (.op2 .starts (.var 0) (.con (.str ⟨#[63]⟩)))) .nx
def Φ_is_slot : Nat → List D → Option D
  | _ => fun _ => none
def sem_is_slot : List D → Option D := runF Φ_is_slot 1000 1 ir_is_slot
theorem sc_is_slot : FnScope N_is_slot ["text"] (defScope s_is_slot) := ⟨rfl, rfl, rfl, by decide +kernel, rfl, by decide +kernel, by decide +kernel⟩
theorem rd_is_slot : cB N_is_slot F_is_slot G_is_slot 200 (defScope s_is_slot) (defBody s_is_slot) = some ir_is_slot := by kernel_rfl
theorem md_is_slot : okSt F_is_slot G_is_slot ir_is_slot = true := by decide +kernel
/-! ### put_in -/
abbrev s_put_in : Stmt := top 2
def N_put_in : List Str := ["pattern", "filling", "text"]
def F_put_in : List (Str × List Md) := []
def G_put_in : MEnv := [.bo, .bo, .sh]
def el_put_in_1 : E := (.op3 .get (.var 1) (.var 2) (.var 2))
def ir_put_in : S := .seq (.ret (.op1 .tuple (.lc (.nm 2) [2] el_put_in_1 (.iV (.var 0)) .nop))) .nx
def Φ_put_in : Nat → List D → Option D
  | _ => fun _ => none
def sem_put_in : List D → Option D := runF Φ_put_in 1000 3 ir_put_in
theorem sc_put_in : FnScope N_put_in ["pattern", "filling"] (defScope s_put_in) := ⟨rfl, rfl, rfl, by decide +kernel, rfl, by decide +kernel, by decide +kernel⟩
theorem rd_put_in : cB N_put_in F_put_in G_put_in 200 (defScope s_put_in) (defBody s_put_in) = some ir_put_in := by kernel_rfl
theorem md_put_in : okSt F_put_in G_put_in ir_put_in = true := by decide +kernel
/-! ### fitted -/
abbrev s_fitted : Stmt := top 3
def N_fitted : List Str := ["pattern", "fact", "filling", "text", "thing"]
def F_fitted : List (Str × List Md) := [("put_in", [.bo, .bo]), ("is_slot", [.bo])]
def G_fitted : MEnv := [.bo, .bo, .sh, .sh, .sh]
def el_fitted_1 : E := (.var 3)
def el_fitted_2 : E := (.var 4)
def el_fitted_3 : E := (.call 1 (.cons (.var 3) .nil))
def sq_fitted_2 : S := (.seq (.ret (.con .non)) .nx)
def sq_fitted_1 : S := (.seq (.ite (.op2 .eq (.call 0 (.cons (.var 0) (.cons (.var 2) .nil))) (.var 1)) (.seq (.ret (.var 2)) .nx) .nx) sq_fitted_2)
def ir_fitted : S := .seq (.asg (.nm 2) (.dc (.tp (.cn (.nm 3) (.cn (.nm 4) .nl))) [3, 4] el_fitted_1 el_fitted_2 (.iZip (.var 0) (.var 1)) el_fitted_3)) sq_fitted_1
def Φ_fitted : Nat → List D → Option D
  | 0 => sem_put_in
  | 1 => sem_is_slot
  | _ => fun _ => none
def sem_fitted : List D → Option D := runF Φ_fitted 1000 5 ir_fitted
theorem sc_fitted : FnScope N_fitted ["pattern", "fact"] (defScope s_fitted) := ⟨rfl, rfl, rfl, by decide +kernel, rfl, by decide +kernel, by decide +kernel⟩
theorem rd_fitted : cB N_fitted F_fitted G_fitted 200 (defScope s_fitted) (defBody s_fitted) = some ir_fitted := by kernel_rfl
theorem md_fitted : okSt F_fitted G_fitted ir_fitted = true := by decide +kernel
/-! ### _law_cell_at -/
abbrev s_l_cell_at : Stmt := top 5
def N_l_cell_at : List Str := ["_law_script", "_law_k"]
def F_l_cell_at : List (Str × List Md) := []
def G_l_cell_at : MEnv := [.bo, .bo]
def sq_l_cell_at_1 : S := (.seq (.ret (.con (.int 0))) .nx)
def ir_l_cell_at : S := .seq (.ite (.op2 .lt (.var 1) (.op1 .len (.var 0))) (.seq (.ret (.op2 .ix (.var 0) (.var 1))) .nx) .nx) sq_l_cell_at_1
def Φ_l_cell_at : Nat → List D → Option D
  | _ => fun _ => none
def sem_l_cell_at : List D → Option D := runF Φ_l_cell_at 1000 2 ir_l_cell_at
theorem sc_l_cell_at : FnScope N_l_cell_at ["_law_script", "_law_k"] (defScope s_l_cell_at) := ⟨rfl, rfl, rfl, by decide +kernel, rfl, by decide +kernel, by decide +kernel⟩
theorem rd_l_cell_at : cB N_l_cell_at F_l_cell_at G_l_cell_at 200 (defScope s_l_cell_at) (defBody s_l_cell_at) = some ir_l_cell_at := by kernel_rfl
theorem md_l_cell_at : okSt F_l_cell_at G_l_cell_at ir_l_cell_at = true := by decide +kernel
/-! ### _law_word_by -/
abbrev s_l_word_by : Stmt := top 6
def N_l_word_by : List Str := ["_law_cell", "_law_k", "_law_letters", "_law_base", "_law_j", "_law_found"]
def F_l_word_by : List (Str × List Md) := []
def G_l_word_by : MEnv := [.bo, .bo, .sh, .sh, .sh, .sh]
def lp_l_word_by_1 : S := (.seq (.asg (.nm 5) (.op2 .add (.var 5) (.op2 .ix (.var 2) (.op2 .mod (.op2 .add (.op2 .add (.op2 .fdiv (.var 0) (.con (.int 208))) (.op2 .mul (.con (.int 5)) (.var 4))) (.var 1)) (.con (.int 26)))))) .nx)
def el_l_word_by_2 : E := (.op2 .ix (.var 2) (.op2 .mod (.op2 .add (.op2 .fdiv (.var 0) (.con (.int 208))) (.op2 .mul (.con (.int 5)) (.var 4))) (.con (.int 26))))
def sq_l_word_by_6 : S := (.seq (.ret (.var 5)) .nx)
def sq_l_word_by_5 : S := (.seq (.for_ [0, 1, 2, 3, 4] (.nm 4) (.iR1 (.op2 .mod (.op2 .add (.op2 .fdiv (.var 0) (.con (.int 26))) (.op2 .mul (.con (.int 3)) (.var 1))) (.con (.int 8)))) lp_l_word_by_1) sq_l_word_by_6)
def sq_l_word_by_4 : S := (.seq (.asg (.nm 5) (.op2 .ix (.var 2) (.op2 .mod (.op2 .add (.var 0) (.var 1)) (.con (.int 26))))) sq_l_word_by_5)
def sq_l_word_by_3 : S := (.seq (.ite (.op2 .eq (.op2 .mod (.var 0) (.con (.int 4))) (.con (.int 2))) (.seq (.ret (.sl (.var 3) .nop (.cons (.op2 .add (.con (.int 1)) (.var 1)) .nil))) .nx) .nx) sq_l_word_by_4)
def sq_l_word_by_2 : S := (.seq (.ite (.op2 .eq (.op2 .mod (.var 0) (.con (.int 4))) (.con (.int 1))) (.seq (.ret (.op2 .add (.sl (.var 3) .nop (.cons (.op2 .mod (.op2 .fdiv (.var 0) (.con (.int 26))) (.con (.int 8))) .nil)) (.op2 .ix (.var 2) (.op2 .mod (.op2 .add (.var 0) (.var 1)) (.con (.int 26)))))) .nx) .nx) sq_l_word_by_3)
def sq_l_word_by_1 : S := (.seq (.asg (.nm 3) (.op2 .join (.con (.str ⟨#[]⟩)) (.lc (.nm 4) [4] el_l_word_by_2 (.iR1 (.con (.int 8))) .nop))) sq_l_word_by_2)
def ir_l_word_by : S := .seq (.asg (.nm 2) (.con (.str ⟨#[97, 98, 99, 100, 101, 102, 103, 104, 105, 106, 107, 108, 109, 110, 111, 112, 113, 114, 115, 116, 117, 118, 119, 120, 121, 122]⟩))) sq_l_word_by_1
def Φ_l_word_by : Nat → List D → Option D
  | _ => fun _ => none
def sem_l_word_by : List D → Option D := runF Φ_l_word_by 1000 6 ir_l_word_by
theorem sc_l_word_by : FnScope N_l_word_by ["_law_cell", "_law_k"] (defScope s_l_word_by) := ⟨rfl, rfl, rfl, by decide +kernel, rfl, by decide +kernel, by decide +kernel⟩
theorem rd_l_word_by : cB N_l_word_by F_l_word_by G_l_word_by 200 (defScope s_l_word_by) (defBody s_l_word_by) = some ir_l_word_by := by kernel_rfl
theorem md_l_word_by : okSt F_l_word_by G_l_word_by ir_l_word_by = true := by decide +kernel
/-! ### _law_thing_by -/
abbrev s_l_thing_by : Stmt := top 7
def N_l_thing_by : List Str := ["_law_cell", "_law_k", "_law_signs", "_law_base", "_law_j", "_law_found"]
def F_l_thing_by : List (Str × List Md) := []
def G_l_thing_by : MEnv := [.bo, .bo, .sh, .sh, .sh, .sh]
def lp_l_thing_by_1 : S := (.seq (.asg (.nm 5) (.op2 .add (.var 5) (.op2 .ix (.var 2) (.op2 .mod (.op2 .add (.op2 .add (.op2 .fdiv (.var 0) (.con (.int 288))) (.op2 .mul (.con (.int 7)) (.var 4))) (.var 1)) (.con (.int 36)))))) .nx)
def el_l_thing_by_2 : E := (.op2 .ix (.var 2) (.op2 .mod (.op2 .add (.op2 .fdiv (.var 0) (.con (.int 288))) (.op2 .mul (.con (.int 7)) (.var 4))) (.con (.int 36))))
def sq_l_thing_by_6 : S := (.seq (.ret (.var 5)) .nx)
def sq_l_thing_by_5 : S := (.seq (.for_ [0, 1, 2, 3, 4] (.nm 4) (.iR1 (.op2 .mod (.op2 .add (.op2 .fdiv (.var 0) (.con (.int 36))) (.op2 .mul (.con (.int 3)) (.var 1))) (.con (.int 8)))) lp_l_thing_by_1) sq_l_thing_by_6)
def sq_l_thing_by_4 : S := (.seq (.asg (.nm 5) (.op2 .ix (.var 2) (.op2 .mod (.op2 .add (.var 0) (.var 1)) (.con (.int 36))))) sq_l_thing_by_5)
def sq_l_thing_by_3 : S := (.seq (.ite (.op2 .eq (.op2 .mod (.var 0) (.con (.int 4))) (.con (.int 2))) (.seq (.ret (.sl (.var 3) .nop (.cons (.op2 .add (.con (.int 1)) (.var 1)) .nil))) .nx) .nx) sq_l_thing_by_4)
def sq_l_thing_by_2 : S := (.seq (.ite (.op2 .eq (.op2 .mod (.var 0) (.con (.int 4))) (.con (.int 1))) (.seq (.ret (.op2 .add (.sl (.var 3) .nop (.cons (.op2 .mod (.op2 .fdiv (.var 0) (.con (.int 36))) (.con (.int 8))) .nil)) (.op2 .ix (.var 2) (.op2 .mod (.op2 .add (.var 0) (.var 1)) (.con (.int 36)))))) .nx) .nx) sq_l_thing_by_3)
def sq_l_thing_by_1 : S := (.seq (.asg (.nm 3) (.op2 .join (.con (.str ⟨#[]⟩)) (.lc (.nm 4) [4] el_l_thing_by_2 (.iR1 (.con (.int 8))) .nop))) sq_l_thing_by_2)
def ir_l_thing_by : S := .seq (.asg (.nm 2) (.con (.str ⟨#[48, 49, 50, 51, 52, 53, 54, 55, 56, 57, 97, 98, 99, 100, 101, 102, 103, 104, 105, 106, 107, 108, 109, 110, 111, 112, 113, 114, 115, 116, 117, 118, 119, 120, 121, 122]⟩))) sq_l_thing_by_1
def Φ_l_thing_by : Nat → List D → Option D
  | _ => fun _ => none
def sem_l_thing_by : List D → Option D := runF Φ_l_thing_by 1000 6 ir_l_thing_by
theorem sc_l_thing_by : FnScope N_l_thing_by ["_law_cell", "_law_k"] (defScope s_l_thing_by) := ⟨rfl, rfl, rfl, by decide +kernel, rfl, by decide +kernel, by decide +kernel⟩
theorem rd_l_thing_by : cB N_l_thing_by F_l_thing_by G_l_thing_by 200 (defScope s_l_thing_by) (defBody s_l_thing_by) = some ir_l_thing_by := by kernel_rfl
theorem md_l_thing_by : okSt F_l_thing_by G_l_thing_by ir_l_thing_by = true := by decide +kernel
/-! ### _law_pattern -/
abbrev s_l_pattern : Stmt := top 8
def N_l_pattern : List Str := ["_law_cell", "_law_words", "_law_parts", "_law_one", "_law_found", "_law_k"]
def F_l_pattern : List (Str × List Md) := []
def G_l_pattern : MEnv := [.bo, .bo, .bo, .sh, .ow, .sh]
def sq_l_pattern_1 : S := (.seq (.asg (.nm 3) (.op2 .fdiv (.var 3) (.op1 .len (.var 2)))) .nx)
def lp_l_pattern_1 : S := (.seq (.app 4 (.op2 .ix (.var 2) (.op2 .mod (.var 3) (.op1 .len (.var 2))))) sq_l_pattern_1)
def sq_l_pattern_4 : S := (.seq (.ret (.op1 .tuple (.var 4))) .nx)
def sq_l_pattern_3 : S := (.seq (.for_ [0, 1, 2, 5] (.nm 5) (.iR1 (.op2 .mod (.op2 .fdiv (.var 0) (.con (.int 4))) (.con (.int 4)))) lp_l_pattern_1) sq_l_pattern_4)
def sq_l_pattern_2 : S := (.seq (.asgO 4 (.lst (.cons (.op2 .ix (.var 1) (.op2 .mod (.var 0) (.con (.int 4)))) .nil))) sq_l_pattern_3)
def ir_l_pattern : S := .seq (.asg (.nm 3) (.op2 .mod (.op2 .mul (.var 0) (.con (.int 48271))) (.con (.int 2147483647)))) sq_l_pattern_2
def Φ_l_pattern : Nat → List D → Option D
  | _ => fun _ => none
def sem_l_pattern : List D → Option D := runF Φ_l_pattern 1000 6 ir_l_pattern
theorem sc_l_pattern : FnScope N_l_pattern ["_law_cell", "_law_words", "_law_parts"] (defScope s_l_pattern) := ⟨rfl, rfl, rfl, by decide +kernel, rfl, by decide +kernel, by decide +kernel⟩
theorem rd_l_pattern : cB N_l_pattern F_l_pattern G_l_pattern 200 (defScope s_l_pattern) (defBody s_l_pattern) = some ir_l_pattern := by kernel_rfl
theorem md_l_pattern : okSt F_l_pattern G_l_pattern ir_l_pattern = true := by decide +kernel
/-! ### _law_fact -/
abbrev s_l_fact : Stmt := top 9
def N_l_fact : List Str := ["_law_pattern_here", "_law_slots", "_law_things", "_law_pick", "_law_words", "_law_found", "_law_part"]
def F_l_fact : List (Str × List Md) := []
def G_l_fact : MEnv := [.bo, .bo, .bo, .bo, .bo, .ow, .sh]
def lp_l_fact_1 : S := (.seq (.ite (.op2 .isin (.var 6) (.var 1)) (.seq (.app 5 (.op2 .ix (.var 2) (.op2 .index (.var 1) (.var 6)))) .nx) (.seq (.app 5 (.var 6)) .nx)) .nx)
def sq_l_fact_6 : S := (.seq (.ret (.op1 .tuple (.var 5))) .nx)
def sq_l_fact_5 : S := (.seq (.ite (.and (.op2 .eq (.op2 .mod (.var 3) (.con (.int 6))) (.con (.int 4))) (.op2 .gt (.op1 .len (.var 5)) (.con (.int 1)))) (.seq (.asgO 5 (.sl (.var 5) .nop (.cons (.op1 .neg (.con (.int 1))) .nil))) .nx) .nx) sq_l_fact_6)
def sq_l_fact_4 : S := (.seq (.ite (.and (.op2 .eq (.op2 .mod (.var 3) (.con (.int 6))) (.con (.int 5))) (.op2 .lt (.op1 .len (.var 5)) (.con (.int 4)))) (.seq (.asgO 5 (.op2 .add (.var 5) (.lst (.cons (.op2 .ix (.var 2) (.op2 .mod (.op2 .fdiv (.var 3) (.con (.int 6))) (.con (.int 3)))) .nil)))) .nx) .nx) sq_l_fact_5)
def sq_l_fact_3 : S := (.seq (.ite (.op2 .eq (.op2 .mod (.var 3) (.con (.int 6))) (.con (.int 3))) (.seq (.setk 5 (.con (.int 0)) (.op2 .ix (.var 4) (.op2 .mod (.op2 .fdiv (.var 3) (.con (.int 6))) (.con (.int 4))))) .nx) .nx) sq_l_fact_4)
def sq_l_fact_2 : S := (.seq (.ite (.and (.op2 .eq (.op2 .mod (.var 3) (.con (.int 6))) (.con (.int 1))) (.op2 .gt (.op1 .len (.var 5)) (.con (.int 1)))) (.seq (.setk 5 (.op2 .add (.con (.int 1)) (.op2 .mod (.op2 .fdiv (.var 3) (.con (.int 6))) (.op2 .sub (.op1 .len (.var 5)) (.con (.int 1))))) (.op2 .ix (.var 2) (.con (.int 3)))) .nx) .nx) sq_l_fact_3)
def sq_l_fact_1 : S := (.seq (.for_ [0, 1, 2, 3, 4, 6] (.nm 6) (.iV (.sl (.var 0) (.cons (.con (.int 1)) .nil) .nop)) lp_l_fact_1) sq_l_fact_2)
def ir_l_fact : S := .seq (.asgO 5 (.lst (.cons (.op2 .ix (.var 0) (.con (.int 0))) .nil))) sq_l_fact_1
def Φ_l_fact : Nat → List D → Option D
  | _ => fun _ => none
def sem_l_fact : List D → Option D := runF Φ_l_fact 1000 7 ir_l_fact
theorem sc_l_fact : FnScope N_l_fact ["_law_pattern_here", "_law_slots", "_law_things", "_law_pick", "_law_words"] (defScope s_l_fact) := ⟨rfl, rfl, rfl, by decide +kernel, rfl, by decide +kernel, by decide +kernel⟩
theorem rd_l_fact : cB N_l_fact F_l_fact G_l_fact 200 (defScope s_l_fact) (defBody s_l_fact) = some ir_l_fact := by kernel_rfl
theorem md_l_fact : okSt F_l_fact G_l_fact ir_l_fact = true := by decide +kernel
/-! ### _law_due -/
abbrev s_l_due : Stmt := top 10
def N_l_due : List Str := ["_law_pattern_here", "_law_fact_here", "_law_filling", "_law_k"]
def F_l_due : List (Str × List Md) := []
def G_l_due : MEnv := [.bo, .bo, .ow, .sh]
def lp_l_due_1 : S := (.seq (.ite (.op2 .ne (.op2 .ix (.op2 .ix (.var 0) (.var 3)) (.con (.int 0))) (.con (.str ⟨#[63]⟩))) (.seq (.ite (.op2 .ne (.op2 .ix (.var 0) (.var 3)) (.op2 .ix (.var 1) (.var 3))) (.seq (.ret (.con .non)) .nx) .nx) .nx) (.seq (.ite (.op2 .notin (.op2 .ix (.var 0) (.var 3)) (.var 2)) (.seq (.setk 2 (.op2 .ix (.var 0) (.var 3)) (.op2 .ix (.var 1) (.var 3))) .nx) (.seq (.ite (.op2 .ne (.op2 .ix (.var 2) (.op2 .ix (.var 0) (.var 3))) (.op2 .ix (.var 1) (.var 3))) (.seq (.ret (.con .non)) .nx) .nx) .nx)) .nx)) .nx)
def sq_l_due_3 : S := (.seq (.ret (.var 2)) .nx)
def sq_l_due_2 : S := (.seq (.for_ [0, 1, 3] (.nm 3) (.iR2 (.con (.int 1)) (.op1 .len (.var 1))) lp_l_due_1) sq_l_due_3)
def sq_l_due_1 : S := (.seq (.asgO 2 .dnew) sq_l_due_2)
def ir_l_due : S := .seq (.ite (.or (.op2 .ne (.op1 .len (.var 0)) (.op1 .len (.var 1))) (.op2 .ne (.op2 .ix (.var 0) (.con (.int 0))) (.op2 .ix (.var 1) (.con (.int 0))))) (.seq (.ret (.con .non)) .nx) .nx) sq_l_due_1
def Φ_l_due : Nat → List D → Option D
  | _ => fun _ => none
def sem_l_due : List D → Option D := runF Φ_l_due 1000 4 ir_l_due
theorem sc_l_due : FnScope N_l_due ["_law_pattern_here", "_law_fact_here"] (defScope s_l_due) := ⟨rfl, rfl, rfl, by decide +kernel, rfl, by decide +kernel, by decide +kernel⟩
theorem rd_l_due : cB N_l_due F_l_due G_l_due 200 (defScope s_l_due) (defBody s_l_due) = some ir_l_due := by kernel_rfl
theorem md_l_due : okSt F_l_due G_l_due ir_l_due = true := by decide +kernel
/-! ### law -/
abbrev s_law : Stmt := top 11
def N_law : List Str := ["_law_script", "_law_words", "_law_k", "_law_things", "_law_slots", "_law_same", "_law_filled", "_law_pattern_here", "_law_fact_here", "_law_due_here", "_law_found"]
def F_law : List (Str × List Md) := [("_law_cell_at", [.bo, .bo]), ("_law_pattern", [.bo, .bo, .bo]), ("_law_fact", [.bo, .bo, .bo, .bo, .bo]), ("_law_due", [.bo, .bo]), ("fitted", [.bo, .bo]), ("_law_word_by", [.bo, .bo]), ("_law_thing_by", [.bo, .bo])]
def G_law : MEnv := [.bo, .sh, .sh, .sh, .sh, .sh, .sh, .sh, .sh, .sh, .sh]
def el_law_1 : E := (.op2 .add (.con (.str ⟨#[63]⟩)) (.call 5 (.cons (.call 0 (.cons (.var 0) (.cons (.con (.int 2)) .nil))) (.cons (.var 2) .nil))))
def el_law_2 : E := (.call 6 (.cons (.call 0 (.cons (.var 0) (.cons (.con (.int 1)) .nil))) (.cons (.var 2) .nil)))
def el_law_3 : E := (.call 5 (.cons (.call 0 (.cons (.var 0) (.cons (.con (.int 0)) .nil))) (.cons (.var 2) .nil)))
def sq_law_10 : S := (.seq (.ret (.and (.op1 (.isi "dict") (.var 10)) (.op2 .eq (.var 10) (.var 9)))) .nx)
def sq_law_9 : S := (.seq (.ite (.op2 .is_ (.var 9) (.con .non)) (.seq (.ret (.op2 .is_ (.var 10) (.con .non))) .nx) .nx) sq_law_10)
def sq_law_8 : S := (.seq (.asg (.nm 10) (.call 4 (.cons (.var 7) (.cons (.var 8) .nil)))) sq_law_9)
def sq_law_7 : S := (.seq (.asg (.nm 9) (.call 3 (.cons (.var 7) (.cons (.var 8) .nil)))) sq_law_8)
def sq_law_6 : S := (.seq (.asg (.nm 8) (.call 2 (.cons (.var 7) (.cons (.var 4) (.cons (.var 6) (.cons (.call 0 (.cons (.var 0) (.cons (.con (.int 4)) .nil))) (.cons (.var 1) .nil))))))) sq_law_7)
def sq_law_5 : S := (.seq (.asg (.nm 7) (.call 1 (.cons (.call 0 (.cons (.var 0) (.cons (.con (.int 3)) .nil))) (.cons (.var 1) (.cons (.op2 .add (.op2 .add (.sl (.var 3) .nop (.cons (.con (.int 1)) .nil)) (.var 4)) (.sl (.var 4) .nop (.cons (.con (.int 1)) .nil))) .nil))))) sq_law_6)
def sq_law_4 : S := (.seq (.asg (.nm 6) (.lst (.cons (.op2 .ix (.var 3) (.op2 .mod (.var 5) (.con (.int 3)))) (.cons (.op2 .ix (.var 3) (.op2 .mod (.op2 .fdiv (.var 5) (.con (.int 3))) (.con (.int 3)))) (.cons (.op2 .ix (.var 3) (.op2 .mod (.op2 .fdiv (.var 5) (.con (.int 9))) (.con (.int 3)))) (.cons (.op2 .ix (.var 3) (.con (.int 3))) .nil)))))) sq_law_5)
def sq_law_3 : S := (.seq (.asg (.nm 5) (.call 0 (.cons (.var 0) (.cons (.con (.int 5)) .nil)))) sq_law_4)
def sq_law_2 : S := (.seq (.asg (.nm 4) (.lc (.nm 2) [2] el_law_1 (.iR1 (.con (.int 3))) .nop)) sq_law_3)
def sq_law_1 : S := (.seq (.asg (.nm 3) (.lc (.nm 2) [2] el_law_2 (.iR1 (.con (.int 4))) .nop)) sq_law_2)
def ir_law : S := .seq (.asg (.nm 1) (.lc (.nm 2) [2] el_law_3 (.iR1 (.con (.int 4))) .nop)) sq_law_1
def Φ_law : Nat → List D → Option D
  | 0 => sem_l_cell_at
  | 1 => sem_l_pattern
  | 2 => sem_l_fact
  | 3 => sem_l_due
  | 4 => sem_fitted
  | 5 => sem_l_word_by
  | 6 => sem_l_thing_by
  | _ => fun _ => none
def sem_law : List D → Option D := runF Φ_law 1000 11 ir_law
theorem sc_law : FnScope N_law ["_law_script"] (defScope s_law) := ⟨rfl, rfl, rfl, by decide +kernel, rfl, by decide +kernel, by decide +kernel⟩
theorem rd_law : cB N_law F_law G_law 200 (defScope s_law) (defBody s_law) = some ir_law := by kernel_rfl
theorem md_law : okSt F_law G_law ir_law = true := by decide +kernel
end R

set_option Elab.async false
set_option linter.all false
set_option maxRecDepth 100000
set_option maxHeartbeats 4000000
namespace R
open PySem L2 DL M
def abc : List Nat := [97, 98, 99, 100, 101, 102, 103, 104, 105, 106, 107, 108, 109, 110, 111, 112, 113, 114, 115, 116, 117, 118, 119, 120, 121, 122]
def abcS : Str := ⟨#[97, 98, 99, 100, 101, 102, 103, 104, 105, 106, 107, 108, 109, 110, 111, 112, 113, 114, 115, 116, 117, 118, 119, 120, 121, 122]⟩
theorem abc_list : abcS.cps.toList = abc := rfl
theorem word_base (c : Int) (o1 o3 o4 o5 : Option D) : ∃ base : Str, (evE Φ_l_word_by (.op2 .join (.con (.str ⟨#[]⟩)) (.lc (.nm 4) [4] el_l_word_by_2 (.iR1 (.con (.int 8))) .nop)) [some (.int c), o1, some (.str abcS), o3, o4, o5] = some (.str base)) ∧ base.cps.toList.length = 8 ∧ ∀ x ∈ base.cps.toList, x ∈ abc := by
  have e : lcG (lcF Φ_l_word_by (.nm 4) [4] el_l_word_by_2 .nop [some (.int c), o1, some (.str abcS), o3, o4, o5]) (rngD 0 8) = some (((List.range 8).map fun (k : Nat) => chL abc ((c / 208 + 5 * (k : Int)) % 26)).map fun c => D.str (one c)) := by
    rw [lc_rng (g := fun j => .str (one (chL abc ((c / 208 + 5 * j) % 26))))]
    · rw [List.map_map]; rfl
    · intro j h0 h1
      obtain ⟨a1, _⟩ := ch_at (L := abc) (n := 26) (c / 208 + 5 * j) rfl (by decide)
      have hm : mulOk 5 j = true := by unfold mulOk; simp
      simp [lcF, el_l_word_by_2, wipeD, hm, abc_list, a1, one]
  obtain ⟨s, hs, hl⟩ := run_join ((List.range 8).map fun (k : Nat) => chL abc ((c / 208 + 5 * (k : Int)) % 26)) (by simp)
  refine ⟨s, ?_, by rw [hl]; simp, fun x hx => ?_⟩
  · have h8 : (8 : Int) ≤ (lim : Int) ∧ -(lim : Int) ≤ 8 := by decide
    simp only [e_op2, e_con, e_lc, i_R1, Option.bind_some, if_pos h8, show (8 : Int).toNat = 8 from rfl]
    rw [e]
    exact hs
  · rw [hl] at hx
    obtain ⟨k, _, rfl⟩ := List.mem_map.mp hx
    exact (ch_at (L := abc) (n := 26) _ rfl (by decide)).2
theorem word_loop (c k : Int) (o3 : Option D) : ∀ (js : List Int) (w : Str) (o4 : Option D), (∀ x ∈ w.cps.toList, x ∈ abc) → w.cps.toList.length + js.length ≤ 900 →
    ∃ w' o4', forG (loopF Φ_l_word_by (.nm 4) lp_l_word_by_1) (js.map D.int) [some (.int c), some (.int k), some (.str abcS), o3, o4, some (.str w)] = some (.nx [some (.int c), some (.int k), some (.str abcS), o3, o4', some (.str w')]) ∧ (∀ x ∈ w'.cps.toList, x ∈ abc) ∧ w'.cps.toList.length = w.cps.toList.length + js.length
  | [], w, o4, hw, hl => ⟨w, o4, by simp [for_nil], hw, by simp⟩
  | j :: js, w, o4, hw, hl => by
    simp only [List.length_cons] at hl
    have ch := ch_at (L := abc) (n := 26) (c / 208 + 5 * j + k) rfl (by decide)
    have hlw : (w ++ one (chL abc ((c / 208 + 5 * j + k) % 26))).cps.toList = w.cps.toList ++ [chL abc ((c / 208 + 5 * j + k) % 26)] := str_app _ _
    obtain ⟨w', o4', e, h1, h2⟩ := word_loop c k o3 js (w ++ one (chL abc ((c / 208 + 5 * j + k) % 26))) (some (.int j)) (by
      intro x hx
      rw [hlw] at hx
      rcases List.mem_append.mp hx with h | h
      · exact hw x h
      · rw [List.mem_singleton.mp h]; exact ch.2) (by rw [hlw, List.length_append, List.length_singleton]; omega)
    refine ⟨w', o4', ?_, h1, by rw [h2, hlw, List.length_append, List.length_singleton, List.length_cons]; omega⟩
    rw [List.map_cons]
    have e1 : loopF Φ_l_word_by (.nm 4) lp_l_word_by_1 (.int j) [some (.int c), some (.int k), some (.str abcS), o3, o4, some (.str w)] = some (.nx [some (.int c), some (.int k), some (.str abcS), o3, some (.int j), some (.str (w ++ one (chL abc ((c / 208 + 5 * j + k) % 26))))]) := by
      have hm : mulOk 5 j = true := by unfold mulOk; simp
      have hc : catS w ⟨#[chL abc ((c / 208 + 5 * j + k) % 26)]⟩ = some (.str (w ++ one (chL abc ((c / 208 + 5 * j + k) % 26)))) := cat_str (by rw [← str_len w]; show _ + 1 ≤ 1000; omega)
      simp [loopF, lp_l_word_by_1, hm, abc_list, ch.1, hc]
    rw [for_cons e1]
    exact e
theorem run_word (c k : Int) (h0 : 0 ≤ k) (h7 : k ≤ 7) : ∃ w : Str, sem_l_word_by [.int c, .int k] = some (.str w) ∧ Wd abc w := by
  obtain ⟨base, hb, hb8, hbm⟩ := word_base c (some (.int k)) none none none
  have hbl : base.length = 8 := by rw [← str_len]; exact hb8
  have a0 := Int.emod_nonneg (c / 26) (by decide : (8 : Int) ≠ 0)
  have a8 := Int.emod_lt_of_pos (c / 26) (by decide : (0 : Int) < 8)
  have chk := ch_at (L := abc) (n := 26) (c + k) rfl (by decide)
  unfold sem_l_word_by
  rw [run_def]
  have start : exS Φ_l_word_by 1000 ir_l_word_by (inD0 6 [.int c, .int k]) = exS Φ_l_word_by 1000 sq_l_word_by_2 [some (.int c), some (.int k), some (.str abcS), some (.str base), none, none] := by
    rw [ir_l_word_by, x_seq, x_asg, e_con, show inD0 6 [.int c, .int k] = [some (.int c), some (.int k), none, none, none, none] from rfl]
    simp only [Option.bind_some, then_nx, List.set_cons_succ, List.set_cons_zero]
    rw [sq_l_word_by_1, x_seq, x_asg, show (⟨#[97, 98, 99, 100, 101, 102, 103, 104, 105, 106, 107, 108, 109, 110, 111, 112, 113, 114, 115, 116, 117, 118, 119, 120, 121, 122]⟩ : Str) = abcS from rfl, hb]
    simp only [Option.bind_some, then_nx, List.set_cons_succ, List.set_cons_zero]
  rw [start]
  have goal : ∀ w : Str, exS Φ_l_word_by 1000 sq_l_word_by_2 [some (.int c), some (.int k), some (.str abcS), some (.str base), none, none] = some (.ret (.str w)) → Wd abc w → ∃ w : Str, fin (exS Φ_l_word_by 1000 sq_l_word_by_2 [some (.int c), some (.int k), some (.str abcS), some (.str base), none, none]) = some (.str w) ∧ Wd abc w := fun w h1 h2 => ⟨w, by rw [h1]; rfl, h2⟩
  have h4 : c % 4 = 1 ∨ c % 4 = 2 ∨ (c % 4 ≠ 1 ∧ c % 4 ≠ 2) := by omega
  rcases h4 with h4 | h4 | h4
  · generalize hm : c / 26 % 8 = m at a0 a8
    have l1 : (cutS base none (some m)).cps.toList = base.cps.toList.take m.toNat := by
      rw [cut_list, HT.sIx_none, sIx_pos a0, hbl, Nat.min_eq_left (by omega)]; simp
    have n1 : (cutS base none (some m)).cps.toList.length = m.toNat := by rw [l1, List.length_take, hb8]; omega
    have n1' : (cutS base none (some m)).length = m.toNat := by rw [← str_len]; exact n1
    have ap : (cutS base none (some m) ++ ⟨#[chL abc ((c + k) % 26)]⟩ : Str).cps.toList = base.cps.toList.take m.toNat ++ [chL abc ((c + k) % 26)] := by
      rw [str_app, l1]
    refine goal (cutS base none (some m) ++ ⟨#[chL abc ((c + k) % 26)]⟩) ?_ ⟨fun x hx => ?_, ?_, ?_⟩
    · have hc1 : catS (cutS base none (some m)) ⟨#[chL abc ((c + k) % 26)]⟩ = some (.str (cutS base none (some m) ++ ⟨#[chL abc ((c + k) % 26)]⟩)) := cat_str (by rw [n1']; show _ + 1 ≤ 1000; omega)
      simp [sq_l_word_by_2, eqD, dOk, eqv, h4, hm, abc_list, chk.1, hc1]
    · rw [ap] at hx
      rcases List.mem_append.mp hx with h | h
      · exact hbm x (List.mem_of_mem_take h)
      · rw [List.mem_singleton.mp h]; exact chk.2
    · rw [ap, List.length_append, List.length_singleton]; omega
    · rw [ap, List.length_append, List.length_singleton, List.length_take, hb8]; omega
  · have l1 : (cutS base none (some (1 + k))).cps.toList = base.cps.toList.take (1 + k).toNat := by
      rw [cut_list, HT.sIx_none, sIx_pos (by omega), hbl, Nat.min_eq_left (by omega)]; simp
    refine goal (cutS base none (some (1 + k))) ?_ ⟨fun x hx => ?_, ?_, ?_⟩
    · simp [sq_l_word_by_2, sq_l_word_by_3, eqD, dOk, eqv, h4]
    · rw [l1] at hx; exact hbm x (List.mem_of_mem_take hx)
    · rw [l1, List.length_take, hb8]; omega
    · rw [l1, List.length_take, hb8]; omega
  · have q0 := Int.emod_nonneg (c / 26 + 3 * k) (by decide : (8 : Int) ≠ 0)
    have q1 := Int.emod_lt_of_pos (c / 26 + 3 * k) (by decide : (0 : Int) < 8)
    generalize hq : (c / 26 + 3 * k) % 8 = q at q0 q1
    have hr : rngD 0 q.toNat = ((List.range q.toNat).map fun (j : Nat) => (j : Int)).map D.int := by unfold rngD; rw [List.map_map]; simp
    obtain ⟨w', o4', e, h1, h2⟩ := word_loop c k (some (.str base)) ((List.range q.toNat).map fun (j : Nat) => (j : Int)) (one (chL abc ((c + k) % 26))) none (by
      intro x hx
      have : x = chL abc ((c + k) % 26) := by simpa [one] using hx
      rw [this]; exact chk.2) (by rw [List.length_map, List.length_range]; show 1 + _ ≤ 900; omega)
    have h2' : w'.cps.toList.length = 1 + q.toNat := by rw [h2, List.length_map, List.length_range]; rfl
    refine goal w' ?_ ⟨h1, by omega, by omega⟩
    have hm : mulOk 3 k = true := by unfold mulOk; simp
    have hql : q ≤ (lim : Int) ∧ -(lim : Int) ≤ q := by have : (lim : Int) = 100000 := rfl; omega
    have ne1 : ¬ c % 4 = 1 := h4.1
    have ne2 : ¬ c % 4 = 2 := h4.2
    have e' := e
    unfold one at e'
    rw [List.map_map] at e'
    simp [sq_l_word_by_2, sq_l_word_by_3, sq_l_word_by_4, sq_l_word_by_5, sq_l_word_by_6, eqD, dOk, eqv, ne1, ne2, abc_list, chk.1, hm, hq, hql, hr, e']
def sgn : List Nat := [48, 49, 50, 51, 52, 53, 54, 55, 56, 57, 97, 98, 99, 100, 101, 102, 103, 104, 105, 106, 107, 108, 109, 110, 111, 112, 113, 114, 115, 116, 117, 118, 119, 120, 121, 122]
def sgnS : Str := ⟨#[48, 49, 50, 51, 52, 53, 54, 55, 56, 57, 97, 98, 99, 100, 101, 102, 103, 104, 105, 106, 107, 108, 109, 110, 111, 112, 113, 114, 115, 116, 117, 118, 119, 120, 121, 122]⟩
theorem sgn_list : sgnS.cps.toList = sgn := rfl
theorem thing_base (c : Int) (o1 o3 o4 o5 : Option D) : ∃ base : Str, (evE Φ_l_thing_by (.op2 .join (.con (.str ⟨#[]⟩)) (.lc (.nm 4) [4] el_l_thing_by_2 (.iR1 (.con (.int 8))) .nop)) [some (.int c), o1, some (.str sgnS), o3, o4, o5] = some (.str base)) ∧ base.cps.toList.length = 8 ∧ ∀ x ∈ base.cps.toList, x ∈ sgn := by
  have e : lcG (lcF Φ_l_thing_by (.nm 4) [4] el_l_thing_by_2 .nop [some (.int c), o1, some (.str sgnS), o3, o4, o5]) (rngD 0 8) = some (((List.range 8).map fun (k : Nat) => chL sgn ((c / 288 + 7 * (k : Int)) % 36)).map fun c => D.str (one c)) := by
    rw [lc_rng (g := fun j => .str (one (chL sgn ((c / 288 + 7 * j) % 36))))]
    · rw [List.map_map]; rfl
    · intro j h0 h1
      obtain ⟨a1, _⟩ := ch_at (L := sgn) (n := 36) (c / 288 + 7 * j) rfl (by decide)
      have hm : mulOk 7 j = true := by unfold mulOk; simp
      simp [lcF, el_l_thing_by_2, wipeD, hm, sgn_list, a1, one]
  obtain ⟨s, hs, hl⟩ := run_join ((List.range 8).map fun (k : Nat) => chL sgn ((c / 288 + 7 * (k : Int)) % 36)) (by simp)
  refine ⟨s, ?_, by rw [hl]; simp, fun x hx => ?_⟩
  · have h8 : (8 : Int) ≤ (lim : Int) ∧ -(lim : Int) ≤ 8 := by decide
    simp only [e_op2, e_con, e_lc, i_R1, Option.bind_some, if_pos h8, show (8 : Int).toNat = 8 from rfl]
    rw [e]
    exact hs
  · rw [hl] at hx
    obtain ⟨k, _, rfl⟩ := List.mem_map.mp hx
    exact (ch_at (L := sgn) (n := 36) _ rfl (by decide)).2
theorem thing_loop (c k : Int) (o3 : Option D) : ∀ (js : List Int) (w : Str) (o4 : Option D), (∀ x ∈ w.cps.toList, x ∈ sgn) → w.cps.toList.length + js.length ≤ 900 →
    ∃ w' o4', forG (loopF Φ_l_thing_by (.nm 4) lp_l_thing_by_1) (js.map D.int) [some (.int c), some (.int k), some (.str sgnS), o3, o4, some (.str w)] = some (.nx [some (.int c), some (.int k), some (.str sgnS), o3, o4', some (.str w')]) ∧ (∀ x ∈ w'.cps.toList, x ∈ sgn) ∧ w'.cps.toList.length = w.cps.toList.length + js.length
  | [], w, o4, hw, hl => ⟨w, o4, by simp [for_nil], hw, by simp⟩
  | j :: js, w, o4, hw, hl => by
    simp only [List.length_cons] at hl
    have ch := ch_at (L := sgn) (n := 36) (c / 288 + 7 * j + k) rfl (by decide)
    have hlw : (w ++ one (chL sgn ((c / 288 + 7 * j + k) % 36))).cps.toList = w.cps.toList ++ [chL sgn ((c / 288 + 7 * j + k) % 36)] := str_app _ _
    obtain ⟨w', o4', e, h1, h2⟩ := thing_loop c k o3 js (w ++ one (chL sgn ((c / 288 + 7 * j + k) % 36))) (some (.int j)) (by
      intro x hx
      rw [hlw] at hx
      rcases List.mem_append.mp hx with h | h
      · exact hw x h
      · rw [List.mem_singleton.mp h]; exact ch.2) (by rw [hlw, List.length_append, List.length_singleton]; omega)
    refine ⟨w', o4', ?_, h1, by rw [h2, hlw, List.length_append, List.length_singleton, List.length_cons]; omega⟩
    rw [List.map_cons]
    have e1 : loopF Φ_l_thing_by (.nm 4) lp_l_thing_by_1 (.int j) [some (.int c), some (.int k), some (.str sgnS), o3, o4, some (.str w)] = some (.nx [some (.int c), some (.int k), some (.str sgnS), o3, some (.int j), some (.str (w ++ one (chL sgn ((c / 288 + 7 * j + k) % 36))))]) := by
      have hm : mulOk 7 j = true := by unfold mulOk; simp
      have hc : catS w ⟨#[chL sgn ((c / 288 + 7 * j + k) % 36)]⟩ = some (.str (w ++ one (chL sgn ((c / 288 + 7 * j + k) % 36)))) := cat_str (by rw [← str_len w]; show _ + 1 ≤ 1000; omega)
      simp [loopF, lp_l_thing_by_1, hm, sgn_list, ch.1, hc]
    rw [for_cons e1]
    exact e
theorem run_thing (c k : Int) (h0 : 0 ≤ k) (h7 : k ≤ 7) : ∃ w : Str, sem_l_thing_by [.int c, .int k] = some (.str w) ∧ Wd sgn w := by
  obtain ⟨base, hb, hb8, hbm⟩ := thing_base c (some (.int k)) none none none
  have hbl : base.length = 8 := by rw [← str_len]; exact hb8
  have a0 := Int.emod_nonneg (c / 36) (by decide : (8 : Int) ≠ 0)
  have a8 := Int.emod_lt_of_pos (c / 36) (by decide : (0 : Int) < 8)
  have chk := ch_at (L := sgn) (n := 36) (c + k) rfl (by decide)
  unfold sem_l_thing_by
  rw [run_def]
  have start : exS Φ_l_thing_by 1000 ir_l_thing_by (inD0 6 [.int c, .int k]) = exS Φ_l_thing_by 1000 sq_l_thing_by_2 [some (.int c), some (.int k), some (.str sgnS), some (.str base), none, none] := by
    rw [ir_l_thing_by, x_seq, x_asg, e_con, show inD0 6 [.int c, .int k] = [some (.int c), some (.int k), none, none, none, none] from rfl]
    simp only [Option.bind_some, then_nx, List.set_cons_succ, List.set_cons_zero]
    rw [sq_l_thing_by_1, x_seq, x_asg, show (⟨#[48, 49, 50, 51, 52, 53, 54, 55, 56, 57, 97, 98, 99, 100, 101, 102, 103, 104, 105, 106, 107, 108, 109, 110, 111, 112, 113, 114, 115, 116, 117, 118, 119, 120, 121, 122]⟩ : Str) = sgnS from rfl, hb]
    simp only [Option.bind_some, then_nx, List.set_cons_succ, List.set_cons_zero]
  rw [start]
  have goal : ∀ w : Str, exS Φ_l_thing_by 1000 sq_l_thing_by_2 [some (.int c), some (.int k), some (.str sgnS), some (.str base), none, none] = some (.ret (.str w)) → Wd sgn w → ∃ w : Str, fin (exS Φ_l_thing_by 1000 sq_l_thing_by_2 [some (.int c), some (.int k), some (.str sgnS), some (.str base), none, none]) = some (.str w) ∧ Wd sgn w := fun w h1 h2 => ⟨w, by rw [h1]; rfl, h2⟩
  have h4 : c % 4 = 1 ∨ c % 4 = 2 ∨ (c % 4 ≠ 1 ∧ c % 4 ≠ 2) := by omega
  rcases h4 with h4 | h4 | h4
  · generalize hm : c / 36 % 8 = m at a0 a8
    have l1 : (cutS base none (some m)).cps.toList = base.cps.toList.take m.toNat := by
      rw [cut_list, HT.sIx_none, sIx_pos a0, hbl, Nat.min_eq_left (by omega)]; simp
    have n1 : (cutS base none (some m)).cps.toList.length = m.toNat := by rw [l1, List.length_take, hb8]; omega
    have n1' : (cutS base none (some m)).length = m.toNat := by rw [← str_len]; exact n1
    have ap : (cutS base none (some m) ++ ⟨#[chL sgn ((c + k) % 36)]⟩ : Str).cps.toList = base.cps.toList.take m.toNat ++ [chL sgn ((c + k) % 36)] := by
      rw [str_app, l1]
    refine goal (cutS base none (some m) ++ ⟨#[chL sgn ((c + k) % 36)]⟩) ?_ ⟨fun x hx => ?_, ?_, ?_⟩
    · have hc1 : catS (cutS base none (some m)) ⟨#[chL sgn ((c + k) % 36)]⟩ = some (.str (cutS base none (some m) ++ ⟨#[chL sgn ((c + k) % 36)]⟩)) := cat_str (by rw [n1']; show _ + 1 ≤ 1000; omega)
      simp [sq_l_thing_by_2, eqD, dOk, eqv, h4, hm, sgn_list, chk.1, hc1]
    · rw [ap] at hx
      rcases List.mem_append.mp hx with h | h
      · exact hbm x (List.mem_of_mem_take h)
      · rw [List.mem_singleton.mp h]; exact chk.2
    · rw [ap, List.length_append, List.length_singleton]; omega
    · rw [ap, List.length_append, List.length_singleton, List.length_take, hb8]; omega
  · have l1 : (cutS base none (some (1 + k))).cps.toList = base.cps.toList.take (1 + k).toNat := by
      rw [cut_list, HT.sIx_none, sIx_pos (by omega), hbl, Nat.min_eq_left (by omega)]; simp
    refine goal (cutS base none (some (1 + k))) ?_ ⟨fun x hx => ?_, ?_, ?_⟩
    · simp [sq_l_thing_by_2, sq_l_thing_by_3, eqD, dOk, eqv, h4]
    · rw [l1] at hx; exact hbm x (List.mem_of_mem_take hx)
    · rw [l1, List.length_take, hb8]; omega
    · rw [l1, List.length_take, hb8]; omega
  · have q0 := Int.emod_nonneg (c / 36 + 3 * k) (by decide : (8 : Int) ≠ 0)
    have q1 := Int.emod_lt_of_pos (c / 36 + 3 * k) (by decide : (0 : Int) < 8)
    generalize hq : (c / 36 + 3 * k) % 8 = q at q0 q1
    have hr : rngD 0 q.toNat = ((List.range q.toNat).map fun (j : Nat) => (j : Int)).map D.int := by unfold rngD; rw [List.map_map]; simp
    obtain ⟨w', o4', e, h1, h2⟩ := thing_loop c k (some (.str base)) ((List.range q.toNat).map fun (j : Nat) => (j : Int)) (one (chL sgn ((c + k) % 36))) none (by
      intro x hx
      have : x = chL sgn ((c + k) % 36) := by simpa [one] using hx
      rw [this]; exact chk.2) (by rw [List.length_map, List.length_range]; show 1 + _ ≤ 900; omega)
    have h2' : w'.cps.toList.length = 1 + q.toNat := by rw [h2, List.length_map, List.length_range]; rfl
    refine goal w' ?_ ⟨h1, by omega, by omega⟩
    have hm : mulOk 3 k = true := by unfold mulOk; simp
    have hql : q ≤ (lim : Int) ∧ -(lim : Int) ≤ q := by have : (lim : Int) = 100000 := rfl; omega
    have ne1 : ¬ c % 4 = 1 := h4.1
    have ne2 : ¬ c % 4 = 2 := h4.2
    have e' := e
    unfold one at e'
    rw [List.map_map] at e'
    simp [sq_l_thing_by_2, sq_l_thing_by_3, sq_l_thing_by_4, sq_l_thing_by_5, sq_l_thing_by_6, eqD, dOk, eqv, ne1, ne2, sgn_list, chk.1, hm, hq, hql, hr, e']
end R

set_option Elab.async false
set_option linter.all false
set_option maxRecDepth 100000
set_option maxHeartbeats 4000000
namespace R
open PySem L2 DL M

theorem run_is_slot (x : Str) : sem_is_slot [.str x] = some (.bl (decide (x.cps.toList.head? = some 63))) := by
  rw [← starts_q]
  simp [sem_is_slot, runF, ir_is_slot]
def dPat (p : List Str) : D := .tup (p.map D.str)
def isS (x : Str) : Bool := decide (x.cps.toList.head? = some 63)
theorem seq_pat (p : List Str) (h : p.length ≤ lim) : seqL (dPat p) = some (p.map D.str) := by
  unfold seqL dPat seqD
  simp [h]
theorem part0 {t : Str} (h : t.cps.toList ≠ []) : ∃ c, atI t.cps.toList 0 = some c ∧ isS t = decide (c = 63) := by
  cases e : t.cps.toList with
  | nil => exact absurd e h
  | cons c r =>
    refine ⟨c, (atI_nat (j := 0) rfl : atI (c :: r) ((0 : Nat) : Int) = some c), ?_⟩
    unfold isS
    rw [e]
    simp
theorem cutD_1 {l : List D} : cutD l (some 1) none = l.tail := by
  unfold cutD
  rw [show (some 1 : Option Int) = some ((1 : Nat) : Int) from rfl, HT.sIx_nat, HT.sIx_none]
  cases l with
  | nil => rfl
  | cons a r =>
    have : min 1 (a :: r).length = 1 := by simp
    rw [this]
    simp
def cellF (ns : List Int) (k : Int) : Int := if k < ns.length then ns.getD k.toNat 0 else 0
theorem run_cell (ns : List Int) (k : Int) (h : 0 ≤ k) : sem_l_cell_at [.scr (ns.map D.int), .int k] = some (.int (cellF ns k)) := by
  unfold sem_l_cell_at
  rw [run_def]
  have hin : inD0 2 [.scr (ns.map D.int), .int k] = [some (.scr (ns.map D.int)), some (.int k)] := rfl
  rw [hin]
  by_cases hk : k < ns.length
  · have e : atI (ns.map D.int) k = some (.int (ns.getD k.toNat 0)) := by
      rw [atI_lt h (by simpa using hk)]
      have : k.toNat < ns.length := by omega
      simp [List.getD_eq_getElem?_getD, List.getElem?_eq_getElem this]
    simp [ir_l_cell_at, sq_l_cell_at_1, hk, e, cellF]
  · simp [ir_l_cell_at, sq_l_cell_at_1, hk, cellF]
theorem atI_map {α : Type} (g : α → D) {l : List α} {i : Int} (h0 : 0 ≤ i) (h1 : i < l.length) : ∃ x ∈ l, atI (l.map g) i = some (g x) := by
  have : i.toNat < l.length := by omega
  refine ⟨l[i.toNat], List.getElem_mem this, ?_⟩
  rw [atI_lt h0 (by simpa using h1)]; simp
theorem pat_loop (c : Int) (d1 : Option D) (parts : List Str) (hp : parts ≠ []) (hl : parts.length ≤ 1000) : ∀ (n : Nat) (js : List Int) (one : Int) (p : List Str) (o5 : Option D), js.length = n → p.length + n ≤ 900 →
    ∃ p' one' o5', forG (loopF Φ_l_pattern (.nm 5) lp_l_pattern_1) (js.map D.int) [some (.int c), d1, some (.lst (parts.map D.str)), some (.int one), some (.lst (p.map D.str)), o5] = some (.nx [some (.int c), d1, some (.lst (parts.map D.str)), some (.int one'), some (.lst (p'.map D.str)), o5']) ∧ ∃ ts, p' = p ++ ts ∧ ts.length = n ∧ ∀ t ∈ ts, t ∈ parts
  | 0, js, one, p, o5, h, _ => by
    have : js = [] := List.length_eq_zero_iff.mp h
    subst this
    exact ⟨p, one, o5, by simp [for_nil], [], by simp⟩
  | n + 1, [], _, _, _, h, _ => by simp at h
  | n + 1, j :: js, one, p, o5, h, hb => by
    have hpos : 0 < (parts.length : Int) := by have := List.length_pos_iff.mpr hp; omega
    obtain ⟨t, ht, hat⟩ := atI_map D.str (l := parts) (Int.emod_nonneg one (by omega : (parts.length : Int) ≠ 0)) (Int.emod_lt_of_pos one hpos)
    obtain ⟨p', one', o5', e, ts, rfl, h1, h2⟩ := pat_loop c d1 parts hp hl n js (one / parts.length) (p ++ [t]) (some (.int j)) (by simpa using h) (by simp; omega)
    refine ⟨p ++ [t] ++ ts, one', o5', ?_, t :: ts, by simp, by simp [h1], fun x hx => (List.mem_cons.mp hx).elim (fun z => z ▸ ht) (h2 x)⟩
    rw [List.map_cons]
    have e1 : loopF Φ_l_pattern (.nm 5) lp_l_pattern_1 (.int j) [some (.int c), d1, some (.lst (parts.map D.str)), some (.int one), some (.lst (p.map D.str)), o5] = some (.nx [some (.int c), d1, some (.lst (parts.map D.str)), some (.int (one / parts.length)), some (.lst ((p ++ [t]).map D.str)), some (.int j)]) := by
      have hz : p.length < lim := by have : lim = 100000 := rfl; omega
      have h30 : (parts.length : Int) < 1073741824 := by omega
      have hpos' : 0 < parts.length := by omega
      simp [loopF, lp_l_pattern_1, sq_l_pattern_1, hpos', hat, hz, h30]
    rw [for_cons e1]
    exact e
theorem run_pattern (c : Int) (words parts : List Str) (hw : words.length = 4) (hp : parts ≠ []) (hl : parts.length ≤ 1000) : ∃ w ts, sem_l_pattern [.int c, .lst (words.map D.str), .lst (parts.map D.str)] = some (dPat (w :: ts)) ∧ w ∈ words ∧ ts.length ≤ 3 ∧ ∀ t ∈ ts, t ∈ parts := by
  obtain ⟨w, hwm, hat⟩ := atI_map D.str (l := words) (i := c % 4) (Int.emod_nonneg c (by decide)) (by rw [hw]; exact Int.emod_lt_of_pos c (by decide))
  have q0 := Int.emod_nonneg (c / 4) (by decide : (4 : Int) ≠ 0)
  have q1 := Int.emod_lt_of_pos (c / 4) (by decide : (0 : Int) < 4)
  generalize hq : c / 4 % 4 = q at q0 q1
  have hr : rngD 0 q.toNat = ((List.range q.toNat).map fun (j : Nat) => (j : Int)).map D.int := by unfold rngD; rw [List.map_map]; simp
  obtain ⟨p', one', o5', e, ts, rfl, h1, h2⟩ := pat_loop c (some (.lst (words.map D.str))) parts hp hl q.toNat ((List.range q.toNat).map fun (j : Nat) => (j : Int)) (c * 48271 % 2147483647) [w] none (by simp) (by simp; omega)
  refine ⟨w, ts, ?_, hwm, by omega, h2⟩
  unfold sem_l_pattern
  rw [run_def]
  have hin : inD0 6 [.int c, .lst (words.map D.str), .lst (parts.map D.str)] = [some (.int c), some (.lst (words.map D.str)), some (.lst (parts.map D.str)), none, none, none] := rfl
  rw [hin]
  have hm : mulOk c 48271 = true := by unfold mulOk; simp
  have hql : q ≤ (lim : Int) ∧ -(lim : Int) ≤ q := by have : (lim : Int) = 100000 := rfl; omega
  have h1l : 1 ≤ lim := by decide
  have e' := e
  rw [List.map_map] at e'
  simp only [List.map_cons, List.map_nil] at e'
  simp [ir_l_pattern, sq_l_pattern_2, sq_l_pattern_3, sq_l_pattern_4, hm, hat, hq, hql, hr, h1l, e', dPat]
theorem run_put (p : List Str) (l : List (Str × Str)) (hl : p.length ≤ 1000) : sem_put_in [dPat p, fil l] = some (dPat (p.map (subst l))) := by
  unfold sem_put_in
  rw [run_def]
  have hin : inD0 3 [dPat p, fil l] = [some (dPat p), some (fil l), none] := rfl
  rw [hin]
  have e : lcG (lcF Φ_put_in (.nm 2) [2] el_put_in_1 .nop [some (dPat p), some (fil l), none]) (p.map D.str) = some ((p.map D.str).map fun d => match d with | .str t => .str (subst l t) | d => d) := by
    apply lcG_map
    intro x hx
    obtain ⟨t, _, rfl⟩ := List.mem_map.mp hx
    simp [lcF, el_put_in_1, wipeD, op3D, fil, keyD, getD_fil]
  have hs : seqL (dPat p) = some (p.map D.str) := seq_pat p (by have : lim = 100000 := rfl; omega)
  simp only [ir_put_in, x_seq, x_ret, e_op1, e_lc, i_V, e_var, List.getElem?_cons_zero, Option.bind_some, id, hs, e, Option.map_some, o1_tupL, then_ret, fin_ret, List.map_map]
  show some (D.tup _) = some (D.tup ((p.map (subst l)).map D.str))
  rw [List.map_map]; rfl
theorem abc_no : ∀ c ∈ abc, c ≠ 63 := by decide
theorem sgn_no : ∀ c ∈ sgn, c ≠ 63 := by decide
theorem Wd.noS {L : List Nat} (hL : ∀ c ∈ L, c ≠ 63) {x : Str} (h : Wd L x) : isS x = false := by
  unfold isS
  cases e : x.cps.toList with
  | nil => exact absurd e h.ne
  | cons c r =>
    have : c ≠ 63 := hL c (h.mem c (by rw [e]; simp))
    simp [this]
/-- a slot: the sign and a word -/
def Sl (x : Str) : Prop := isS x = true ∧ x.cps.toList ≠ []
theorem sl_of {w : Str} : Sl (⟨#[63]⟩ ++ w) := by
  have e : (⟨#[63]⟩ ++ w : Str).cps.toList = 63 :: w.cps.toList := str_app _ _
  exact ⟨by unfold isS; rw [e]; simp, by rw [e]; simp⟩
theorem dOk_pat (n : Nat) (p : List Str) : dOk (n + 1) (dPat p) = true := by unfold dPat; rw [dOk]; exact dOks_strs n p
/-! ### filling -/
abbrev Fil := List (Str × Str)
def look (l : Fil) (t : Str) : Option Str := (l.find? fun p => decide (p.1 = t)).map (·.2)
def putF (s t : Str) (l : Fil) : Fil := if (l.find? fun p => decide (p.1 = s)).isSome then l.map fun p => if p.1 = s then (p.1, t) else p else l ++ [(s, t)]
def dueF : Fil → Fil → Option Fil
  | acc, [] => some acc
  | acc, (t, x) :: r => if isS t then (match look acc t with | none => dueF (acc ++ [(t, x)]) r | some y => if y = x then dueF acc r else none) else (if t = x then dueF acc r else none)
def fitF : Fil → Fil → Fil
  | acc, [] => acc
  | acc, (t, x) :: r => if isS t then fitF (putF t x acc) r else fitF acc r
/-- a key tells one thing -/
def Fn (l : Fil) : Prop := ∀ p ∈ l, look l p.1 = some p.2
theorem look_none {l : Fil} {t : Str} (h : look l t = none) : ∀ p ∈ l, p.1 ≠ t := by
  unfold look at h
  simp only [Option.map_eq_none_iff, List.find?_eq_none, decide_eq_true_eq] at h
  exact fun p hp e => h p hp e
theorem look_app {l : Fil} {s x t : Str} : look (l ++ [(s, x)]) t = (look l t).or (if s = t then some x else none) := by
  unfold look
  rw [List.find?_append]
  cases h : l.find? fun p => decide (p.1 = t) with
  | some q => simp
  | none =>
    by_cases e : s = t
    · simp [e, List.find?_cons_of_pos]
    · simp [e, List.find?_cons_of_neg]
theorem Fn.app {l : Fil} (h : Fn l) {s x : Str} (hs : look l s = none) : Fn (l ++ [(s, x)]) := by
  intro p hp
  rw [look_app]
  rcases List.mem_append.mp hp with q | q
  · rw [h p q]; rfl
  · rw [List.mem_singleton.mp q, hs]; simp
theorem look_put {l : Fil} {s x : Str} : ∀ t, look (putF s x l) t = if s = t then some x else look l t := by
  intro t
  unfold putF
  split
  · rename_i h
    have g : ∀ (l : Fil), (l.find? fun p => decide (p.1 = s)).isSome = true → look (l.map fun p => if p.1 = s then (p.1, x) else p) t = if s = t then some x else look l t := by
      intro l
      induction l with
      | nil => intro z; simp at z
      | cons p r ih =>
        intro z
        by_cases e : p.1 = s
        · by_cases e2 : s = t
          · subst e2
            simp [look, e]
          · have e3 : p.1 ≠ t := fun z => e2 (e.symm.trans z)
            simp only [List.map_cons, e, if_true, look, List.find?_cons_of_neg, e3, decide_false, Bool.false_eq_true, not_false_eq_true, e2, if_false]
            have hh : ∀ (r : Fil), ((r.map fun p => if p.1 = s then (p.1, x) else p).find? fun p => decide (p.1 = t)).map (·.2) = (r.find? fun p => decide (p.1 = t)).map (·.2) := by
              intro r
              induction r with
              | nil => rfl
              | cons q r ihr =>
                by_cases e4 : q.1 = s
                · have e5 : q.1 ≠ t := fun z => e2 (e4.symm.trans z)
                  simp [e4, e2]
                  simpa using ihr
                · by_cases e6 : q.1 = t
                  · have e7 : ¬ t = s := fun z => e2 z.symm
                    simp [e6, e7]
                  · simp [e4, e6]
                    simpa using ihr
            simpa [e2] using hh r
        · rw [List.find?_cons_of_neg (by simp [e])] at z
          have ih := ih z
          simp only [List.map_cons, e, if_false]
          by_cases e2 : p.1 = t
          · have e3 : s ≠ t := fun z => e (e2.trans z.symm)
            simp [look, e2, e3]
          · unfold look at ih ⊢
            rw [List.find?_cons_of_neg (by simp [e2]), List.find?_cons_of_neg (by simp [e2])]
            exact ih
    exact g l h
  · rename_i h
    rw [look_app]
    have hs : look l s = none := by
      unfold look
      cases e : l.find? fun p => decide (p.1 = s) with
      | none => rfl
      | some _ => rw [e] at h; exact absurd rfl h
    by_cases e : s = t
    · subst e; rw [hs]; simp
    · simp [e]
theorem put_same {l : Fil} (h : Fn l) {s x : Str} (hs : look l s = some x) : putF s x l = l := by
  unfold putF
  have : (l.find? fun p => decide (p.1 = s)).isSome = true := by
    unfold look at hs
    cases e : l.find? fun p => decide (p.1 = s) with
    | none => rw [e] at hs; cases hs
    | some _ => rfl
  rw [if_pos this]
  conv => rhs; rw [← List.map_id l]
  apply List.map_congr_left
  intro p hp
  split
  · rename_i e
    have := h p hp
    rw [e, hs] at this
    cases this
    rfl
  · rfl
theorem put_new {l : Fil} {s x : Str} (hs : look l s = none) : putF s x l = l ++ [(s, x)] := by
  unfold putF
  rw [if_neg]
  unfold look at hs
  simp only [Option.map_eq_none_iff] at hs
  rw [hs]; simp
theorem due_fit : ∀ (r acc l : Fil), Fn acc → dueF acc r = some l → fitF acc r = l ∧ Fn l ∧ (∀ s v, look acc s = some v → look l s = some v) ∧ (∀ p ∈ r, isS p.1 = true → look l p.1 = some p.2) ∧ (∀ p ∈ r, isS p.1 = false → p.1 = p.2) ∧ l.length ≤ acc.length + r.length ∧ ((∀ p ∈ acc, isS p.1 = true) → ∀ p ∈ l, isS p.1 = true)
  | [], acc, l, hf, h => by
    cases h
    exact ⟨rfl, hf, fun _ _ z => z, by simp, by simp, by simp, fun z => z⟩
  | (t, x) :: r, acc, l, hf, h => by
    rw [dueF] at h
    rw [fitF]
    cases hS : isS t with
    | false =>
      rw [hS] at h
      simp only [Bool.false_eq_true, if_false] at h ⊢
      split at h
      · rename_i e
        obtain ⟨h1, h2, h3, h4, h5, h6, h7⟩ := due_fit r acc l hf h
        refine ⟨h1, h2, h3, fun p hp z => ?_, fun p hp z => ?_, by simp only [List.length_cons]; omega, h7⟩
        · rcases List.mem_cons.mp hp with rfl | hp
          · rw [hS] at z; cases z
          · exact h4 p hp z
        · rcases List.mem_cons.mp hp with rfl | hp
          · exact e
          · exact h5 p hp z
      · cases h
    | true =>
      rw [hS] at h
      simp only [if_true] at h ⊢
      cases hl : look acc t with
      | none =>
        rw [hl] at h
        dsimp only at h
        obtain ⟨h1, h2, h3, h4, h5, h6, h7⟩ := due_fit r (acc ++ [(t, x)]) l (hf.app hl) h
        rw [put_new hl]
        have ht : look l t = some x := h3 t x (by rw [look_app, hl]; simp)
        refine ⟨h1, h2, fun s v z => h3 s v (by rw [look_app, z]; rfl), fun p hp z => ?_, fun p hp z => ?_, by simp only [List.length_append, List.length_singleton] at h6; simp only [List.length_cons]; omega, fun z => h7 fun p hp => ?_⟩
        · rcases List.mem_cons.mp hp with rfl | hp
          · exact ht
          · exact h4 p hp z
        · rcases List.mem_cons.mp hp with rfl | hp
          · rw [hS] at z; cases z
          · exact h5 p hp z
        · rcases List.mem_append.mp hp with q | q
          · exact z p q
          · rw [List.mem_singleton.mp q]; exact hS
      | some y =>
        rw [hl] at h
        dsimp only at h
        split at h
        · rename_i e
          subst e
          obtain ⟨h1, h2, h3, h4, h5, h6, h7⟩ := due_fit r acc l hf h
          rw [put_same hf hl]
          refine ⟨h1, h2, h3, fun p hp z => ?_, fun p hp z => ?_, by simp only [List.length_cons]; omega, h7⟩
          · rcases List.mem_cons.mp hp with rfl | hp
            · exact h3 t y hl
            · exact h4 p hp z
          · rcases List.mem_cons.mp hp with rfl | hp
            · rw [hS] at z; cases z
            · exact h5 p hp z
        · cases h
/-- what the way back tells, tells the due -/
theorem due_ex (g : Str → Str) : ∀ (r acc : Fil), (∀ p ∈ r, g p.1 = p.2) → (∀ p ∈ r, isS p.1 = false → g p.1 = p.1) → (∀ s v, look acc s = some v → g s = v) → ∃ l, dueF acc r = some l
  | [], acc, _, _, _ => ⟨acc, rfl⟩
  | (t, x) :: r, acc, h1, h2, h3 => by
    rw [dueF]
    have ht := h1 (t, x) (by simp)
    dsimp only at ht
    cases hS : isS t with
    | false =>
      have := h2 (t, x) (by simp) hS
      dsimp only at this
      simp only [Bool.false_eq_true, if_false]
      rw [if_pos (this.symm.trans ht)]
      exact due_ex g r acc (fun p hp => h1 p (by simp [hp])) (fun p hp => h2 p (by simp [hp])) h3
    | true =>
      simp only [if_true]
      cases hl : look acc t with
      | none =>
        dsimp only
        refine due_ex g r _ (fun p hp => h1 p (by simp [hp])) (fun p hp => h2 p (by simp [hp])) fun s v z => ?_
        rw [look_app] at z
        cases hq : look acc s with
        | some w => rw [hq] at z; cases z; exact h3 s _ hq
        | none =>
          rw [hq] at z
          simp only [Option.none_or] at z
          split at z
          · rename_i e; cases z; subst e; exact ht
          · cases z
      | some y =>
        dsimp only
        have := h3 t y hl
        rw [if_pos (this.symm.trans ht)]
        exact due_ex g r acc (fun p hp => h1 p (by simp [hp])) (fun p hp => h2 p (by simp [hp])) h3
theorem fit_keys : ∀ (r acc : Fil), (∀ p ∈ acc, isS p.1 = true) → ∀ p ∈ fitF acc r, isS p.1 = true
  | [], acc, h => h
  | (t, x) :: r, acc, h => by
    rw [fitF]
    split
    · rename_i hS
      refine fit_keys r _ fun p hp => ?_
      unfold putF at hp
      split at hp
      · obtain ⟨q, hq, rfl⟩ := List.mem_map.mp hp
        split
        · exact h q hq
        · exact h q hq
      · rcases List.mem_append.mp hp with z | z
        · exact h p z
        · rw [List.mem_singleton.mp z]; exact hS
    · exact fit_keys r acc h
theorem subst_look (l : Fil) (t : Str) : subst l t = (look l t).getD t := rfl
theorem subst_word {l : Fil} (h : ∀ p ∈ l, isS p.1 = true) {t : Str} (ht : isS t = false) : subst l t = t := by
  rw [subst_look]
  cases e : look l t with
  | none => rfl
  | some v =>
    unfold look at e
    obtain ⟨p, h1, h2⟩ := Option.map_eq_some_iff.mp e
    have h3 : p.1 = t := by
      have := List.find?_some h1
      exact of_decide_eq_true this
    have := h p (List.mem_of_find?_eq_some h1)
    rw [h3, ht] at this; cases this
theorem zip_ext {β : Type} {g : Str → β} : ∀ {a : List Str} {b : List β}, a.length = b.length → (∀ p ∈ a.zip b, g p.1 = p.2) → a.map g = b
  | [], [], _, _ => rfl
  | [], _ :: _, h, _ => by cases h
  | _ :: _, [], h, _ => by cases h
  | x :: a, y :: b, h, k => by
    rw [List.map_cons, k (x, y) (by simp), zip_ext (by simpa using h) fun p hp => k p (by simp [hp])]
theorem zip_of {β : Type} {g : Str → β} : ∀ {a : List Str}, ∀ p ∈ a.zip (a.map g), g p.1 = p.2
  | [], p, hp => by simp at hp
  | x :: a, p, hp => by
    simp only [List.map_cons, List.zip_cons_cons, List.mem_cons] at hp
    rcases hp with rfl | hp
    · rfl
    · exact zip_of p hp
/-- THE POINT: the way back tells the pattern's fact just where the due tells a dict, and then it is that dict -/
theorem fit_due {w u : Str} {ts us : List Str} (hw : isS w = false) :
    let l := fitF [] (ts.zip us)
    ((w :: ts).map (subst l) = u :: us → w = u ∧ ts.length = us.length ∧ dueF [] (ts.zip us) = some l) ∧
    (∀ l', w = u → ts.length = us.length → dueF [] (ts.zip us) = some l' → l' = l ∧ (w :: ts).map (subst l) = u :: us) := by
  intro l
  have hk : ∀ p ∈ l, isS p.1 = true := fit_keys _ [] (by simp)
  have hn : Fn [] := by intro p hp; cases hp
  refine ⟨fun h => ?_, fun l' hu hl hd => ?_⟩
  · rw [List.map_cons] at h
    injection h with h1 h2
    rw [subst_word hk hw] at h1
    have hz : ∀ p ∈ ts.zip us, subst l p.1 = p.2 := by rw [← h2]; exact zip_of
    obtain ⟨l', hd⟩ := due_ex (subst l) (ts.zip us) [] hz (fun p _ z => subst_word hk z) (by intro s v z; cases z)
    have := (due_fit _ _ _ hn hd).1
    exact ⟨h1, by rw [← h2, List.length_map], by rw [hd]; exact congrArg some this.symm⟩
  · obtain ⟨h1, h2, h3, h4, h5, h6, h7⟩ := due_fit _ _ _ hn hd
    have e : l' = l := h1.symm
    refine ⟨e, ?_⟩
    rw [List.map_cons, subst_word hk hw, hu]
    congr 1
    refine zip_ext hl fun p hp => ?_
    cases hS : isS p.1 with
    | true =>
      have := h4 p hp hS
      rw [← e, subst_look, this]; rfl
    | false => rw [subst_word hk hS]; exact h5 p hp hS
end R

set_option Elab.async false
set_option linter.all false
set_option maxRecDepth 100000
set_option maxHeartbeats 4000000
namespace R
open PySem L2 DL M

def ksF (l : Fil) : List Key := l.map fun p => .inr p.1
def dsF (l : Fil) : List D := l.map fun p => .str p.2
theorem fil_eq (l : Fil) : fil l = .dic (ksF l) (dsF l) := rfl
theorem put_ks (s t : Str) (l : Fil) : putKs (.inr s) (ksF l) = ksF (putF s t l) ∧ putD (.inr s) (.str t) (ksF l) (dsF l) = dsF (putF s t l) := by
  unfold putKs putD putF ksF dsF
  rw [any_fil]
  cases h : (l.find? fun p => decide (p.1 = s)).isSome with
  | false => simp
  | true =>
    simp only [if_true]
    constructor
    · rw [List.map_map]
      apply List.map_congr_left
      intro p _
      show (Sum.inr p.1 : Key) = .inr (if p.1 = s then (p.1, t) else p).1
      split <;> rfl
    · clear h
      induction l with
      | nil => rfl
      | cons p r ih =>
        simp only [List.map_cons, repD, ih]
        by_cases h : p.1 = s
        · simp [h]
        · have : ¬ (Sum.inr p.1 : Key) = .inr s := fun z => h (Sum.inr.inj z)
          simp [h, this]
def prD (p : Str × Str) : D := .tup [.str p.1, .str p.2]
theorem zip_pr : ∀ (p f : List Str), ((p.map D.str).zip (f.map D.str)).map (fun q => D.tup [q.1, q.2]) = (p.zip f).map prD
  | [], _ => rfl
  | _ :: _, [] => rfl
  | x :: p, y :: f => by
    simp only [List.map_cons, List.zip_cons_cons]
    rw [← zip_pr p f]; rfl
theorem fit_loop (d0 d1 : Option D) : ∀ (r acc : Fil), dcG (dcF Φ_fitted (.tp (.cn (.nm 3) (.cn (.nm 4) .nl))) [3, 4] el_fitted_1 el_fitted_2 el_fitted_3 [d0, d1, none, none, none]) (r.map prD) (ksF acc) (dsF acc) = some (ksF (fitF acc r), dsF (fitF acc r))
  | [], acc => rfl
  | (t, x) :: r, acc => by
    rw [List.map_cons, dcG, fitF]
    have e : dcF Φ_fitted (.tp (.cn (.nm 3) (.cn (.nm 4) .nl))) [3, 4] el_fitted_1 el_fitted_2 el_fitted_3 [d0, d1, none, none, none] (prD (t, x)) = some (if isS t then some (.inr t, .str x) else none) := by
      unfold dcF prD
      have h1 : asgT (.tp (.cn (.nm 3) (.cn (.nm 4) .nl))) (.tup [.str t, .str x]) (wipeD [d0, d1, none, none, none] [3, 4]) = some [d0, d1, none, some (.str t), some (.str x)] := rfl
      rw [h1]
      have hs : sem_is_slot [.str t] = some (.bl (isS t)) := run_is_slot t
      cases hS : isS t <;> simp [el_fitted_1, el_fitted_2, el_fitted_3, Φ_fitted, hs, hS, keyD]
    rw [e]
    simp only [Option.bind_some]
    cases hS : isS t with
    | false => simp only [Bool.false_eq_true, if_false]; exact fit_loop d0 d1 r acc
    | true =>
      simp only [if_true]
      obtain ⟨h1, h2⟩ := put_ks t x acc
      rw [h1, h2]
      exact fit_loop d0 d1 r _
theorem eq_pat (p f : List Str) : eqD (dPat p) (dPat f) = some (decide (p = f)) := by
  have h1 := dOk_pat 59 p
  have h2 := dOk_pat 59 f
  have e : eqv (dPat p) (dPat f) = decide (p = f) := by
    unfold dPat
    rw [eqv]
    clear h1 h2
    induction p generalizing f with
    | nil => cases f <;> simp [eqvs]
    | cons x p ih =>
      cases f with
      | nil => simp [eqvs]
      | cons y f =>
        simp only [List.map_cons, eqvs, eqv_str, ih f]
        by_cases a : x = y <;> by_cases b : p = f <;> simp [a, b]
  unfold dPat at h1 h2 e ⊢
  unfold eqD
  dsimp only
  rw [show dOk 60 (D.tup (p.map D.str)) = true from h1, show dOk 60 (D.tup (f.map D.str)) = true from h2, e]; rfl
theorem run_fitted (p f : List Str) (hp : p.length ≤ 900) : sem_fitted [dPat p, dPat f] = some (if p.map (subst (fitF [] (p.zip f))) = f then fil (fitF [] (p.zip f)) else .non) := by
  unfold sem_fitted
  rw [run_def]
  have hin : inD0 5 [dPat p, dPat f] = [some (dPat p), some (dPat f), none, none, none] := rfl
  rw [hin]
  have hz : zipD (dPat p) (dPat f) = some ((p.zip f).map prD) := by unfold zipD dPat; rw [← zip_pr]
  have hl : ((p.zip f).map prD).length ≤ lim := by rw [List.length_map, List.length_zip]; have : lim = 100000 := rfl; omega
  have e := fit_loop (some (dPat p)) (some (dPat f)) (p.zip f) []
  rw [show ksF [] = [] from rfl, show dsF [] = [] from rfl] at e
  have r1 := run_put p (fitF [] (p.zip f)) (by omega)
  rw [ir_fitted, x_seq, x_asg, e_dc, i_Zip]
  simp only [e_var, List.getElem?_cons_zero, List.getElem?_cons_succ, Option.bind_some, id, hz, if_pos hl, e, Option.map_some, then_nx, List.set_cons_succ, List.set_cons_zero, ← fil_eq]
  rw [sq_fitted_1, x_seq, x_ite]
  simp only [t_op2, e_call, a_cons, a_nil, e_var, List.getElem?_cons_zero, List.getElem?_cons_succ, Option.bind_some, id, Option.map_some, Φ_fitted, r1, o2_eq, eq_pat, tru_bl]
  by_cases h : p.map (subst (fitF [] (p.zip f))) = f
  · simp [h]
  · simp [h, sq_fitted_2]
/-! ### the due -/
theorem rng_succ (lo : Int) (n : Nat) : rngD lo (n + 1) = .int lo :: rngD (lo + 1) n := by
  unfold rngD
  rw [List.range_succ_eq_map, List.map_cons, List.map_map]
  congr 1
  · simp
  · apply List.map_congr_left
    intro k _
    show D.int _ = D.int _
    congr 1
    show lo + ((k + 1 : Nat) : Int) = _
    omega
theorem at_pre (pre : List Str) (t : Str) (ts : List Str) (lo : Int) (h : lo = pre.length) : op2D .ix (dPat (pre ++ t :: ts)) (.int lo) = some (.str t) := by
  show atI _ lo = _
  subst h
  exact atI_nat (by simp)
theorem in_fil (t : Str) (l : Fil) : inD (.str t) (fil l) = some (look l t).isSome := by
  unfold look
  rw [Option.isSome_map, ← any_fil]; rfl
theorem ix_fil (t : Str) (l : Fil) : op2D .ix (fil l) (.str t) = (look l t).map D.str := by
  show lookD (.inr t) _ _ = _
  rw [look_fil]; unfold look; rw [Option.map_map]; rfl
theorem eq_str (a b : Str) : eqD (.str a) (.str b) = some (decide (a = b)) := by
  unfold eqD
  simp only [dOk_str, eqv_str, Bool.and_self, if_true]
theorem one_eq (c : Nat) : ((⟨#[c]⟩ : Str) = ⟨#[63]⟩) = (c = 63) := by simp
theorem due_loop : ∀ (ts us pre qre : List Str) (acc : Fil) (lo : Int) (o3 : Option D), ts.length = us.length → pre.length = qre.length → lo = pre.length → (∀ t ∈ ts, t.cps.toList ≠ []) → acc.length + ts.length ≤ 900 →
    match dueF acc (ts.zip us) with
    | some l => ∃ o3', forG (loopF Φ_l_due (.nm 3) lp_l_due_1) (rngD lo ts.length) [some (dPat (pre ++ ts)), some (dPat (qre ++ us)), some (fil acc), o3] = some (.nx [some (dPat (pre ++ ts)), some (dPat (qre ++ us)), some (fil l), o3'])
    | none => forG (loopF Φ_l_due (.nm 3) lp_l_due_1) (rngD lo ts.length) [some (dPat (pre ++ ts)), some (dPat (qre ++ us)), some (fil acc), o3] = some (.ret .non)
  | [], [], pre, qre, acc, lo, o3, _, _, _, _, _ => ⟨o3, rfl⟩
  | [], _ :: _, _, _, _, _, _, h, _, _, _, _ => by cases h
  | _ :: _, [], _, _, _, _, _, h, _, _, _, _ => by cases h
  | t :: ts, x :: us, pre, qre, acc, lo, o3, hl, hq, hlo, hne, hsz => by
    simp only [List.length_cons] at hsz hl
    have ih := fun acc' (h' : acc'.length + ts.length ≤ 900) => due_loop ts us (pre ++ [t]) (qre ++ [x]) acc' (lo + 1) (some (.int lo)) (by omega) (by simp [hq]) (by simp [hlo]) (fun z hz => hne z (by simp [hz])) h'
    simp only [List.append_assoc, List.singleton_append] at ih
    have a1 := at_pre pre t ts lo hlo
    have a2 := at_pre qre x us lo (by rw [hlo, hq])
    obtain ⟨c, hc, hS⟩ := part0 (hne t (by simp))
    have a3 : op2D .ix (.str t) (.int 0) = some (.str ⟨#[c]⟩) := by
      show (atI t.cps.toList 0).map _ = _
      rw [hc]; rfl
    have hz : (ksF acc).length < lim := by unfold ksF; rw [List.length_map]; have : lim = 100000 := rfl; omega
    rw [List.zip_cons_cons, dueF, List.length_cons, rng_succ]
    generalize dPat (pre ++ t :: ts) = P at *
    generalize dPat (qre ++ x :: us) = F at *
    have step : loopF Φ_l_due (.nm 3) lp_l_due_1 (.int lo) [some P, some F, some (fil acc), o3] = (if isS t then (match look acc t with | none => some (.nx [some P, some F, some (fil (acc ++ [(t, x)])), some (.int lo)]) | some y => if y = x then some (.nx [some P, some F, some (fil acc), some (.int lo)]) else some (.ret .non)) else (if t = x then some (.nx [some P, some F, some (fil acc), some (.int lo)]) else some (.ret .non))) := by
      simp only [loopF, lp_l_due_1, as_nm, List.set_cons_succ, List.set_cons_zero, Option.bind_some, x_seq, x_ite, t_op2, e_op2, e_var, e_con, List.getElem?_cons_zero, List.getElem?_cons_succ, id, a1, a2, a3, o2_ne, eq_str, Option.map_some, tru_bl, one_eq]
      rw [hS]
      by_cases c63 : c = 63
      · simp only [c63, decide_true, Bool.not_true, Bool.false_eq_true, if_false, if_true, o2_notin, in_fil, Option.map_some, tru_bl, Option.bind_some]
        cases hk : look acc t with
        | none =>
          obtain ⟨p1, p2⟩ := put_ks t x acc
          have p3 : putF t x acc = acc ++ [(t, x)] := put_new hk
          rw [p3] at p1 p2
          simp [x_setk, e_op2, a1, a2, fil_eq, keyD, hz, p1, p2]
        | some y =>
          by_cases e : y = x <;> simp [ix_fil, hk, eq_str, e]
      · by_cases e : t = x <;> simp [c63, e]
    cases hT : isS t with
    | false =>
      rw [hT] at step
      simp only [Bool.false_eq_true, if_false] at step ⊢
      by_cases e : t = x
      · rw [if_pos e] at step ⊢
        rw [for_cons step]
        exact ih acc (by omega)
      · rw [if_neg e] at step ⊢
        exact for_ret step
    | true =>
      rw [hT] at step
      simp only [if_true] at step ⊢
      cases hk : look acc t with
      | none =>
        rw [hk] at step
        dsimp only at step ⊢
        rw [for_cons step]
        exact ih _ (by simp; omega)
      | some y =>
        rw [hk] at step
        dsimp only at step ⊢
        by_cases e : y = x
        · rw [if_pos e] at step ⊢
          rw [for_cons step]
          exact ih acc (by omega)
        · rw [if_neg e] at step ⊢
          exact for_ret step
def dueD (w u : Str) (ts us : List Str) : D := if ts.length = us.length ∧ w = u then (match dueF [] (ts.zip us) with | some l => fil l | none => .non) else .non
theorem eq_int (i j : Int) : eqD (.int i) (.int j) = some (decide (i = j)) := by
  unfold eqD
  have h : ∀ z, dOk 60 (.int z) = true := fun _ => rfl
  simp only [h, Bool.and_self, if_true, eqv]
  congr 1
theorem run_due (w u : Str) (ts us : List Str) (hne : ∀ t ∈ ts, t.cps.toList ≠ []) (h1 : ts.length ≤ 800) (h2 : us.length ≤ 800) : sem_l_due [dPat (w :: ts), dPat (u :: us)] = some (dueD w u ts us) := by
  unfold sem_l_due
  rw [run_def]
  have hin : inD0 4 [dPat (w :: ts), dPat (u :: us)] = [some (dPat (w :: ts)), some (dPat (u :: us)), none, none] := rfl
  rw [hin]
  have l1 : op1D .len (dPat (w :: ts)) = some (.int ((ts.length : Int) + 1)) := by simp [dPat]
  have l2 : op1D .len (dPat (u :: us)) = some (.int ((us.length : Int) + 1)) := by simp [dPat]
  have a1 : op2D .ix (dPat (w :: ts)) (.int 0) = some (.str w) := at_pre [] w ts 0 rfl
  have a2 : op2D .ix (dPat (u :: us)) (.int 0) = some (.str u) := at_pre [] u us 0 rfl
  rw [ir_l_due, x_seq, x_ite]
  simp only [t_or, t_op2, e_op1, e_op2, e_var, e_con, List.getElem?_cons_zero, List.getElem?_cons_succ, Option.bind_some, id, l1, l2, a1, a2, o2_ne, eq_int, eq_str, Option.map_some, tru_bl]
  unfold dueD
  by_cases hl : ts.length = us.length
  · by_cases hw : w = u
    · have hl' : (ts.length : Int) + 1 = us.length + 1 := by omega
      rw [if_pos (show ts.length = us.length ∧ w = u from ⟨hl, hw⟩)]
      simp only [hl', hw, eq_self_iff_true, decide_true, Bool.not_true, Bool.false_eq_true, if_false, Option.bind_some, x_nx, then_nx]
      have hb : (0 : Int) ≤ 1 ∧ (1 : Int) ≤ (lim : Int) ∧ (us.length : Int) + 1 ≤ (lim : Int) ∧ -(lim : Int) ≤ (us.length : Int) + 1 := by have : (lim : Int) = 100000 := rfl; omega
      have hn : ((us.length : Int) + 1 - 1).toNat = ts.length := by omega
      have e := due_loop ts us [w] [u] [] 1 none hl rfl rfl hne (by simp; omega)
      rw [hw] at l1
      rw [sq_l_due_1, x_seq, x_asgO]
      simp only [e_dnew, Option.bind_some, isL_d, if_true, then_nx, List.set_cons_succ, List.set_cons_zero]
      rw [sq_l_due_2, x_seq, x_for, i_R2]
      simp only [e_op1, e_var, e_con, List.getElem?_cons_zero, List.getElem?_cons_succ, Option.bind_some, id, l2, if_pos hb, hn]
      rw [hw] at e
      simp only [List.singleton_append, show fil [] = .dic [] [] from rfl] at e
      cases hd : dueF [] (ts.zip us) with
      | none =>
        rw [hd] at e
        dsimp only at e
        rw [e]; rfl
      | some l =>
        rw [hd] at e
        obtain ⟨o3', e⟩ := e
        rw [e]
        simp [sq_l_due_3]
    · have hl' : (ts.length : Int) + 1 = us.length + 1 := by omega
      rw [if_neg (show ¬ (ts.length = us.length ∧ w = u) from fun z => hw z.2)]
      simp [hl', hw]
  · have hl' : ¬ (ts.length : Int) + 1 = us.length + 1 := by omega
    rw [if_neg (show ¬ (ts.length = us.length ∧ w = u) from fun z => hl z.1)]
    simp [hl']
/-! ### the fact -/
theorem index_strs (x : Str) : ∀ (l : List Str) (i : Nat), x ∈ l → ∃ j, indexD (.str x) (l.map D.str) i = some (i + j) ∧ j < l.length
  | [], _, h => by cases h
  | y :: r, i, h => by
    rw [List.map_cons, indexD, eqv_str]
    by_cases e : y = x
    · exact ⟨0, by simp [e], by simp⟩
    · obtain ⟨j, h1, h2⟩ := index_strs x r (i + 1) (by rcases List.mem_cons.mp h with z | z; exact absurd z.symm e; exact z)
      refine ⟨j + 1, ?_, by simp; omega⟩
      simp only [e, decide_false, Bool.false_eq_true, if_false, h1]
      congr 1; omega
theorem fact_loop (d0 d3 d4 : Option D) (slots things : List Str) (hs : slots.length = 3) (ht : things.length = 4) : ∀ (ts acc : List Str) (o6 : Option D), acc.length + ts.length ≤ 900 →
    ∃ us o6', forG (loopF Φ_l_fact (.nm 6) lp_l_fact_1) (ts.map D.str) [d0, some (.lst (slots.map D.str)), some (.lst (things.map D.str)), d3, d4, some (.lst (acc.map D.str)), o6] = some (.nx [d0, some (.lst (slots.map D.str)), some (.lst (things.map D.str)), d3, d4, some (.lst ((acc ++ us).map D.str)), o6']) ∧ us.length = ts.length
  | [], acc, o6, _ => ⟨[], o6, by simp [for_nil], rfl⟩
  | t :: ts, acc, o6, h => by
    simp only [List.length_cons] at h
    have hz : acc.length < lim := by have : lim = 100000 := rfl; omega
    obtain ⟨u, e1⟩ : ∃ u, loopF Φ_l_fact (.nm 6) lp_l_fact_1 (.str t) [d0, some (.lst (slots.map D.str)), some (.lst (things.map D.str)), d3, d4, some (.lst (acc.map D.str)), o6] = some (.nx [d0, some (.lst (slots.map D.str)), some (.lst (things.map D.str)), d3, d4, some (.lst ((acc ++ [u]).map D.str)), some (.str t)]) := by
      by_cases hm : t ∈ slots
      · obtain ⟨j, h1, h2⟩ := index_strs t slots 0 hm
        obtain ⟨u, _, hu⟩ := atI_map D.str (l := things) (i := (j : Int)) (by omega) (by omega)
        have hx : op2D .index (.lst (slots.map D.str)) (.str t) = some (.int (j : Int)) := by
          show (if dOk 60 (.str t) && dOk 60 (.lst (slots.map D.str)) then (indexD (.str t) (slots.map D.str) 0).map (fun (j : Nat) => D.int (Int.ofNat j)) else none) = _
          rw [dOk_str, show dOk 60 (.lst (slots.map D.str)) = true from dOks_strs 59 slots, h1]
          simp
        exact ⟨u, by simp [loopF, lp_l_fact_1, in_strs, hm, hx, hu, hz]⟩
      · exact ⟨t, by simp [loopF, lp_l_fact_1, in_strs, hm, hz]⟩
    obtain ⟨us, o6', e, h1⟩ := fact_loop d0 d3 d4 slots things hs ht ts (acc ++ [u]) (some (.str t)) (by simp; omega)
    refine ⟨u :: us, o6', ?_, by simp [h1]⟩
    rw [List.map_cons, for_cons e1, e]
    simp
theorem set_strs (l : List Str) (j : Nat) (x : Str) : (l.map D.str).set j (.str x) = (l.set j x).map D.str := by rw [List.map_set]
theorem ixN_ok {n : Nat} {i : Int} (h0 : 0 ≤ i) (h1 : i < n) : ixN n i = some i.toNat := by
  unfold ixN
  rw [if_pos h0, if_pos h1]
end R

set_option Elab.async false
set_option linter.all false
set_option maxRecDepth 100000
set_option maxHeartbeats 4000000
namespace R
open PySem L2 DL M

theorem len_strs (L : List Str) : op1D .len (.lst (L.map D.str)) = some (.int L.length) := by simp
theorem cut_last (L : List Str) (h : 1 < L.length) : cutD (L.map D.str) none (some (-1)) = (L.take (L.length - 1)).map D.str := by
  have e : HT.sIx L.length L.length (some (-1 : Int)) = L.length - 1 := by
    simp only [HT.sIx]
    rw [if_pos (by decide : (-1 : Int) < 0)]
    omega
  unfold cutD
  rw [List.length_map, HT.sIx_none, e]
  simp [List.map_take]
theorem run_fact (w : Str) (ts slots things words : List Str) (pick : Int) (hts : ts.length ≤ 3) (hs : slots.length = 3) (ht : things.length = 4) (hw : words.length = 4) :
    ∃ u us, sem_l_fact [dPat (w :: ts), .lst (slots.map D.str), .lst (things.map D.str), .int pick, .lst (words.map D.str)] = some (dPat (u :: us)) ∧ us.length ≤ 3 := by
  unfold sem_l_fact
  rw [run_def]
  have hin : inD0 7 [dPat (w :: ts), .lst (slots.map D.str), .lst (things.map D.str), .int pick, .lst (words.map D.str)] = [some (dPat (w :: ts)), some (.lst (slots.map D.str)), some (.lst (things.map D.str)), some (.int pick), some (.lst (words.map D.str)), none, none] := rfl
  rw [hin]
  have h1l : 1 ≤ lim := by decide
  have a1 : op2D .ix (dPat (w :: ts)) (.int 0) = some (.str w) := at_pre [] w ts 0 rfl
  have hsl : slD (dPat (w :: ts)) (some 1) none = some (dPat ts) := by simp [dPat, slD, cutD_1]
  have hs2 : seqL (dPat ts) = some (ts.map D.str) := seq_pat ts (by have : lim = 100000 := rfl; omega)
  obtain ⟨us0, o6, e, hl0⟩ := fact_loop (some (dPat (w :: ts))) (some (.int pick)) (some (.lst (words.map D.str))) slots things hs ht ts [w] none (by simp; omega)
  have start : exS Φ_l_fact 1000 ir_l_fact [some (dPat (w :: ts)), some (.lst (slots.map D.str)), some (.lst (things.map D.str)), some (.int pick), some (.lst (words.map D.str)), none, none] = exS Φ_l_fact 1000 sq_l_fact_2 [some (dPat (w :: ts)), some (.lst (slots.map D.str)), some (.lst (things.map D.str)), some (.int pick), some (.lst (words.map D.str)), some (.lst ((w :: us0).map D.str)), o6] := by
    rw [ir_l_fact, x_seq, x_asgO]
    simp only [e_lst, e_op2, a_cons, a_nil, e_var, e_con, List.getElem?_cons_zero, List.getElem?_cons_succ, Option.bind_some, Option.map_some, id, a1, List.length_cons, List.length_nil, Nat.zero_add, if_pos h1l, isL_l, if_true, then_nx, List.set_cons_succ, List.set_cons_zero]
    rw [sq_l_fact_1, x_seq, x_for, i_V, e_sl]
    simp only [e_var, o_cons, o_nop, e_con, List.getElem?_cons_zero, Option.bind_some, id, hsl, hs2]
    simp only [List.map_cons, List.map_nil, List.singleton_append] at e
    rw [e]; simp
  rw [start]
  clear e start
  generalize dPat (w :: ts) = P
  have hL : ∃ L : List Str, w :: us0 = L ∧ 1 ≤ L.length ∧ L.length ≤ 4 := ⟨_, rfl, by simp, by simp; omega⟩
  obtain ⟨L, eL, hL1, hL4⟩ := hL
  rw [eL]
  clear eL
  have p6 := Int.emod_nonneg pick (by decide : (6 : Int) ≠ 0)
  have fins : ∀ L : List Str, 1 ≤ L.length → L.length ≤ 4 → ∃ u us, fin (some (.ret (.tup (L.map D.str)))) = some (dPat (u :: us)) ∧ us.length ≤ 3 := by
    intro L h1 h4
    cases L with
    | nil => simp at h1
    | cons u us => exact ⟨u, us, rfl, by simp at h4; omega⟩
  have key : ∃ L' : List Str, exS Φ_l_fact 1000 sq_l_fact_2 [some P, some (.lst (slots.map D.str)), some (.lst (things.map D.str)), some (.int pick), some (.lst (words.map D.str)), some (.lst (L.map D.str)), o6] = some (.ret (.tup (L'.map D.str))) ∧ 1 ≤ L'.length ∧ L'.length ≤ 4 := by
    obtain ⟨t3, _, ht3⟩ := atI_map D.str (l := things) (i := 3) (by decide) (by rw [ht]; decide)
    obtain ⟨wp, _, hwp⟩ := atI_map D.str (l := words) (i := pick / 6 % 4) (Int.emod_nonneg _ (by decide)) (by rw [hw]; exact Int.emod_lt_of_pos _ (by decide))
    obtain ⟨tp, _, htp⟩ := atI_map D.str (l := things) (i := pick / 6 % 3) (Int.emod_nonneg _ (by decide)) (by rw [ht]; have := Int.emod_lt_of_pos (pick / 6) (by decide : (0 : Int) < 3); omega)
    have h0 : ixN L.length 0 = some 0 := by rw [ixN_ok (by decide) (by omega)]; rfl
    have q : pick % 6 = 1 ∨ pick % 6 = 3 ∨ pick % 6 = 5 ∨ pick % 6 = 4 ∨ (pick % 6 ≠ 1 ∧ pick % 6 ≠ 3 ∧ pick % 6 ≠ 5 ∧ pick % 6 ≠ 4) := by omega
    rcases q with q | q | q | q | ⟨q1, q3, q5, q4⟩
    · by_cases hg : 1 < L.length
      · have m0 := Int.emod_nonneg (pick / 6) (by omega : ((L.length : Int) - 1) ≠ 0)
        have m1 := Int.emod_lt_of_pos (pick / 6) (by omega : (0 : Int) < (L.length : Int) - 1)
        have hi := ixN_ok (n := L.length) (i := 1 + pick / 6 % ((L.length : Int) - 1)) (by omega) (by omega)
        have hg' : (1 : Int) < L.length := by omega
        refine ⟨L.set (1 + pick / 6 % ((L.length : Int) - 1)).toNat t3, ?_, by simpa using hL1, by simpa using hL4⟩
        simp [sq_l_fact_2, sq_l_fact_3, sq_l_fact_4, sq_l_fact_5, sq_l_fact_6, eqD, dOk, eqv, q, hg, hg', ht3, hi, List.map_set]
      · have hg' : ¬ (1 : Int) < L.length := by omega
        refine ⟨L, ?_, hL1, hL4⟩
        simp [sq_l_fact_2, sq_l_fact_3, sq_l_fact_4, sq_l_fact_5, sq_l_fact_6, eqD, dOk, eqv, q, hg, hg']
    · refine ⟨L.set 0 wp, ?_, by simpa using hL1, by simpa using hL4⟩
      simp [sq_l_fact_2, sq_l_fact_3, sq_l_fact_4, sq_l_fact_5, sq_l_fact_6, eqD, dOk, eqv, q, hwp, h0, List.map_set]
    · by_cases hg : L.length < 4
      · have hg' : (L.length : Int) < 4 := by omega
        have hz : L.length + 1 ≤ lim := by have : lim = 100000 := rfl; omega
        refine ⟨L ++ [tp], ?_, by simp, by simp; omega⟩
        simp [sq_l_fact_2, sq_l_fact_3, sq_l_fact_4, sq_l_fact_5, sq_l_fact_6, eqD, dOk, eqv, q, hg, hg', htp, hz, h1l]
      · have hg' : ¬ (L.length : Int) < 4 := by omega
        refine ⟨L, ?_, hL1, hL4⟩
        simp [sq_l_fact_2, sq_l_fact_3, sq_l_fact_4, sq_l_fact_5, sq_l_fact_6, eqD, dOk, eqv, q, hg, hg']
    · by_cases hg : 1 < L.length
      · have hg' : (1 : Int) < L.length := by omega
        have hc := cut_last L hg
        refine ⟨L.take (L.length - 1), ?_, by simp; omega, by simp; omega⟩
        simp [sq_l_fact_2, sq_l_fact_3, sq_l_fact_4, sq_l_fact_5, sq_l_fact_6, eqD, dOk, eqv, q, hg, hg', op1D, hc]
      · have hg' : ¬ (1 : Int) < L.length := by omega
        refine ⟨L, ?_, hL1, hL4⟩
        simp [sq_l_fact_2, sq_l_fact_3, sq_l_fact_4, sq_l_fact_5, sq_l_fact_6, eqD, dOk, eqv, q, hg, hg']
    · refine ⟨L, ?_, hL1, hL4⟩
      simp [sq_l_fact_2, sq_l_fact_3, sq_l_fact_4, sq_l_fact_5, sq_l_fact_6, eqD, dOk, eqv, q1, q3, q5, q4]
  obtain ⟨L', e', h1', h4'⟩ := key
  rw [e']
  exact fins L' h1' h4'
/-- the same dict is alike -/
theorem sub_fil (l : Fil) : ∀ r : Fil, (∀ p ∈ r, look l p.1 = some p.2) → subK (ksF l) (dsF l) (ksF r) (dsF r) = true
  | [], _ => rfl
  | p :: r, h => by
    show ((match lookD (.inr p.1) (ksF l) (dsF l) with | some e => flatD (.str p.2) && flatD e && eqv (.str p.2) e && decide (clsN (.str p.2) = clsN e) | none => false) && subK (ksF l) (dsF l) (ksF r) (dsF r)) = true
    have e : lookD (.inr p.1) (ksF l) (dsF l) = some (.str p.2) := by
      have := ix_fil p.1 l
      rw [h p (by simp)] at this
      exact this
    rw [e, sub_fil l r fun q hq => h q (by simp [hq])]
    simp [flatD, clsN, eqv_str]
theorem eq_fil {l : Fil} (h : Fn l) : eqD (fil l) (fil l) = some true := by
  show (if (ksF l).length = (ksF l).length ∧ subK (ksF l) (dsF l) (ksF l) (dsF l) = true then some true else none) = _
  rw [if_pos ⟨rfl, sub_fil l l h⟩]
theorem rng_len (lo : Int) (n : Nat) : (rngD lo n).length = n := by unfold rngD; simp
theorem law_words (ns : List Int) (e1 e2 e3 e4 e5 e6 e7 e8 e9 e10 : Option D) : ∃ ws : List Str, lcG (lcF Φ_law (.nm 2) [2] el_law_3 .nop [some (.scr (ns.map D.int)), e1, e2, e3, e4, e5, e6, e7, e8, e9, e10]) (rngD 0 4) = some (ws.map D.str) ∧ (∀ w ∈ ws, Wd abc w) ∧ ws.length = 4 := by
  obtain ⟨ws, h1, h2, h3⟩ := lc_ex (g := D.str) (Q := Wd abc) (f := lcF Φ_law (.nm 2) [2] el_law_3 .nop [some (.scr (ns.map D.int)), e1, e2, e3, e4, e5, e6, e7, e8, e9, e10]) (l := rngD 0 4) fun x hx => by
    obtain ⟨j, rfl, h0, h1⟩ := rng_mem hx
    obtain ⟨w, hw, hW⟩ := run_word (cellF ns 0) j h0 (by omega)
    exact ⟨w, by simp [lcF, el_law_3, wipeD, Φ_law, run_cell ns 0 (by omega), hw], hW⟩
  exact ⟨ws, h1, h2, by rw [h3, rng_len]⟩
theorem law_things (ns : List Int) (e1 e2 e3 e4 e5 e6 e7 e8 e9 e10 : Option D) : ∃ ws : List Str, lcG (lcF Φ_law (.nm 2) [2] el_law_2 .nop [some (.scr (ns.map D.int)), e1, e2, e3, e4, e5, e6, e7, e8, e9, e10]) (rngD 0 4) = some (ws.map D.str) ∧ (∀ w ∈ ws, Wd sgn w) ∧ ws.length = 4 := by
  obtain ⟨ws, h1, h2, h3⟩ := lc_ex (g := D.str) (Q := Wd sgn) (f := lcF Φ_law (.nm 2) [2] el_law_2 .nop [some (.scr (ns.map D.int)), e1, e2, e3, e4, e5, e6, e7, e8, e9, e10]) (l := rngD 0 4) fun x hx => by
    obtain ⟨j, rfl, h0, h1⟩ := rng_mem hx
    obtain ⟨w, hw, hW⟩ := run_thing (cellF ns 1) j h0 (by omega)
    exact ⟨w, by simp [lcF, el_law_2, wipeD, Φ_law, run_cell ns 1 (by omega), hw], hW⟩
  exact ⟨ws, h1, h2, by rw [h3, rng_len]⟩
theorem law_slots (ns : List Int) (e1 e2 e3 e4 e5 e6 e7 e8 e9 e10 : Option D) : ∃ ws : List Str, lcG (lcF Φ_law (.nm 2) [2] el_law_1 .nop [some (.scr (ns.map D.int)), e1, e2, e3, e4, e5, e6, e7, e8, e9, e10]) (rngD 0 3) = some (ws.map D.str) ∧ (∀ w ∈ ws, Sl w) ∧ ws.length = 3 := by
  obtain ⟨ws, h1, h2, h3⟩ := lc_ex (g := D.str) (Q := Sl) (f := lcF Φ_law (.nm 2) [2] el_law_1 .nop [some (.scr (ns.map D.int)), e1, e2, e3, e4, e5, e6, e7, e8, e9, e10]) (l := rngD 0 3) fun x hx => by
    obtain ⟨j, rfl, h0, h1⟩ := rng_mem hx
    obtain ⟨w, hw, hW⟩ := run_word (cellF ns 2) j h0 (by omega)
    have hc : catS ⟨#[63]⟩ w = some (.str (⟨#[63]⟩ ++ w)) := cat_str (by have := hW.len; show 1 + _ ≤ 1000; omega)
    exact ⟨⟨#[63]⟩ ++ w, by simp [lcF, el_law_1, wipeD, Φ_law, run_cell ns 2 (by omega), hw, hc], sl_of⟩
  exact ⟨ws, h1, h2, by rw [h3, rng_len]⟩
theorem cut_take (l : List Str) (n : Nat) (h : n ≤ l.length) : cutD (l.map D.str) none (some (n : Int)) = (l.take n).map D.str := by
  unfold cutD
  rw [HT.sIx_none, HT.sIx_nat]
  simp [List.map_take, Nat.min_eq_left h]
theorem law_true : ∀ ns : List Int, ns.length ≤ 63 → sem_law [.scr (ns.map D.int)] = some (.bl true) := by
  intro ns _
  unfold sem_law
  rw [run_def, show inD0 11 [.scr (ns.map D.int)] = [some (.scr (ns.map D.int)), none, none, none, none, none, none, none, none, none, none] from rfl]
  have h4 : (4 : Int) ≤ (lim : Int) ∧ -(lim : Int) ≤ 4 := by decide
  have h3 : (3 : Int) ≤ (lim : Int) ∧ -(lim : Int) ≤ 3 := by decide
  have h4l : 4 ≤ lim := by decide
  obtain ⟨ws, w1, w2, w3⟩ := law_words ns none none none none none none none none none none
  rw [ir_law, x_seq, x_asg, e_lc, i_R1, e_con]
  simp only [Option.bind_some, if_pos h4, show (4 : Int).toNat = 4 from rfl, w1, Option.map_some, then_nx, List.set_cons_succ, List.set_cons_zero]
  obtain ⟨ts, t1, t2, t3⟩ := law_things ns (some (.lst (ws.map D.str))) none none none none none none none none none
  rw [sq_law_1, x_seq, x_asg, e_lc, i_R1, e_con]
  simp only [Option.bind_some, if_pos h4, show (4 : Int).toNat = 4 from rfl, t1, Option.map_some, then_nx, List.set_cons_succ, List.set_cons_zero]
  obtain ⟨ss, s1, s2, s3⟩ := law_slots ns (some (.lst (ws.map D.str))) none (some (.lst (ts.map D.str))) none none none none none none none
  rw [sq_law_2, x_seq, x_asg, e_lc, i_R1, e_con]
  simp only [Option.bind_some, if_pos h3, show (3 : Int).toNat = 3 from rfl, s1, Option.map_some, then_nx, List.set_cons_succ, List.set_cons_zero]
  rw [sq_law_3, x_seq, x_asg]
  simp only [e_call, a_cons, a_nil, e_var, e_con, List.getElem?_cons_zero, Option.bind_some, id, Option.map_some, Φ_law, run_cell ns 5 (by omega), then_nx, List.set_cons_succ, List.set_cons_zero]
  generalize cellF ns 5 = c5
  obtain ⟨f0, _, g0⟩ := atI_map D.str (l := ts) (i := c5 % 3) (Int.emod_nonneg _ (by decide)) (by rw [t3]; have := Int.emod_lt_of_pos c5 (by decide : (0 : Int) < 3); omega)
  obtain ⟨f1, _, g1⟩ := atI_map D.str (l := ts) (i := c5 / 3 % 3) (Int.emod_nonneg _ (by decide)) (by rw [t3]; have := Int.emod_lt_of_pos (c5 / 3) (by decide : (0 : Int) < 3); omega)
  obtain ⟨f2, _, g2⟩ := atI_map D.str (l := ts) (i := c5 / 9 % 3) (Int.emod_nonneg _ (by decide)) (by rw [t3]; have := Int.emod_lt_of_pos (c5 / 9) (by decide : (0 : Int) < 3); omega)
  obtain ⟨f3, _, g3⟩ := atI_map D.str (l := ts) (i := 3) (by decide) (by rw [t3]; decide)
  have hfl : exS Φ_law 1000 sq_law_3 = exS Φ_law 1000 sq_law_3 := rfl
  rw [sq_law_4, x_seq, x_asg]
  have i3 : (0 : Int) < 3 := by decide
  have i3' : (0 : Int) < 3 ∧ (3 : Int) < 1073741824 := by decide
  have i9' : (0 : Int) < 9 ∧ (9 : Int) < 1073741824 := by decide
  simp only [e_lst, e_op2, a_cons, a_nil, e_var, e_con, List.getElem?_cons_zero, List.getElem?_cons_succ, Option.bind_some, id, Option.map_some, o2_mod, o2_fdiv, if_pos i3, if_pos i3', if_pos i9', o2_ixL, g0, g1, g2, g3, List.length_cons, List.length_nil, Nat.zero_add, Nat.reduceAdd, if_pos h4l, then_nx, List.set_cons_succ, List.set_cons_zero]
  have hfi : ∃ fs : List Str, [D.str f0, .str f1, .str f2, .str f3] = fs.map D.str ∧ fs.length = 4 := ⟨[f0, f1, f2, f3], rfl, rfl⟩
  obtain ⟨fs, hfe, hf4⟩ := hfi
  rw [hfe]
  -- the pattern
  obtain ⟨w, ps, pe, hwm, hpl, hpm⟩ := run_pattern (cellF ns 3) ws (ts.take 1 ++ ss ++ ss.take 1) w3 (by intro z; have := congrArg List.length z; simp [t3, s3] at this) (by simp [t3, s3])
  have hc1 := cut_take ts 1 (by omega)
  have hc2 := cut_take ss 1 (by omega)
  have hz1 : (List.map D.str (ts.take 1)).length + (List.map D.str ss).length ≤ lim := by simp [t3, s3]; decide
  have hz2 : (List.map D.str (ts.take 1) ++ List.map D.str ss).length + (List.map D.str (ss.take 1)).length ≤ lim := by simp [t3, s3]; decide
  rw [List.map_append, List.map_append] at pe
  rw [sq_law_5, x_seq, x_asg]
  simp only [e_call, e_sl, o_nop, o_cons, e_op2, a_cons, a_nil, e_var, e_con, List.getElem?_cons_zero, List.getElem?_cons_succ, Option.bind_some, id, Option.map_some, Φ_law, run_cell ns 3 (by omega), sl_L, show (1 : Int) = ((1 : Nat) : Int) from rfl, hc1, hc2, o2_addL, if_pos hz1, if_pos hz2, pe, then_nx, List.set_cons_succ, List.set_cons_zero]
  -- the fact
  obtain ⟨u, us, fe, hul⟩ := run_fact w ps ss fs ws (cellF ns 4) hpl s3 hf4 w3
  rw [sq_law_6, x_seq, x_asg]
  simp only [e_call, a_cons, a_nil, e_var, e_con, List.getElem?_cons_zero, List.getElem?_cons_succ, Option.bind_some, id, Option.map_some, Φ_law, run_cell ns 4 (by omega), fe, then_nx, List.set_cons_succ, List.set_cons_zero]
  -- the due
  have hne : ∀ t ∈ ps, t.cps.toList ≠ [] := by
    intro t ht
    rcases List.mem_append.mp (hpm t ht) with z | z
    · rcases List.mem_append.mp z with z | z
      · exact (t2 t (List.mem_of_mem_take z)).ne
      · exact (s2 t z).2
    · exact (s2 t (List.mem_of_mem_take z)).2
  have de := run_due w u ps us hne (by omega) (by omega)
  rw [sq_law_7, x_seq, x_asg]
  simp only [e_call, a_cons, a_nil, e_var, e_con, List.getElem?_cons_zero, List.getElem?_cons_succ, Option.bind_some, id, Option.map_some, Φ_law, de, then_nx, List.set_cons_succ, List.set_cons_zero]
  -- what is found
  have hwS : isS w = false := Wd.noS abc_no (w2 w hwm)
  have fd := run_fitted (w :: ps) (u :: us) (by simp; omega)
  have fz : fitF [] ((w :: ps).zip (u :: us)) = fitF [] (ps.zip us) := by rw [List.zip_cons_cons, fitF, hwS]; simp
  rw [fz] at fd
  obtain ⟨k1, k2⟩ := fit_due (w := w) (u := u) (ts := ps) (us := us) hwS
  rw [sq_law_8, x_seq, x_asg]
  simp only [e_call, a_cons, a_nil, e_var, e_con, List.getElem?_cons_zero, List.getElem?_cons_succ, Option.bind_some, id, Option.map_some, Φ_law, fd, then_nx, List.set_cons_succ, List.set_cons_zero]
  rw [sq_law_9, x_seq, x_ite]
  generalize hl : fitF [] (ps.zip us) = l at *
  by_cases hb : (w :: ps).map (subst l) = u :: us
  · obtain ⟨a1, a2, a3⟩ := k1 hb
    have hd : dueD w u ps us = fil l := by unfold dueD; rw [if_pos ⟨a2, a1⟩, a3]
    have hFn : Fn l := (due_fit _ _ _ (by intro p hp; cases hp) a3).2.1
    rw [if_pos hb, hd]
    simp only [t_op2, e_var, e_con, List.getElem?_cons_zero, List.getElem?_cons_succ, Option.bind_some, id]
    have hi : op2D .is_ (fil l) .non = some (.bl false) := rfl
    have hq := eq_fil hFn
    have ho : op1D (.isi "dict") (fil l) = some (.bl true) := rfl
    simp only [hi, tru_bl, Option.bind_some, Bool.false_eq_true, if_false, x_nx, then_nx]
    rw [sq_law_10, x_seq, x_ret]
    simp only [e_and, e_op1, e_op2, e_var, List.getElem?_cons_zero, List.getElem?_cons_succ, Option.bind_some, id, ho, o2_eq, hq, Option.map_some, then_ret, fin_ret]
  · have hd : dueD w u ps us = .non := by
      unfold dueD
      by_cases hh : ps.length = us.length ∧ w = u
      · rw [if_pos hh]
        cases hdu : dueF [] (ps.zip us) with
        | none => rfl
        | some l' => exact absurd (k2 l' hh.2 hh.1 hdu).2 hb
      · rw [if_neg hh]
    rw [if_neg hb, hd]
    have hi : op2D .is_ .non .non = some (.bl true) := rfl
    simp [hi]
end R

set_option Elab.async false
set_option maxRecDepth 100000
set_option maxHeartbeats 4000000
namespace R
open PySem L2 DL
theorem all_mk {l : PySem.W.OpenLaw} {w : World} {K : PySem.W.Frag} {h : Heap} {mg : Str → Option Value} {fa : Addr} (X : K.In h) (G : h.Ns mainGlobals mg) (hfa : mg "law" = some (.ref fa))
    {f1 f2 f3 f4 f5 f6 f7 f8 f9 f10 : Addr} {od1 an1 od2 an2 od3 an3 od4 an4 od5 an5 od6 an6 od7 an7 od8 an8 od9 an9 od10 an10 : Option Addr} {sl1 sl2 sl3 sl4 sl5 sl6 sl7 sl8 sl9 sl10 : Array (Option Value)} {oc1 kV1 dc1 pm1 cd1 ct1 oc2 kV2 dc2 pm2 cd2 ct2 oc3 kV3 dc3 pm3 cd3 ct3 oc4 kV4 dc4 pm4 cd4 ct4 oc5 kV5 dc5 pm5 cd5 ct5 oc6 kV6 dc6 pm6 cd6 ct6 oc7 kV7 dc7 pm7 cd7 ct7 oc8 kV8 dc8 pm8 cd8 ct8 oc9 kV9 dc9 pm9 cd9 ct9 oc10 kV10 dc10 pm10 cd10 ct10 : Value}
    (a1 : PySem.W.nsIn K mainGlobals "is_slot" = some (some (.ref f1))) (l1 : K.lookup f1 = some ⟨oc1, od1, .func (PySem.W.fnOf "is_slot" "is_slot" (defArgs s_is_slot) (defBody s_is_slot) (defScope s_is_slot) .none kV1 dc1 pm1 an1 cd1 ct1), sl1⟩) (c1 : PySem.W.codeIn K cd1 "is_slot" = true) (k1 : PySem.W.keepIn K (.ref f1) = true)
    (a2 : PySem.W.nsIn K mainGlobals "put_in" = some (some (.ref f2))) (l2 : K.lookup f2 = some ⟨oc2, od2, .func (PySem.W.fnOf "put_in" "put_in" (defArgs s_put_in) (defBody s_put_in) (defScope s_put_in) .none kV2 dc2 pm2 an2 cd2 ct2), sl2⟩) (c2 : PySem.W.codeIn K cd2 "put_in" = true) (k2 : PySem.W.keepIn K (.ref f2) = true)
    (a3 : PySem.W.nsIn K mainGlobals "fitted" = some (some (.ref f3))) (l3 : K.lookup f3 = some ⟨oc3, od3, .func (PySem.W.fnOf "fitted" "fitted" (defArgs s_fitted) (defBody s_fitted) (defScope s_fitted) .none kV3 dc3 pm3 an3 cd3 ct3), sl3⟩) (c3 : PySem.W.codeIn K cd3 "fitted" = true) (k3 : PySem.W.keepIn K (.ref f3) = true)
    (a4 : PySem.W.nsIn K mainGlobals "_law_cell_at" = some (some (.ref f4))) (l4 : K.lookup f4 = some ⟨oc4, od4, .func (PySem.W.fnOf "_law_cell_at" "_law_cell_at" (defArgs s_l_cell_at) (defBody s_l_cell_at) (defScope s_l_cell_at) .none kV4 dc4 pm4 an4 cd4 ct4), sl4⟩) (c4 : PySem.W.codeIn K cd4 "_law_cell_at" = true) (k4 : PySem.W.keepIn K (.ref f4) = true)
    (a5 : PySem.W.nsIn K mainGlobals "_law_word_by" = some (some (.ref f5))) (l5 : K.lookup f5 = some ⟨oc5, od5, .func (PySem.W.fnOf "_law_word_by" "_law_word_by" (defArgs s_l_word_by) (defBody s_l_word_by) (defScope s_l_word_by) .none kV5 dc5 pm5 an5 cd5 ct5), sl5⟩) (c5 : PySem.W.codeIn K cd5 "_law_word_by" = true) (k5 : PySem.W.keepIn K (.ref f5) = true)
    (a6 : PySem.W.nsIn K mainGlobals "_law_thing_by" = some (some (.ref f6))) (l6 : K.lookup f6 = some ⟨oc6, od6, .func (PySem.W.fnOf "_law_thing_by" "_law_thing_by" (defArgs s_l_thing_by) (defBody s_l_thing_by) (defScope s_l_thing_by) .none kV6 dc6 pm6 an6 cd6 ct6), sl6⟩) (c6 : PySem.W.codeIn K cd6 "_law_thing_by" = true) (k6 : PySem.W.keepIn K (.ref f6) = true)
    (a7 : PySem.W.nsIn K mainGlobals "_law_pattern" = some (some (.ref f7))) (l7 : K.lookup f7 = some ⟨oc7, od7, .func (PySem.W.fnOf "_law_pattern" "_law_pattern" (defArgs s_l_pattern) (defBody s_l_pattern) (defScope s_l_pattern) .none kV7 dc7 pm7 an7 cd7 ct7), sl7⟩) (c7 : PySem.W.codeIn K cd7 "_law_pattern" = true) (k7 : PySem.W.keepIn K (.ref f7) = true)
    (a8 : PySem.W.nsIn K mainGlobals "_law_fact" = some (some (.ref f8))) (l8 : K.lookup f8 = some ⟨oc8, od8, .func (PySem.W.fnOf "_law_fact" "_law_fact" (defArgs s_l_fact) (defBody s_l_fact) (defScope s_l_fact) .none kV8 dc8 pm8 an8 cd8 ct8), sl8⟩) (c8 : PySem.W.codeIn K cd8 "_law_fact" = true) (k8 : PySem.W.keepIn K (.ref f8) = true)
    (a9 : PySem.W.nsIn K mainGlobals "_law_due" = some (some (.ref f9))) (l9 : K.lookup f9 = some ⟨oc9, od9, .func (PySem.W.fnOf "_law_due" "_law_due" (defArgs s_l_due) (defBody s_l_due) (defScope s_l_due) .none kV9 dc9 pm9 an9 cd9 ct9), sl9⟩) (c9 : PySem.W.codeIn K cd9 "_law_due" = true) (k9 : PySem.W.keepIn K (.ref f9) = true)
    (a10 : PySem.W.nsIn K mainGlobals "law" = some (some (.ref f10))) (l10 : K.lookup f10 = some ⟨oc10, od10, .func (PySem.W.fnOf "law" "law" (defArgs s_law) (defBody s_law) (defScope s_law) .none kV10 dc10 pm10 an10 cd10 ct10), sl10⟩) (c10 : PySem.W.codeIn K cd10 "law" = true) (k10 : PySem.W.keepIn K (.ref f10) = true)
    (z0 : PySem.W.nsIn K mainGlobals "len" = some none) (z1 : PySem.W.nsIn K mainGlobals "list" = some none) (z2 : PySem.W.nsIn K mainGlobals "tuple" = some none) (z3 : PySem.W.nsIn K mainGlobals "int" = some none) (z4 : PySem.W.nsIn K mainGlobals "isinstance" = some none) (z5 : PySem.W.nsIn K mainGlobals "range" = some none) (z6 : PySem.W.nsIn K mainGlobals "dict" = some none) (z7 : PySem.W.nsIn K mainGlobals "str" = some none) (z8 : PySem.W.nsIn K mainGlobals "bool" = some none) (z9 : PySem.W.nsIn K mainGlobals "zip" = some none) :
    ∃ fd : FuncData, (∀ (s : Shared) (v : Value), BindsTo s fd ⟨[v], []⟩ [("_law_script", v)]) ∧ ∀ base : Heap, K.In base → base.Ns mainGlobals mg → FnOk l.prog w K mg base CX0 3 fa fd ["_law_script"] (spD K [.bo] sem_law) := by
  have e := hfa.symm.trans (PySem.W.mg_of X G a10)
  cases e
  have blt : ∀ x ∈ bltNames, mg x = none := by
    intro x hx
    simp only [bltNames, List.mem_cons, List.not_mem_nil, or_false] at hx
    rcases hx with rfl | rfl | rfl | rfl | rfl | rfl | rfl | rfl | rfl | rfl
    · exact PySem.W.mg_none_of X G z0
    · exact PySem.W.mg_none_of X G z1
    · exact PySem.W.mg_none_of X G z2
    · exact PySem.W.mg_none_of X G z3
    · exact PySem.W.mg_none_of X G z4
    · exact PySem.W.mg_none_of X G z5
    · exact PySem.W.mg_none_of X G z6
    · exact PySem.W.mg_none_of X G z7
    · exact PySem.W.mg_none_of X G z8
    · exact PySem.W.mg_none_of X G z9
  have F1 := fun_mk (st := s_is_slot) l1 c1 k1
  have W1 : Fw K mg "is_slot" s_is_slot ["text"] := ⟨f1, _, PySem.W.mg_of X G a1, F1, F1.binds fun _ _ _ _ _ _ us hl => match us, hl with | [_], _ => rfl⟩
  have F2 := fun_mk (st := s_put_in) l2 c2 k2
  have W2 : Fw K mg "put_in" s_put_in ["pattern", "filling"] := ⟨f2, _, PySem.W.mg_of X G a2, F2, F2.binds fun _ _ _ _ _ _ us hl => match us, hl with | [_, _], _ => rfl⟩
  have F3 := fun_mk (st := s_fitted) l3 c3 k3
  have W3 : Fw K mg "fitted" s_fitted ["pattern", "fact"] := ⟨f3, _, PySem.W.mg_of X G a3, F3, F3.binds fun _ _ _ _ _ _ us hl => match us, hl with | [_, _], _ => rfl⟩
  have F4 := fun_mk (st := s_l_cell_at) l4 c4 k4
  have W4 : Fw K mg "_law_cell_at" s_l_cell_at ["_law_script", "_law_k"] := ⟨f4, _, PySem.W.mg_of X G a4, F4, F4.binds fun _ _ _ _ _ _ us hl => match us, hl with | [_, _], _ => rfl⟩
  have F5 := fun_mk (st := s_l_word_by) l5 c5 k5
  have W5 : Fw K mg "_law_word_by" s_l_word_by ["_law_cell", "_law_k"] := ⟨f5, _, PySem.W.mg_of X G a5, F5, F5.binds fun _ _ _ _ _ _ us hl => match us, hl with | [_, _], _ => rfl⟩
  have F6 := fun_mk (st := s_l_thing_by) l6 c6 k6
  have W6 : Fw K mg "_law_thing_by" s_l_thing_by ["_law_cell", "_law_k"] := ⟨f6, _, PySem.W.mg_of X G a6, F6, F6.binds fun _ _ _ _ _ _ us hl => match us, hl with | [_, _], _ => rfl⟩
  have F7 := fun_mk (st := s_l_pattern) l7 c7 k7
  have W7 : Fw K mg "_law_pattern" s_l_pattern ["_law_cell", "_law_words", "_law_parts"] := ⟨f7, _, PySem.W.mg_of X G a7, F7, F7.binds fun _ _ _ _ _ _ us hl => match us, hl with | [_, _, _], _ => rfl⟩
  have F8 := fun_mk (st := s_l_fact) l8 c8 k8
  have W8 : Fw K mg "_law_fact" s_l_fact ["_law_pattern_here", "_law_slots", "_law_things", "_law_pick", "_law_words"] := ⟨f8, _, PySem.W.mg_of X G a8, F8, F8.binds fun _ _ _ _ _ _ us hl => match us, hl with | [_, _, _, _, _], _ => rfl⟩
  have F9 := fun_mk (st := s_l_due) l9 c9 k9
  have W9 : Fw K mg "_law_due" s_l_due ["_law_pattern_here", "_law_fact_here"] := ⟨f9, _, PySem.W.mg_of X G a9, F9, F9.binds fun _ _ _ _ _ _ us hl => match us, hl with | [_, _], _ => rfl⟩
  have F10 := fun_mk (st := s_law) l10 c10 k10
  refine ⟨PySem.W.fnOf "law" "law" (defArgs s_law) (defBody s_law) (defScope s_law) .none kV10 dc10 pm10 an10 cd10 ct10, fun s v => .of_eq rfl, fun base _ _ => ?_⟩
  have Q1 : Fg l.prog w K mg base 1 "is_slot" [.bo] sem_is_slot := fg_ok N_is_slot F_is_slot Φ_is_slot 0 W1 sc_is_slot rd_is_slot md_is_slot blt fns_nil
  have Q2 : Fg l.prog w K mg base 1 "put_in" [.bo, .bo] sem_put_in := fg_ok N_put_in F_put_in Φ_put_in 0 W2 sc_put_in rd_put_in md_put_in blt fns_nil
  have Q3 : Fg l.prog w K mg base 2 "fitted" [.bo, .bo] sem_fitted := fg_ok N_fitted F_fitted Φ_fitted 1 W3 sc_fitted rd_fitted md_fitted blt (fns_cons (Q2.mono (by decide)) (fns_cons (Q1.mono (by decide)) fns_nil))
  have Q4 : Fg l.prog w K mg base 1 "_law_cell_at" [.bo, .bo] sem_l_cell_at := fg_ok N_l_cell_at F_l_cell_at Φ_l_cell_at 0 W4 sc_l_cell_at rd_l_cell_at md_l_cell_at blt fns_nil
  have Q5 : Fg l.prog w K mg base 1 "_law_word_by" [.bo, .bo] sem_l_word_by := fg_ok N_l_word_by F_l_word_by Φ_l_word_by 0 W5 sc_l_word_by rd_l_word_by md_l_word_by blt fns_nil
  have Q6 : Fg l.prog w K mg base 1 "_law_thing_by" [.bo, .bo] sem_l_thing_by := fg_ok N_l_thing_by F_l_thing_by Φ_l_thing_by 0 W6 sc_l_thing_by rd_l_thing_by md_l_thing_by blt fns_nil
  have Q7 : Fg l.prog w K mg base 1 "_law_pattern" [.bo, .bo, .bo] sem_l_pattern := fg_ok N_l_pattern F_l_pattern Φ_l_pattern 0 W7 sc_l_pattern rd_l_pattern md_l_pattern blt fns_nil
  have Q8 : Fg l.prog w K mg base 1 "_law_fact" [.bo, .bo, .bo, .bo, .bo] sem_l_fact := fg_ok N_l_fact F_l_fact Φ_l_fact 0 W8 sc_l_fact rd_l_fact md_l_fact blt fns_nil
  have Q9 : Fg l.prog w K mg base 1 "_law_due" [.bo, .bo] sem_l_due := fg_ok N_l_due F_l_due Φ_l_due 0 W9 sc_l_due rd_l_due md_l_due blt fns_nil
  have H : ∀ i nm ms, F_law[i]? = some (nm, ms) → Fg l.prog w K mg base 2 nm ms (Φ_law i) := (fns_cons (Q4.mono (by decide)) (fns_cons (Q7.mono (by decide)) (fns_cons (Q8.mono (by decide)) (fns_cons (Q9.mono (by decide)) (fns_cons (Q3.mono (by decide)) (fns_cons (Q5.mono (by decide)) (fns_cons (Q6.mono (by decide)) fns_nil)))))))
  exact def_ok N_law F_law Φ_law 2 (m := 1000) F10 sc_law rd_law md_law (by decide) rfl rfl rfl (fun i nm ms h => (H i nm ms h).ex) blt (fun ds d _ h => h)
end R
open PySem PySem.W PyProof.Rows
set_option maxRecDepth 100000 in
set_option maxHeartbeats 0 in
theorem PySem.Challenge.cw_notfound_k02_fitted_holds : PySem.Challenge.rw_notfound_k02_fitted.Holds := by
  w_on; o_law; k_head; (case hw => w_witness2)
  k_fill
  refine DL.law_walk (l := PySem.Challenge.rw_notfound_k02_fitted) (k := 3) (m := .bo) (sem := R.sem_law) (x := "_law_script") rfl rfl ⟨rfl, by decide, by decide⟩ (by decide) R.law_true (fun w h Y => PySem.W.kIn_of Y) ?F
  case F =>
    intro w mg fa h KX G hmg
    refine' R.all_mk KX G hmg ?a1 ?l1 ?c1 ?k1 ?a2 ?l2 ?c2 ?k2 ?a3 ?l3 ?c3 ?k3 ?a4 ?l4 ?c4 ?k4 ?a5 ?l5 ?c5 ?k5 ?a6 ?l6 ?c6 ?k6 ?a7 ?l7 ?c7 ?k7 ?a8 ?l8 ?c8 ?k8 ?a9 ?l9 ?c9 ?k9 ?a10 ?l10 ?c10 ?k10 ?z0 ?z1 ?z2 ?z3 ?z4 ?z5 ?z6 ?z7 ?z8 ?z9
    (case a1 => k_is); (case l1 => k_is); (case c1 => k_is); (case k1 => k_is)
    (case a2 => k_is); (case l2 => k_is); (case c2 => k_is); (case k2 => k_is)
    (case a3 => k_is); (case l3 => k_is); (case c3 => k_is); (case k3 => k_is)
    (case a4 => k_is); (case l4 => k_is); (case c4 => k_is); (case k4 => k_is)
    (case a5 => k_is); (case l5 => k_is); (case c5 => k_is); (case k5 => k_is)
    (case a6 => k_is); (case l6 => k_is); (case c6 => k_is); (case k6 => k_is)
    (case a7 => k_is); (case l7 => k_is); (case c7 => k_is); (case k7 => k_is)
    (case a8 => k_is); (case l8 => k_is); (case c8 => k_is); (case k8 => k_is)
    (case a9 => k_is); (case l9 => k_is); (case c9 => k_is); (case k9 => k_is)
    (case a10 => k_is); (case l10 => k_is); (case c10 => k_is); (case k10 => k_is)
    (case z0 => k_is); (case z1 => k_is); (case z2 => k_is); (case z3 => k_is); (case z4 => k_is); (case z5 => k_is); (case z6 => k_is); (case z7 => k_is); (case z8 => k_is); (case z9 => k_is)
