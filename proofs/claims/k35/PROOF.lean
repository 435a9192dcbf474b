import PyProof.Rows.All
import Wide.All
import OpenK.AllK
import Wide.FinOn
import HandS.ForExc
import HandS.ForMost
import HandS.Star
import HandS.ClsMeth
import HandS.CallLocal
import HandS.IsInst
import HandS.TryOnly
import HandS.ExcIs
import KE.GoesMore
import HandS.TupLe
import HandS.SortInts
import KE.KExcIs
import PyProof.ReprRoads
import HandS.NoneIn
import HandS.Style
import KE.KOpsOwn
import HandS.List
import HandS.RaiseMore
import PyProof.ReprLen
import PyProof.ReprRoom
import PyProof.InstSpecial
import HandS.Small
import PyProof.ExcBaseAll.ValueError
import PySem.Challenge.RW_scaleways_k35_tables_that_come_to_rest
set_option Elab.async false
set_option linter.all false
set_option maxRecDepth 100000
set_option maxHeartbeats 4000000
namespace Dn
open PySem L2
inductive D where
  | non | bl (b : Bool) | int (i : Int) | str (x : Str)
  | lst (xs : List D) | tup (xs : List D)
  | ins (C : Addr) (fs : List (Str × D))
  | scr (ns : List Int) | adr (a : Addr) | ty (n : String)
  | err (a : Addr) (d : Option Addr) (cls : Value) (fs : List (Str × D))
inductive W where
  | dat (d : D) | ptr (j : Nat)
inductive Ob where
  | gone | lst (xs : List W) | ins (C : Addr) (fs : List (Str × W)) | dct (kvs : List (Key × W))
mutual
inductive Rep (K : PySem.W.Frag) (H : Hp) : V → D → Prop
  | non : Rep K H .non .non
  | bl (b : Bool) : Rep K H (.bl b) (.bl b)
  | int (i : Int) : Rep K H (.int i) (.int i)
  | str (x : Str) : Rep K H (.str x) (.str x)
  | lst {a : Addr} {vs : List V} {xs : List D} : H a = some (.lst vs) → Reps K H vs xs → Rep K H (.ref a) (.lst xs)
  | tup {a : Addr} {vs : List V} {xs : List D} : H a = some (.tup vs) → Reps K H vs xs → Rep K H (.ref a) (.tup xs)
  | ins {a C dx : Addr} {vs : List (Str × V)} {fs : List (Str × D)} : H a = some (.ins C dx vs) → RepF K H vs fs → Rep K H (.ref a) (.ins C fs)
  | scr {a : Addr} {ns : List Int} : SqL K H a (ns.map V.int) → Rep K H (.ref a) (.scr ns)
  | adr (a : Addr) : Rep K H (.ref a) (.adr a)
  | ty (n : String) : Rep K H (.ty n) (.ty n)
  | err0 {a : Addr} {cls : Value} : Rep K H (.ref a) (.err a none cls [])
  | err {a dx : Addr} {cls : Value} {vs : List (Str × V)} {fs : List (Str × D)} : H dx = some (.xd vs) → RepF K H vs fs → Rep K H (.ref a) (.err a (some dx) cls fs)
inductive Reps (K : PySem.W.Frag) (H : Hp) : List V → List D → Prop
  | nil : Reps K H [] []
  | cons {v : V} {d : D} {vs : List V} {xs : List D} : Rep K H v d → Reps K H vs xs → Reps K H (v :: vs) (d :: xs)
inductive RepF (K : PySem.W.Frag) (H : Hp) : List (Str × V) → List (Str × D) → Prop
  | nil : RepF K H [] []
  | cons {f : Str} {v : V} {d : D} {vs : List (Str × V)} {fs : List (Str × D)} : Rep K H v d → RepF K H vs fs → RepF K H ((f, v) :: vs) ((f, d) :: fs)
end
section
variable {K : PySem.W.Frag} {H H' : Hp}
theorem Rep.mono {v : V} {d : D} (h : Rep K H v d) (s : Same H H') : Rep K H' v d :=
  Rep.rec (motive_1 := fun v d _ => Rep K H' v d) (motive_2 := fun vs ds _ => Reps K H' vs ds) (motive_3 := fun vs fs _ => RepF K H' vs fs)
    .non .bl .int .str (fun h _ r => .lst (s _ _ h) r) (fun h _ r => .tup (s _ _ h) r) (fun h _ r => .ins (s _ _ h) r) (fun h => .scr (s.seq h)) .adr .ty .err0 (fun h _ r => .err (s _ _ h) r)
    .nil (fun _ _ a b => .cons a b) .nil (fun _ _ a b => .cons a b) h
theorem Reps.mono : ∀ {vs : List V} {ds : List D}, Reps K H vs ds → Same H H' → Reps K H' vs ds
  | _, _, .nil, _ => .nil
  | _, _, .cons a b, s => .cons (a.mono s) (b.mono s)
theorem RepF.mono : ∀ {vs : List (Str × V)} {ds : List (Str × D)}, RepF K H vs ds → Same H H' → RepF K H' vs ds
  | _, _, .nil, _ => .nil
  | _, _, .cons a b, s => .cons (a.mono s) (b.mono s)
theorem Reps.length : ∀ {vs : List V} {ds : List D}, Reps K H vs ds → vs.length = ds.length
  | _, _, .nil => rfl
  | _, _, .cons _ b => by simp [b.length]
theorem Reps.get : ∀ {vs : List V} {ds : List D} {i : Nat} {d : D}, Reps K H vs ds → ds[i]? = some d → ∃ v, vs[i]? = some v ∧ Rep K H v d
  | _, _, _, _, .nil, h => by simp at h
  | _, _, 0, _, .cons a _, h => by simp at h; subst h; exact ⟨_, rfl, a⟩
  | _, _, i + 1, _, .cons _ b, h => by simp at h; exact b.get (i := i) h
theorem Reps.get' : ∀ {vs : List V} {ds : List D} {i : Nat} {v : V}, Reps K H vs ds → vs[i]? = some v → ∃ d, ds[i]? = some d ∧ Rep K H v d
  | _, _, _, _, .nil, h => by simp at h
  | _, _, 0, _, .cons a _, h => by simp at h; subst h; exact ⟨_, rfl, a⟩
  | _, _, i + 1, _, .cons _ b, h => by simp at h; exact b.get' (i := i) h
theorem Reps.append : ∀ {vs ws : List V} {ds es : List D}, Reps K H vs ds → Reps K H ws es → Reps K H (vs ++ ws) (ds ++ es)
  | _, _, _, _, .nil, b => b
  | _, _, _, _, .cons a r, b => .cons a (r.append b)
theorem Reps.take : ∀ {vs : List V} {ds : List D} (n : Nat), Reps K H vs ds → Reps K H (vs.take n) (ds.take n)
  | _, _, 0, _ => by simp; exact .nil
  | _, _, _ + 1, .nil => by simp; exact .nil
  | _, _, n + 1, .cons a b => by simp; exact .cons a (b.take n)
theorem Reps.drop : ∀ {vs : List V} {ds : List D} (n : Nat), Reps K H vs ds → Reps K H (vs.drop n) (ds.drop n)
  | _, _, 0, h => by simpa using h
  | _, _, _ + 1, .nil => by simp; exact .nil
  | _, _, n + 1, .cons a b => by simp; exact b.drop n
theorem RepF.lookup {f : Str} : ∀ {vs : List (Str × V)} {fs : List (Str × D)} {d : D}, RepF K H vs fs → fs.lookup f = some d → ∃ v, vs.lookup f = some v ∧ Rep K H v d
  | _, _, _, .nil, h => by simp [List.lookup] at h
  | _, _, _, .cons (f := g) a b, h => by
    simp only [List.lookup] at h ⊢
    cases e : f == g with
    | true => rw [e] at h; cases h; exact ⟨_, rfl, a⟩
    | false => rw [e] at h; exact b.lookup h
theorem RepF.lookup_none {f : Str} : ∀ {vs : List (Str × V)} {fs : List (Str × D)}, RepF K H vs fs → fs.lookup f = none → vs.lookup f = none
  | _, _, .nil, _ => rfl
  | _, _, .cons (f := g) a b, h => by
    simp only [List.lookup] at h ⊢
    cases e : f == g with
    | true => rw [e] at h; cases h
    | false => rw [e] at h; exact b.lookup_none h
theorem RepF.length : ∀ {vs : List (Str × V)} {fs : List (Str × D)}, RepF K H vs fs → vs.length = fs.length
  | _, _, .nil => rfl
  | _, _, .cons _ b => by simp [b.length]
end
def RepW (K : PySem.W.Frag) (A : List Addr) (H : Hp) (v : V) : W → Prop
  | .dat d => Rep K H v d
  | .ptr j => ∃ a, A[j]? = some a ∧ v = .ref a
def RepWs (K : PySem.W.Frag) (A : List Addr) (H : Hp) : List V → List W → Prop
  | [], [] => True
  | v :: vs, w :: ws => RepW K A H v w ∧ RepWs K A H vs ws
  | _, _ => False
def RepWF (K : PySem.W.Frag) (A : List Addr) (H : Hp) : List (Str × V) → List (Str × W) → Prop
  | [], [] => True
  | v :: vs, w :: ws => v.1 = w.1 ∧ RepW K A H v.2 w.2 ∧ RepWF K A H vs ws
  | _, _ => False
def RepWK (K : PySem.W.Frag) (A : List Addr) (H : Hp) : List (Key × V) → List (Key × W) → Prop
  | [], [] => True
  | v :: vs, w :: ws => v.1 = w.1 ∧ RepW K A H v.2 w.2 ∧ RepWK K A H vs ws
  | _, _ => False
def Ext (A A' : List Addr) : Prop := ∃ B, A' = A ++ B
theorem Ext.refl (A : List Addr) : Ext A A := ⟨[], by simp⟩
theorem Ext.trans {A B C : List Addr} (a : Ext A B) (b : Ext B C) : Ext A C := by
  obtain ⟨x, rfl⟩ := a
  obtain ⟨y, rfl⟩ := b
  exact ⟨x ++ y, by simp⟩
theorem Ext.get {A A' : List Addr} (e : Ext A A') {j : Nat} {a : Addr} (h : A[j]? = some a) : A'[j]? = some a := by
  obtain ⟨B, rfl⟩ := e
  rw [List.getElem?_append_left (List.getElem?_eq_some_iff.mp h).1]
  exact h
theorem Ext.mem {A A' : List Addr} (e : Ext A A') {a : Addr} (h : a ∈ A) : a ∈ A' := by
  obtain ⟨B, rfl⟩ := e
  exact List.mem_append_left _ h
section
variable {K : PySem.W.Frag} {A A' : List Addr} {H H' : Hp}
theorem RepW.mono {v : V} {w : W} (h : RepW K A H v w) (e : Ext A A') (s : Same H H') : RepW K A' H' v w := by
  cases w with
  | dat d => exact Rep.mono h s
  | ptr j =>
    obtain ⟨a, h, r⟩ := h
    exact ⟨a, e.get h, r⟩
theorem RepWs.mono : ∀ {vs : List V} {ws : List W}, RepWs K A H vs ws → Ext A A' → Same H H' → RepWs K A' H' vs ws
  | [], [], _, _, _ => trivial
  | _ :: _, _ :: _, h, e, s => ⟨h.1.mono e s, h.2.mono e s⟩
theorem RepWF.mono : ∀ {vs : List (Str × V)} {ws : List (Str × W)}, RepWF K A H vs ws → Ext A A' → Same H H' → RepWF K A' H' vs ws
  | [], [], _, _, _ => trivial
  | _ :: _, _ :: _, h, e, s => ⟨h.1, h.2.1.mono e s, RepWF.mono h.2.2 e s⟩
theorem RepWK.mono : ∀ {vs : List (Key × V)} {ws : List (Key × W)}, RepWK K A H vs ws → Ext A A' → Same H H' → RepWK K A' H' vs ws
  | [], [], _, _, _ => trivial
  | _ :: _, _ :: _, h, e, s => ⟨h.1, h.2.1.mono e s, RepWK.mono h.2.2 e s⟩
theorem RepWs.length : ∀ {vs : List V} {ws : List W}, RepWs K A H vs ws → vs.length = ws.length
  | [], [], _ => rfl
  | _ :: _, _ :: _, h => by simp [h.2.length]
theorem RepWs.get : ∀ {vs : List V} {ws : List W} {i : Nat} {w : W}, RepWs K A H vs ws → ws[i]? = some w → ∃ v, vs[i]? = some v ∧ RepW K A H v w
  | [], [], _, _, _, h => by simp at h
  | _ :: _, _ :: _, 0, _, r, h => by simp at h; subst h; exact ⟨_, rfl, r.1⟩
  | _ :: _, _ :: _, i + 1, _, r, h => by simp at h; exact r.2.get (i := i) h
theorem RepWs.append : ∀ {vs us : List V} {ws xs : List W}, RepWs K A H vs ws → RepWs K A H us xs → RepWs K A H (vs ++ us) (ws ++ xs)
  | [], _, [], _, _, b => b
  | _ :: _, _, _ :: _, _, a, b => ⟨a.1, a.2.append b⟩
theorem RepWs.set : ∀ {vs : List V} {ws : List W} {v : V} {w : W} (i : Nat), RepWs K A H vs ws → RepW K A H v w → RepWs K A H (vs.set i v) (ws.set i w)
  | [], [], _, _, _, _, _ => trivial
  | _ :: _, _ :: _, _, _, 0, r, h => ⟨h, r.2⟩
  | _ :: _, _ :: _, _, _, i + 1, r, h => ⟨r.1, r.2.set i h⟩
theorem RepWs.dats : ∀ {vs : List V} {ds : List D}, RepWs K A H vs (ds.map W.dat) → Reps K H vs ds
  | [], [], _ => .nil
  | _ :: _, _ :: _, h => .cons h.1 (RepWs.dats h.2)
theorem RepWs.of : ∀ {vs : List V} {ds : List D}, Reps K H vs ds → RepWs K A H vs (ds.map W.dat)
  | _, _, .nil => trivial
  | _, _, .cons a b => ⟨a, RepWs.of b⟩
theorem RepWF.dats : ∀ {vs : List (Str × V)} {ds : List (Str × D)}, RepWF K A H vs (ds.map fun p => (p.1, W.dat p.2)) → RepF K H vs ds
  | [], [], _ => .nil
  | (f, v) :: vs, (g, d) :: ds, h => by
    obtain ⟨h1, h2, h3⟩ := h
    simp only at h1 h2
    subst h1
    exact .cons h2 (RepWF.dats h3)
end
def ObRep (K : PySem.W.Frag) (A : List Addr) (H H0 : Hp) (a : Addr) : Ob → Prop
  | .gone => ∃ o, H0 a = some o
  | .lst xs => H0 a = none ∧ ∃ vs, H a = some (.lst vs) ∧ RepWs K A H0 vs xs
  | .ins C fs => H0 a = none ∧ ∃ dx vs, H a = some (.ins C dx vs) ∧ RepWF K A H0 vs fs
  | .dct kvs => H0 a = none ∧ ∃ vs, H a = some (.dK vs) ∧ RepWK K A H0 vs kvs
theorem ObRep.some {K : PySem.W.Frag} {A : List Addr} {H H0 : Hp} {a : Addr} {o : Ob} (le : Same H0 H) (h : ObRep K A H H0 a o) : ∃ u, H a = some u := by
  cases o with
  | gone => obtain ⟨o, h⟩ := h; exact ⟨_, le _ _ h⟩
  | lst xs => obtain ⟨_, vs, h, _⟩ := h; exact ⟨_, h⟩
  | ins C fs => obtain ⟨_, dx, vs, h, _⟩ := h; exact ⟨_, h⟩
  | dct kvs => obtain ⟨_, vs, h, _⟩ := h; exact ⟨_, h⟩
structure HS (K : PySem.W.Frag) (A : List Addr) (H H0 : Hp) (st : List Ob) : Prop where
  le : Same H0 H
  al : A.length = st.length
  nd : A.Nodup
  ob : ∀ (j : Nat) (a : Addr) (o : Ob), A[j]? = some a → st[j]? = some o → ObRep K A H H0 a o
structure Ent where
  H : Hp
  H0 : Hp
  A : List Addr
structure Fr (G : Ent) (A : List Addr) (H H0 : Hp) : Prop where
  fr : ∀ b o, G.H b = some o → b ∉ G.A → H b = some o
  old : Same G.H0 H0
  new : ∀ b o, H0 b = some o → (∃ u, G.H0 b = some u) ∨ G.H b = none
  pre : Ext G.A A
  loc : ∀ b, b ∈ A → b ∈ G.A ∨ G.H b = none
def Slots (K : PySem.W.Frag) (A : List Addr) (H0 : Hp) (σ : St) (sl : List (Option W)) : Prop :=
  sl.length = σ.length ∧ ∀ (i : Nat) (w : W), sl[i]? = some (some w) → ∃ v, σ[i]? = some (some v) ∧ RepW K A H0 v w
structure RS (K : PySem.W.Frag) (G : Ent) (A : List Addr) (σ : St) (H H0 : Hp) (sl : List (Option W)) (st : List Ob) : Prop where
  sl : Slots K A H0 σ sl
  hs : HS K A H H0 st
  fr : Fr G A H H0
section
variable {K : PySem.W.Frag} {G : Ent} {A A' : List Addr} {σ : St} {H H' H0 H0' : Hp} {sl : List (Option W)} {st st' : List Ob}
theorem HS.here (h : HS K A H H0 st) {a : Addr} (ha : a ∈ A) : ∃ u, H a = some u := by
  obtain ⟨j, hj, e⟩ := List.mem_iff_getElem.mp ha
  have hj' : j < st.length := by rw [← h.al]; exact hj
  exact (h.ob j a st[j] (by rw [List.getElem?_eq_getElem hj, e]) (List.getElem?_eq_getElem hj')).some h.le
theorem HS.notin (h : HS K A H H0 st) {a : Addr} (ha : H a = none) : a ∉ A := fun z => by
  obtain ⟨u, e⟩ := h.here z
  rw [ha] at e
  cases e
theorem HS.free0 (h : HS K A H H0 st) {a : Addr} (ha : H a = none) : H0 a = none := h.le.free ha
theorem Slots.mono (h : Slots K A H0 σ sl) (e : Ext A A') (s : Same H0 H0') : Slots K A' H0' σ sl :=
  ⟨h.1, fun i w q => let ⟨v, a, b⟩ := h.2 i w q; ⟨v, a, b.mono e s⟩⟩
theorem Slots.set (h : Slots K A H0 σ sl) {v : V} {w : W} (r : RepW K A H0 v w) (i : Nat) : Slots K A H0 (σ.set i (some v)) (sl.set i (some w)) := by
  refine ⟨by simp [h.1], fun k u q => ?_⟩
  by_cases hk : i = k
  · subst hk
    by_cases hl : i < sl.length
    · rw [List.getElem?_set_self hl] at q
      cases q
      exact ⟨v, by rw [List.getElem?_set_self (by rw [← h.1]; exact hl)], r⟩
    · rw [List.getElem?_eq_none (by simpa using hl)] at q
      cases q
  · rw [List.getElem?_set_ne hk] at q ⊢
    exact h.2 k u q
theorem Slots.weak (h : Slots K A H0 σ sl) (i : Nat) (ov : Option V) : Slots K A H0 (σ.set i ov) (sl.set i none) := by
  refine ⟨by simp [h.1], fun k u q => ?_⟩
  by_cases hk : i = k
  · subst hk
    by_cases hl : i < sl.length
    · rw [List.getElem?_set_self hl] at q
      cases q
    · rw [List.getElem?_eq_none (by simpa using hl)] at q
      cases q
  · rw [List.getElem?_set_ne hk] at q ⊢
    exact h.2 k u q
theorem free_in (fr : Fr G A H H0) (hs : HS K A H H0 st) {p : Addr} (hp : H p = none) : G.H p = none := by
  cases e : G.H p with
  | none => rfl
  | some o =>
    by_cases hm : p ∈ G.A
    · exact absurd (fr.pre.mem hm) (hs.notin hp)
    · have := fr.fr p o e hm
      rw [hp] at this
      cases this
theorem RS.fresh (R : RS K G A σ H H0 sl st) {p : Addr} {o : HO} (hp : H p = none) : RS K G A σ (upd H p o) H0 sl st := by
  have n0 := R.hs.free0 hp
  refine ⟨R.sl, ⟨fun b u h => ?_, R.hs.al, R.hs.nd, fun j a u ha hu => ?_⟩, ⟨fun b u h hb => ?_, R.fr.old, R.fr.new, R.fr.pre, R.fr.loc⟩⟩
  · rw [upd_ne (ne_of_none h n0)]
    exact R.hs.le _ _ h
  · have hpa : a ≠ p := fun z => by
      subst z
      exact R.hs.notin hp (List.mem_of_getElem? ha)
    have q := R.hs.ob j a u ha hu
    cases u with
    | gone => exact q
    | lst xs => obtain ⟨z, vs, h, r⟩ := q; exact ⟨z, vs, by rw [upd_ne hpa]; exact h, r⟩
    | ins C fs => obtain ⟨z, dx, vs, h, r⟩ := q; exact ⟨z, dx, vs, by rw [upd_ne hpa]; exact h, r⟩
    | dct kvs => obtain ⟨z, vs, h, r⟩ := q; exact ⟨z, vs, by rw [upd_ne hpa]; exact h, r⟩
  · have hbp : b ≠ p := fun z => by
      subst z
      rw [free_in R.fr R.hs hp] at h
      cases h
    rw [upd_ne hbp]
    exact R.fr.fr b u h hb
theorem same_upd {H : Hp} {p : Addr} {o : HO} (h : H p = none) : Same H (upd H p o) := fun b u e => by
  rw [upd_ne (ne_of_none e h)]
  exact e
theorem same_updL {H H0 : Hp} {p : Addr} {o : HO} (le : Same H0 H) (h : H0 p = none) : Same H0 (upd H p o) := fun b u e => by
  rw [upd_ne (ne_of_none e h)]
  exact le b u e
theorem same_upd2 {H H0 : Hp} {p : Addr} {o : HO} (le : Same H0 H) : Same (upd H0 p o) (upd H p o) := fun b u e => by
  by_cases hb : b = p
  · subst hb
    rw [upd_same] at e ⊢
    exact e
  · rw [upd_ne hb] at e ⊢
    exact le b u e
theorem ObRep.mono0 {a : Addr} {o : Ob} (q : ObRep K A H H0 a o) (e : Ext A A') (s : Same H0 H0') (hn : H0 a = none → H0' a = none) : ObRep K A' H H0' a o := by
  cases o with
  | gone => obtain ⟨u, q⟩ := q; exact ⟨u, s _ _ q⟩
  | lst xs => obtain ⟨z, vs, h, r⟩ := q; exact ⟨hn z, vs, h, r.mono e s⟩
  | ins C fs => obtain ⟨z, dx, vs, h, r⟩ := q; exact ⟨hn z, dx, vs, h, r.mono e s⟩
  | dct kvs => obtain ⟨z, vs, h, r⟩ := q; exact ⟨hn z, vs, h, r.mono e s⟩
theorem ObRep.heap {a : Addr} {o : Ob} (q : ObRep K A H H0 a o) (e : H' a = H a) : ObRep K A H' H0 a o := by
  cases o with
  | gone => exact q
  | lst xs => obtain ⟨z, vs, h, r⟩ := q; exact ⟨z, vs, by rw [e]; exact h, r⟩
  | ins C fs => obtain ⟨z, dx, vs, h, r⟩ := q; exact ⟨z, dx, vs, by rw [e]; exact h, r⟩
  | dct kvs => obtain ⟨z, vs, h, r⟩ := q; exact ⟨z, vs, by rw [e]; exact h, r⟩
theorem RS.join (R : RS K G A σ H H0 sl st) {p : Addr} {o : HO} (hp : H p = some o) (h0 : H0 p = none) (hA : p ∉ A) (hG : G.H p = none) : RS K G A σ H (upd H0 p o) sl st := by
  have s0 : Same H0 (upd H0 p o) := same_upd h0
  refine ⟨R.sl.mono (Ext.refl _) s0, ⟨fun b u h => ?_, R.hs.al, R.hs.nd, fun j a u ha hu => ?_⟩, ⟨R.fr.fr, R.fr.old.trans s0, fun b u h => ?_, R.fr.pre, R.fr.loc⟩⟩
  · by_cases hb : b = p
    · subst hb
      rw [upd_same] at h
      cases h
      exact hp
    · rw [upd_ne hb] at h
      exact R.hs.le _ _ h
  · have hpa : a ≠ p := fun z => by
      subst z
      exact hA (List.mem_of_getElem? ha)
    exact (R.hs.ob j a u ha hu).mono0 (Ext.refl _) s0 fun z => by rw [upd_ne hpa]; exact z
  · by_cases hb : b = p
    · subst hb
      exact .inr hG
    · rw [upd_ne hb] at h
      exact R.fr.new _ _ h
theorem RS.alloc (R : RS K G A σ H H0 sl st) {p : Addr} {o : HO} (hp : H p = none) : RS K G A σ (upd H p o) (upd H0 p o) sl st :=
  (R.fresh hp).join upd_same (R.hs.free0 hp) (R.hs.notin hp) (free_in R.fr R.hs hp)
theorem RS.push (R : RS K G A σ H H0 sl st) {p : Addr} {o : HO} {u : Ob} (hp : H p = none) (hu : ObRep K (A ++ [p]) (upd H p o) H0 p u) : RS K G (A ++ [p]) σ (upd H p o) H0 sl (st ++ [u]) := by
  have e : Ext A (A ++ [p]) := ⟨[p], rfl⟩
  have F := R.fresh (o := o) hp
  refine ⟨R.sl.mono e (Same.refl _), ⟨F.hs.le, by simp [R.hs.al], ?_, fun j a x ha hx => ?_⟩, ⟨F.fr.fr, F.fr.old, F.fr.new, R.fr.pre.trans e, fun b hb => ?_⟩⟩
  · rw [List.nodup_append]
    refine ⟨R.hs.nd, by simp, fun a ha b hb => ?_⟩
    simp at hb
    subst hb
    rintro rfl
    exact R.hs.notin hp ha
  · by_cases hj : j < A.length
    · rw [List.getElem?_append_left hj] at ha
      rw [List.getElem?_append_left (by rw [← R.hs.al]; exact hj)] at hx
      exact (F.hs.ob j a x ha hx).mono0 e (Same.refl _) id
    · have : j = A.length := by
        have := (List.getElem?_eq_some_iff.mp ha).1
        simp at this
        omega
      subst this
      rw [List.getElem?_append_right (Nat.le_refl _)] at ha
      rw [List.getElem?_append_right (by rw [R.hs.al]; exact Nat.le_refl _)] at hx
      simp at ha
      simp [R.hs.al] at hx
      subst ha hx
      exact hu
  · rcases List.mem_append.mp hb with hb | hb
    · exact R.fr.loc b hb
    · simp at hb
      subst hb
      exact .inr (free_in R.fr R.hs hp)
theorem RS.write (R : RS K G A σ H H0 sl st) {p : Addr} {o : HO} {u u0 : Ob} {j : Nat} (hj : A[j]? = some p) (h0 : st[j]? = some u0) (hp : H0 p = none) (hu : ObRep K A (upd H p o) H0 p u) : RS K G A σ (upd H p o) H0 sl (st.set j u) := by
  refine ⟨R.sl, ⟨same_updL R.hs.le hp, by simp [R.hs.al], R.hs.nd, fun i a x ha hx => ?_⟩, ⟨fun b v h hb => ?_, R.fr.old, R.fr.new, R.fr.pre, R.fr.loc⟩⟩
  · by_cases hi : j = i
    · subst hi
      rw [List.getElem?_set_self (List.getElem?_eq_some_iff.mp h0).1] at hx
      cases hx
      have : a = p := Option.some.inj (ha.symm.trans hj)
      subst this
      exact hu
    · rw [List.getElem?_set_ne hi] at hx
      have hap : a ≠ p := fun z => by
        subst z
        have h1 := List.getElem?_eq_some_iff.mp ha
        have h2 := List.getElem?_eq_some_iff.mp hj
        exact hi ((List.getElem_inj R.hs.nd).mp (h2.2.trans h1.2.symm))
      exact (R.hs.ob i a x ha hx).heap (upd_ne hap)
  · have hbp : b ≠ p := fun z => by
      subst z
      rcases R.fr.loc b (List.mem_of_getElem? hj) with q | q
      · exact hb q
      · rw [h] at q
        cases q
    rw [upd_ne hbp]
    exact R.fr.fr b v h hb
theorem RS.at (R : RS K G A σ H H0 sl st) {j : Nat} {o : Ob} (h : st[j]? = some o) : ∃ a, A[j]? = some a ∧ ObRep K A H H0 a o := by
  have hj : j < A.length := by rw [R.hs.al]; exact (List.getElem?_eq_some_iff.mp h).1
  exact ⟨A[j], List.getElem?_eq_getElem hj, R.hs.ob j _ o (List.getElem?_eq_getElem hj) h⟩
end
end Dn
namespace Dn
open PySem L2
def wpE (X : Cx) (e : Expr) : TE := fun σ H Q => ∀ (pins : List (Addr × Obj)) (s : Shared), Inv X pins σ H s → wpAny (model X.prog X.w) X.A (eval e X.env) (EP X pins σ Q) X.xe s
theorem pe_wp {X : Cx} {e : Expr} : PE X e (wpE X e) := ⟨fun pins s _ _ _ I h => h pins s I⟩
theorem wpE_of {X : Cx} {e : Expr} {t : TE} {σ : St} {H : Hp} {Q : VK} (h : PE X e t) (q : t σ H Q) : wpE X e σ H Q := fun pins s I => h.run pins s σ H Q I q
def wpT (X : Cx) (e : Expr) : TT := fun σ H Q => ∀ (pins : List (Addr × Obj)) (s : Shared), Inv X pins σ H s → wpAny (model X.prog X.w) X.A (isTrue e X.env (eval e X.env)) (TP X pins σ Q) X.xe s
theorem pt_wp {X : Cx} {e : Expr} : PT X e (wpT X e) := ⟨fun pins s _ _ _ I h => h pins s I⟩
theorem wpT_of {X : Cx} {e : Expr} {t : TT} {σ : St} {H : Hp} {Q : Bool → Hp → Prop} (h : PT X e t) (q : t σ H Q) : wpT X e σ H Q := fun pins s I => h.run pins s σ H Q I q
def wpA (X : Cx) (es : List Expr) : TA := fun σ H Q => ∀ (pos : Pos) (pins : List (Addr × Obj)) (s : Shared), Inv X pins σ H s → wpAny (model X.prog X.w) X.A (spliced (backTo pos (starEach es X.env))) (AP X pins σ Q) X.xe s
theorem pa_wp {X : Cx} {es : List Expr} : PA X es (wpA X es) := ⟨fun pos pins s _ _ _ I h => h pos pins s I⟩
theorem wpA_of {X : Cx} {es : List Expr} {t : TA} {σ : St} {H : Hp} {Q : List V → Hp → Prop} (h : PA X es t) (q : t σ H Q) : wpA X es σ H Q := fun pos pins s I => h.run pos pins s σ H Q I q
def wpO (X : Cx) (f : Value → Value → Sem Value) : R2 := fun x y H Q => ∀ (pins : List (Addr × Obj)) (s : Shared) (σ : St) (v u : Value), Inv X pins σ H s → RelV x v → RelV y u → wpAny (model X.prog X.w) X.A (f v u) (EP X pins σ Q) X.xe s
theorem op_wp {X : Cx} {f : Value → Value → Sem Value} : OpR X f (wpO X f) := fun pins s σ _ _ _ v u _ I r1 r2 h => h pins s σ v u I r1 r2
theorem wpO_of {X : Cx} {f : Value → Value → Sem Value} {r : R2} {x y : V} {H : Hp} {Q : VK} (h : OpR X f r) (q : r x y H Q) : wpO X f x y H Q := fun pins s σ v u I r1 r2 => h pins s σ H x y v u Q I r1 r2 q
def wpC (X : Cx) (f : Value) : List V → Hp → VK → Prop := fun xs H Q => ∀ (pins : List (Addr × Obj)) (s : Shared) (σ : St) (us : List Value), Inv X pins σ H s → Vals xs us → wpAny (model X.prog X.w) X.A (call f us) (EP X pins σ Q) X.xe s
theorem call_wp {X : Cx} {f : Value} : CallR X f (wpC X f) := fun pins s σ _ _ us _ I r h => h pins s σ us I r
theorem wpC_of {X : Cx} {f : Value} {r : List V → Hp → VK → Prop} {xs : List V} {H : Hp} {Q : VK} (h : CallR X f r) (q : r xs H Q) : wpC X f xs H Q := fun pins s σ us I r1 => h pins s σ H xs us Q I r1 q
abbrev WK := W → List Ob → Prop
abbrev BK := Bool → List Ob → Prop
abbrev LK := List W → List Ob → Prop
abbrev Sls := List (Option W)
def Ct (K : PySem.W.Frag) (G : Ent) (A : List Addr) (σ : St) (H0 : Hp) (sl : Sls) (Φ : WK) (Q : VK) : Prop :=
  ∀ w st' v A' H' H0', Φ w st' → RS K G A' σ H' H0' sl st' → Ext A A' → Same H0 H0' → RepW K A' H0' v w → Q v H'
def CtT (K : PySem.W.Frag) (G : Ent) (A : List Addr) (σ : St) (H0 : Hp) (sl : Sls) (Φ : BK) (Q : Bool → Hp → Prop) : Prop :=
  ∀ b st' A' H' H0', Φ b st' → RS K G A' σ H' H0' sl st' → Ext A A' → Same H0 H0' → Q b H'
def CtA (K : PySem.W.Frag) (G : Ent) (A : List Addr) (σ : St) (H0 : Hp) (sl : Sls) (Φ : LK) (Q : List V → Hp → Prop) : Prop :=
  ∀ ws st' vs A' H' H0', Φ ws st' → RS K G A' σ H' H0' sl st' → Ext A A' → Same H0 H0' → RepWs K A' H0' vs ws → Q vs H'
section
variable {K : PySem.W.Frag} {G : Ent} {A A' : List Addr} {σ : St} {H0 H0' : Hp} {sl : Sls}
theorem Ct.mv {Φ : WK} {Q : VK} (c : Ct K G A σ H0 sl Φ Q) (e : Ext A A') (s : Same H0 H0') : Ct K G A' σ H0' sl Φ Q := fun w st' v A2 H2 H02 h R e2 s2 r => c w st' v A2 H2 H02 h R (e.trans e2) (s.trans s2) r
theorem CtT.mv {Φ : BK} {Q : Bool → Hp → Prop} (c : CtT K G A σ H0 sl Φ Q) (e : Ext A A') (s : Same H0 H0') : CtT K G A' σ H0' sl Φ Q := fun w st' A2 H2 H02 h R e2 s2 => c w st' A2 H2 H02 h R (e.trans e2) (s.trans s2)
theorem CtA.mv {Φ : LK} {Q : List V → Hp → Prop} (c : CtA K G A σ H0 sl Φ Q) (e : Ext A A') (s : Same H0 H0') : CtA K G A' σ H0' sl Φ Q := fun w st' v A2 H2 H02 h R e2 s2 r => c w st' v A2 H2 H02 h R (e.trans e2) (s.trans s2) r
end
def EW (X : Cx) (G : Ent) (e : Expr) (sl : Sls) (st : List Ob) (Φ : WK) : Prop :=
  ∀ A σ H H0, RS X.K G A σ H H0 sl st → ∀ Q : VK, Ct X.K G A σ H0 sl Φ Q → wpE X e σ H Q
def TW (X : Cx) (G : Ent) (e : Expr) (sl : Sls) (st : List Ob) (Φ : BK) : Prop :=
  ∀ A σ H H0, RS X.K G A σ H H0 sl st → ∀ Q : Bool → Hp → Prop, CtT X.K G A σ H0 sl Φ Q → wpT X e σ H Q
def PWw (X : Cx) (e : Expr) : TT := fun σ H Q => ∀ (wh : Sem Value) (pins : List (Addr × Obj)) (s : Shared), Inv X pins σ H s → wpAny (model X.prog X.w) X.A (isTrue e X.env wh) (TP X pins σ Q) X.xe s
theorem pw_wp {X : Cx} {e : Expr} : PW X e (PWw X e) := ⟨fun wh pins s _ _ _ I h => h wh pins s I⟩
def BW (X : Cx) (G : Ent) (e : Expr) (sl : Sls) (st : List Ob) (Φ : BK) : Prop :=
  ∀ A σ H H0, RS X.K G A σ H H0 sl st → ∀ Q : Bool → Hp → Prop, CtT X.K G A σ H0 sl Φ Q → PWw X e σ H Q
def AW (X : Cx) (G : Ent) (es : List Expr) (sl : Sls) (st : List Ob) (Φ : LK) : Prop :=
  ∀ A σ H H0, RS X.K G A σ H H0 sl st → ∀ Q : List V → Hp → Prop, CtA X.K G A σ H0 sl Φ Q → wpA X es σ H Q
def OW (X : Cx) (G : Ent) (f : Value → Value → Sem Value) (sl : Sls) (st : List Ob) (w1 w2 : W) (Φ : WK) : Prop :=
  ∀ A σ H H0, RS X.K G A σ H H0 sl st → ∀ v1 v2, RepW X.K A H0 v1 w1 → RepW X.K A H0 v2 w2 → ∀ Q : VK, Ct X.K G A σ H0 sl Φ Q → wpO X f v1 v2 H Q
def CW (X : Cx) (G : Ent) (f : Value) (sl : Sls) (st : List Ob) (ws : List W) (Φ : WK) : Prop :=
  ∀ A σ H H0, RS X.K G A σ H H0 sl st → ∀ vs, RepWs X.K A H0 vs ws → ∀ Q : VK, Ct X.K G A σ H0 sl Φ Q → wpC X f vs H Q
section
variable {X : Cx} {G : Ent} {e a b c : Expr} {es : List Expr} {sl : Sls} {st : List Ob} {Φ : WK} {Ψ : BK} {Λ : LK} {pos p : Pos}
theorem EW.imp {Φ' : WK} (h : EW X G e sl st Φ') (i : ∀ w st', Φ' w st' → Φ w st') : EW X G e sl st Φ := fun A σ H H0 R Q k => h A σ H H0 R Q fun w st' v A' H' H0' q => k w st' v A' H' H0' (i _ _ q)
theorem TW.imp {Φ' : BK} (h : TW X G e sl st Φ') (i : ∀ w st', Φ' w st' → Ψ w st') : TW X G e sl st Ψ := fun A σ H H0 R Q k => h A σ H H0 R Q fun w st' A' H' H0' q => k w st' A' H' H0' (i _ _ q)
theorem ew_name (i : Nat) {x : Str} {w : W} (hi : sl[i]? = some (some w)) (h : Φ w st) (hN : X.N[i]? = some x := by rfl) (hv : Vis X.env.scope x := by first | exact Or.inl rfl | exact Or.inr (Or.inl rfl) | exact Or.inr (Or.inr rfl))
    (hd : (x == ("__debug__" : Str)) = false := by decide) (hcd : (x == ("__classdict__" : Str)) = false := by decide) : EW X G (.Name x pos) sl st Φ := fun A σ H H0 R Q k => by
  obtain ⟨v, hv', r⟩ := R.sl.2 i w hi
  exact wpE_of (pe_var hN hv hd hcd) ⟨v, hv', k w st v A H H0 h R (Ext.refl _) (Same.refl _) r⟩
theorem ew_dat {v : V} {d : D} (hp : PE X e (tC v)) (r : ∀ K H, Rep K H v d) (h : Φ (.dat d) st) : EW X G e sl st Φ := fun A σ H H0 R Q k =>
  wpE_of hp (show Q v H from k (.dat d) st v A H H0 h R (Ext.refl _) (Same.refl _) (r _ _))
theorem ew_int {i : Int} {j} (h : Φ (.dat (.int i)) st) : EW X G (.Constant (.int i) j pos) sl st Φ := ew_dat pe_int (fun _ _ => .int i) h
theorem ew_bl {i : Bool} {j} (h : Φ (.dat (.bl i)) st) : EW X G (.Constant (.bool i) j pos) sl st Φ := ew_dat pe_bl (fun _ _ => .bl i) h
theorem ew_non {j} (h : Φ (.dat .non) st) : EW X G (.Constant .none j pos) sl st Φ := ew_dat pe_non (fun _ _ => .non) h
theorem ew_str {x : Str} {j} (h : Φ (.dat (.str x)) st) : EW X G (.Constant (.str x) j pos) sl st Φ := ew_dat pe_str (fun _ _ => .str x) h
theorem ew_gint {x : Str} {i : Int} (hg : Gl X x) (hm : ∃ t, X.mg x = some (.int i t)) (h : Φ (.dat (.int i)) st) (hd : (x == ("__debug__" : Str)) = false := by decide) : EW X G (.Name x pos) sl st Φ := by
  obtain ⟨t, hm⟩ := hm
  exact ew_dat (pe_glob hg hm (v := .int i) ⟨t, rfl⟩ hd) (fun _ _ => .int i) h
theorem ew_gadr {x : Str} {C : Addr} (hg : Gl X x) (hm : X.mg x = some (.ref C)) (h : Φ (.dat (.adr C)) st) (hd : (x == ("__debug__" : Str)) = false := by decide) : EW X G (.Name x pos) sl st Φ :=
  ew_dat (pe_glob hg hm (v := .ref C) rfl hd) (fun _ _ => .adr C) h
theorem ew_gty {x : Str} {n : String} (hv : bootBuiltins x = some (.type n)) (hm : X.mg x = none) (h : Φ (.dat (.ty n)) st) (hg : Gl X x := by rfl) (hn : x ≠ "__name__" := by decide) (hd : (x == ("__debug__" : Str)) = false := by decide) : EW X G (.Name x pos) sl st Φ :=
  ew_dat (pe_bltn hg hm hv (v := .ty n) rfl hn hd) (fun _ _ => .ty n) h
theorem ew_bin {op : Operator} (h : EW X G a sl st fun w1 st1 => EW X G b sl st1 fun w2 st2 => OW X G (binaryOp op) sl st2 w1 w2 Φ) : EW X G (.BinOp a op b pos) sl st Φ := fun A σ H H0 R Q k =>
  wpE_of (pe_op op_wp pe_wp pe_wp) (h A σ H H0 R _ fun w1 st1 v1 A1 H1 H01 e1 R1 x1 s1 r1 => e1 A1 σ H1 H01 R1 _ fun w2 st2 v2 A2 H2 H02 e2 R2 x2 s2 r2 => e2 A2 σ H2 H02 R2 v1 v2 (r1.mono x2 s2) r2 Q (k.mv (x1.trans x2) (s1.trans s2)))
theorem ew_cmp {op : CmpOp} (hm : behindInMarks op b = false) (h : EW X G a sl st fun w1 st1 => EW X G b sl st1 fun w2 st2 => OW X G (compareOp op) sl st2 w1 w2 Φ) : EW X G (.Compare a [op] [b] pos) sl st Φ := fun A σ H H0 R Q k =>
  wpE_of (pe_cmpR op_wp pe_wp pe_wp hm) (h A σ H H0 R _ fun w1 st1 v1 A1 H1 H01 e1 R1 x1 s1 r1 => e1 A1 σ H1 H01 R1 _ fun w2 st2 v2 A2 H2 H02 e2 R2 x2 s2 r2 => e2 A2 σ H2 H02 R2 v1 v2 (r1.mono x2 s2) r2 Q (k.mv (x1.trans x2) (s1.trans s2)))
def Bo (Ψ : BK) : WK := fun w st => ∃ b, w = .dat (.bl b) ∧ Ψ b st
theorem tw_cmp {op : CmpOp} (hm : behindInMarks op b = false) (h : EW X G a sl st fun w1 st1 => EW X G b sl st1 fun w2 st2 => OW X G (compareOp op) sl st2 w1 w2 (Bo Ψ)) : TW X G (.Compare a [op] [b] pos) sl st Ψ := fun A σ H H0 R Q k =>
  wpT_of (pt_cmpR op_wp pe_wp pe_wp hm) (h A σ H H0 R _ fun w1 st1 v1 A1 H1 H01 e1 R1 x1 s1 r1 => e1 A1 σ H1 H01 R1 _ fun w2 st2 v2 A2 H2 H02 e2 R2 x2 s2 r2 => e2 A2 σ H2 H02 R2 v1 v2 (r1.mono x2 s2) r2 _
    fun w st3 v A3 H3 H03 ⟨b, hb, q⟩ R3 x3 s3 r3 => by
      subst hb
      cases r3
      exact ⟨b, rfl, k b st3 A3 H3 H03 q R3 ((x1.trans x2).trans x3) ((s1.trans s2).trans s3)⟩)
theorem ew_chain {op op' : CmpOp} (hm : lastMarks [op, op'] [b, c] = false) (h : EW X G a sl st fun w1 st1 => EW X G b sl st1 fun w2 st2 => OW X G (compareOp op) sl st2 w1 w2 fun w st3 => ∃ k, w = .dat (.bl k) ∧
      if k = true then EW X G c sl st3 fun w3 st4 => OW X G (compareOp op') sl st4 w2 w3 Φ else Φ (.dat (.bl false)) st3) : EW X G (.Compare a [op, op'] [b, c] pos) sl st Φ := fun A σ H H0 R Q k => by
  refine wpE_of (pe_chain op_wp op_wp pe_wp pe_wp pe_wp hm) (h A σ H H0 R _ fun w1 st1 v1 A1 H1 H01 e1 R1 x1 s1 r1 => e1 A1 σ H1 H01 R1 _ fun w2 st2 v2 A2 H2 H02 e2 R2 x2 s2 r2 => e2 A2 σ H2 H02 R2 v1 v2 (r1.mono x2 s2) r2 _
    fun w st3 v A3 H3 H03 ⟨kk, hk, q⟩ R3 x3 s3 r3 => ?_)
  subst hk
  cases r3
  refine ⟨kk, rfl, ?_⟩
  have kk3 := k.mv ((x1.trans x2).trans x3) ((s1.trans s2).trans s3)
  cases kk with
  | true =>
    rw [if_pos rfl] at q ⊢
    exact q A3 σ H3 H03 R3 _ fun w3 st4 v3 A4 H4 H04 e4 R4 x4 s4 r4 => e4 A4 σ H4 H04 R4 v2 v3 (r2.mono (x3.trans x4) (s3.trans s4)) r4 Q (kk3.mv x4 s4)
  | false =>
    rw [if_neg Bool.false_ne_true] at q ⊢
    exact kk3 _ st3 _ A3 H3 H03 q R3 (Ext.refl _) (Same.refl _) (.bl false)
theorem tw_chain {op op' : CmpOp} (hm : lastMarks [op, op'] [b, c] = false) (h : EW X G a sl st fun w1 st1 => EW X G b sl st1 fun w2 st2 => OW X G (compareOp op) sl st2 w1 w2 fun w st3 => ∃ k, w = .dat (.bl k) ∧
      if k = true then EW X G c sl st3 fun w3 st4 => OW X G (compareOp op') sl st4 w2 w3 (Bo Ψ) else Ψ false st3) : TW X G (.Compare a [op, op'] [b, c] pos) sl st Ψ := fun A σ H H0 R Q k => by
  refine wpT_of (pt_chain op_wp op_wp pe_wp pe_wp pe_wp hm) (h A σ H H0 R _ fun w1 st1 v1 A1 H1 H01 e1 R1 x1 s1 r1 => e1 A1 σ H1 H01 R1 _ fun w2 st2 v2 A2 H2 H02 e2 R2 x2 s2 r2 => e2 A2 σ H2 H02 R2 v1 v2 (r1.mono x2 s2) r2 _
    fun w st3 v A3 H3 H03 ⟨kk, hk, q⟩ R3 x3 s3 r3 => ?_)
  subst hk
  cases r3
  refine ⟨kk, rfl, ?_⟩
  have kk3 := k.mv ((x1.trans x2).trans x3) ((s1.trans s2).trans s3)
  cases kk with
  | true =>
    rw [if_pos rfl] at q ⊢
    exact q A3 σ H3 H03 R3 _ fun w3 st4 v3 A4 H4 H04 e4 R4 x4 s4 r4 => e4 A4 σ H4 H04 R4 v2 v3 (r2.mono (x3.trans x4) (s3.trans s4)) r4 _ fun w5 st5 v5 A5 H5 H05 ⟨b5, hb5, q5⟩ R5 x5 s5 r5 => by
      subst hb5
      cases r5
      exact ⟨b5, rfl, kk3 b5 st5 A5 H5 H05 q5 R5 (x4.trans x5) (s4.trans s5)⟩
  | false =>
    rw [if_neg Bool.false_ne_true] at q ⊢
    exact ⟨false, rfl, kk3 false st3 A3 H3 H03 q R3 (Ext.refl _) (Same.refl _)⟩
section
variable {f : Value → Value → Sem Value} {w1 w2 : W}
theorem ow_of {r : R2} (ho : OpR X f r) (h : ∀ A σ H H0, RS X.K G A σ H H0 sl st → ∀ v1 v2, RepW X.K A H0 v1 w1 → RepW X.K A H0 v2 w2 → ∀ Q : VK, Ct X.K G A σ H0 sl Φ Q → r v1 v2 H Q) : OW X G f sl st w1 w2 Φ := fun A σ H H0 R v1 v2 r1 r2 Q k => wpO_of ho (h A σ H H0 R v1 v2 r1 r2 Q k)
theorem ow_I0 {g : Int → Int → V} {g' : Int → Int → D} {i j : Int} (ho : OpR X f (rI0 g)) (hg : ∀ K H i j, Rep K H (g i j) (g' i j)) (h : Φ (.dat (g' i j)) st) : OW X G f sl st (.dat (.int i)) (.dat (.int j)) Φ := ow_of ho fun A σ H H0 R v1 v2 r1 r2 Q k => by
  cases r1
  cases r2
  exact ⟨i, j, rfl, rfl, k _ st _ A H H0 h R (Ext.refl _) (Same.refl _) (hg _ _ i j)⟩
theorem ow_I {C : Int → Int → Prop} {g : Int → Int → V} {g' : Int → Int → D} {i j : Int} (ho : OpR X f (rI C g)) (hg : ∀ K H i j, Rep K H (g i j) (g' i j)) (hc : C i j) (h : Φ (.dat (g' i j)) st) : OW X G f sl st (.dat (.int i)) (.dat (.int j)) Φ := ow_of ho fun A σ H H0 R v1 v2 r1 r2 Q k => by
  cases r1
  cases r2
  exact ⟨i, j, rfl, rfl, hc, k _ st _ A H H0 h R (Ext.refl _) (Same.refl _) (hg _ _ i j)⟩
theorem o_add {i j : Int} (h : Φ (.dat (.int (i + j))) st) : OW X G (binaryOp .Add) sl st (.dat (.int i)) (.dat (.int j)) Φ := ow_I0 (g' := fun i j => .int (i + j)) op_add (fun _ _ _ _ => .int _) h
theorem o_sub {i j : Int} (h : Φ (.dat (.int (i - j))) st) : OW X G (binaryOp .Sub) sl st (.dat (.int i)) (.dat (.int j)) Φ := ow_I0 (g' := fun i j => .int (i - j)) op_sub (fun _ _ _ _ => .int _) h
theorem o_mul {i j : Int} (hc : CMul i j) (h : Φ (.dat (.int (i * j))) st) : OW X G (binaryOp .Mult) sl st (.dat (.int i)) (.dat (.int j)) Φ := ow_I (g' := fun i j => .int (i * j)) op_mul (fun _ _ _ _ => .int _) hc h
theorem o_div {i j : Int} (hc : CDivN i j) (h : Φ (.dat (.int (i.fdiv j))) st) : OW X G (binaryOp .FloorDiv) sl st (.dat (.int i)) (.dat (.int j)) Φ := ow_I (g' := fun i j => .int (i.fdiv j)) op_fdivN (fun _ _ _ _ => .int _) hc h
theorem o_mod {i j : Int} (hc : j ≠ 0) (h : Φ (.dat (.int (i.fmod j))) st) : OW X G (binaryOp .Mod) sl st (.dat (.int i)) (.dat (.int j)) Φ := ow_I (g' := fun i j => .int (i.fmod j)) op_modN (fun _ _ _ _ => .int _) hc h
theorem o_pow {i j : Int} (hc : CPow i j) (h : Φ (.dat (.int (i ^ j.toNat))) st) : OW X G (binaryOp .Pow) sl st (.dat (.int i)) (.dat (.int j)) Φ := ow_I (g' := fun i j => .int (i ^ j.toNat)) op_pow (fun _ _ _ _ => .int _) hc h
theorem o_lt {i j : Int} (h : Φ (.dat (.bl (decide (i < j)))) st) : OW X G (compareOp .Lt) sl st (.dat (.int i)) (.dat (.int j)) Φ := ow_I0 (g' := fun i j => .bl (decide (i < j))) op_lt (fun _ _ _ _ => .bl _) h
theorem o_le {i j : Int} (h : Φ (.dat (.bl (decide (i ≤ j)))) st) : OW X G (compareOp .LtE) sl st (.dat (.int i)) (.dat (.int j)) Φ := ow_I0 (g' := fun i j => .bl (decide (i ≤ j))) op_le (fun _ _ _ _ => .bl _) h
theorem o_gt {i j : Int} (h : Φ (.dat (.bl (decide (j < i)))) st) : OW X G (compareOp .Gt) sl st (.dat (.int i)) (.dat (.int j)) Φ := ow_I0 (g' := fun i j => .bl (decide (j < i))) op_gt (fun _ _ _ _ => .bl _) h
theorem o_ge {i j : Int} (h : Φ (.dat (.bl (decide (j ≤ i)))) st) : OW X G (compareOp .GtE) sl st (.dat (.int i)) (.dat (.int j)) Φ := ow_I0 (g' := fun i j => .bl (decide (j ≤ i))) op_ge (fun _ _ _ _ => .bl _) h
def scV : D → Option V
  | .non => some .non | .bl b => some (.bl b) | .int i => some (.int i) | .str x => some (.str x)
  | _ => none
theorem scV_rep {K : PySem.W.Frag} {H : Hp} {v u : V} {d : D} (h : Rep K H v d) (e : scV d = some u) : v = u := by
  cases h <;> simp [scV] at e <;> exact e
theorem o_eq {d1 d2 : D} {x y : V} (h1 : scV d1 = some x) (h2 : scV d2 = some y) (hs : scal x y = true) (h : Φ (.dat (.bl (decide (x = y)))) st) : OW X G (compareOp .Eq) sl st (.dat d1) (.dat d2) Φ := ow_of op_eq fun A σ H H0 R v1 v2 r1 r2 Q k => by
  obtain rfl := scV_rep r1 h1
  obtain rfl := scV_rep r2 h2
  exact ⟨hs, k _ st _ A H H0 h R (Ext.refl _) (Same.refl _) (.bl _)⟩
theorem o_ne {d1 d2 : D} {x y : V} (h1 : scV d1 = some x) (h2 : scV d2 = some y) (hs : scal x y = true) (h : Φ (.dat (.bl (!decide (x = y)))) st) : OW X G (compareOp .NotEq) sl st (.dat d1) (.dat d2) Φ := ow_of op_ne fun A σ H H0 R v1 v2 r1 r2 Q k => by
  obtain rfl := scV_rep r1 h1
  obtain rfl := scV_rep r2 h2
  exact ⟨hs, k _ st _ A H H0 h R (Ext.refl _) (Same.refl _) (.bl _)⟩
def isNon : W → Bool
  | .dat .non => true
  | _ => false
theorem repW_non {K : PySem.W.Frag} {A : List Addr} {H : Hp} {v : V} {w : W} (h : RepW K A H v w) : decide (v = .non) = isNon w := by
  cases w with
  | dat d => cases h <;> simp [isNon]
  | ptr j => obtain ⟨a, _, rfl⟩ := h; simp [isNon]
theorem o_isN {w : W} (h : Φ (.dat (.bl (isNon w))) st) : OW X G (compareOp .Is) sl st w (.dat .non) Φ := ow_of op_isN fun A σ H H0 R v1 v2 r1 r2 Q k => by
  cases r2
  refine ⟨rfl, ?_⟩
  rw [repW_non r1]
  exact k _ st _ A H H0 h R (Ext.refl _) (Same.refl _) (.bl _)
theorem o_notN {w : W} (h : Φ (.dat (.bl (!isNon w))) st) : OW X G (compareOp .IsNot) sl st w (.dat .non) Φ := ow_of op_notN fun A σ H H0 R v1 v2 r1 r2 Q k => by
  cases r2
  refine ⟨rfl, ?_⟩
  rw [repW_non r1]
  exact k _ st _ A H H0 h R (Ext.refl _) (Same.refl _) (.bl _)
theorem o_cat {xs ys : List D} (hz : xs.length + ys.length ≤ sizeLine) (h : Φ (.dat (.lst (xs ++ ys))) st) : OW X G (binaryOp .Add) sl st (.dat (.lst xs)) (.dat (.lst ys)) Φ := ow_of op_cat fun A σ H H0 R v1 v2 r1 r2 Q k => by
  cases r1 with
  | @lst _ us _ e1 q1 =>
    cases r2 with
    | @lst _ us2 _ e2 q2 =>
      refine ⟨_, _, _, _, rfl, rfl, R.hs.le _ _ e1, R.hs.le _ _ e2, by rw [q1.length, q2.length]; exact hz, fun p hp => ?_⟩
      have s0 := same_upd (o := .lst (us ++ us2)) (R.hs.free0 hp)
      exact k _ st _ A _ _ h (R.alloc hp) (Ext.refl _) s0 (.lst upd_same ((q1.append q2).mono s0))
theorem Reps.rep {K : PySem.W.Frag} {H : Hp} {vs : List V} {xs : List D} (h : Reps K H vs xs) : ∀ n : Nat, Reps K H (List.replicate n vs).flatten (List.replicate n xs).flatten
  | 0 => .nil
  | n + 1 => by
    rw [List.replicate_succ, List.replicate_succ, List.flatten_cons, List.flatten_cons]
    exact h.append (Reps.rep h n)
end
def Tru (st : List Ob) : W → Option Bool
  | .dat .non => some false
  | .dat (.bl b) => some b
  | .dat (.int i) => some (i != 0)
  | .dat (.str y) => if y.length ≤ sizeLine then some ((y.length : Int) != 0) else none
  | .dat (.lst xs) => some (!xs.isEmpty)
  | .dat (.tup xs) => some (!xs.isEmpty)
  | .ptr j => match st[j]? with
    | some (.lst xs) => some (!xs.isEmpty)
    | _ => none
  | _ => none
theorem Reps.isEmpty {K : PySem.W.Frag} {H : Hp} {vs : List V} {xs : List D} (h : Reps K H vs xs) : vs.isEmpty = xs.isEmpty := by cases h <;> rfl
theorem RepWs.isEmpty {K : PySem.W.Frag} {A : List Addr} {H : Hp} {vs : List V} {xs : List W} (h : RepWs K A H vs xs) : vs.isEmpty = xs.isEmpty := by
  cases vs <;> cases xs <;> first | rfl | exact h.elim
theorem truV_of {K : PySem.W.Frag} {G : Ent} {A : List Addr} {σ : St} {H H0 : Hp} {sl : Sls} {st : List Ob} {v : V} {w : W} {k : Bool} (R : RS K G A σ H H0 sl st) (r : RepW K A H0 v w) (h : Tru st w = some k) : TruV K v H k := by
  cases w with
  | dat d =>
    cases r with
    | non => exact (Option.some.inj h).symm
    | bl b => exact (Option.some.inj h).symm
    | int i => exact (Option.some.inj h).symm
    | str x =>
      simp only [Tru] at h
      split at h
      · rename_i hz
        exact ⟨hz, (Option.some.inj h).symm⟩
      · cases h
    | lst e q => exact .inl ⟨_, .inl (.inl (R.hs.le _ _ e)), by rw [q.isEmpty]; exact (Option.some.inj h).symm⟩
    | tup e q => exact .inr (.inl ⟨_, .inl (.inl (R.hs.le _ _ e)), by rw [q.isEmpty]; exact (Option.some.inj h).symm⟩)
    | ins e q => cases h
    | scr e => cases h
    | adr a => cases h
    | ty n => cases h
    | err0 => cases h
    | err _ _ => cases h
  | ptr j =>
    simp only [Tru] at h
    split at h
    · rename_i xs hj
      obtain ⟨a, ha, hn, vs, he, rr⟩ := R.at hj
      obtain ⟨a', ha', rfl⟩ := r
      have : a' = a := Option.some.inj (ha'.symm.trans ha)
      subst this
      exact .inl ⟨vs, .inl (.inl he), by rw [rr.isEmpty]; exact (Option.some.inj h).symm⟩
    · cases h
def TrK (Ψ : BK) : WK := fun w st => ∃ k, Tru st w = some k ∧ Ψ k st
theorem tw_val (h : EW X G e sl st (TrK Ψ)) (he : ∀ whole, isTrue e X.env whole = (do let v ← whole; standAt e.pos; holding [v] (truthy v)) := by intro _; rfl) : TW X G e sl st Ψ := fun A σ H H0 R Q k =>
  wpT_of (pt_truth pe_wp he) (h A σ H H0 R _ fun w st' v A' H' H0' ⟨b, hb, q⟩ R' x s r => ⟨b, truV_of R' r hb, k b st' A' H' H0' q R' x s⟩)
theorem tw_not (h : TW X G a sl st fun b st' => Ψ (!b) st') : TW X G (.UnaryOp .Not a pos) sl st Ψ := fun A σ H H0 R Q k =>
  wpT_of (pt_not pt_wp) (h A σ H H0 R _ fun b st' A' H' H0' q R' x s => k (!b) st' A' H' H0' q R' x s)
theorem tw_bool (h : BW X G e sl st Ψ) : TW X G e sl st Ψ := fun A σ H H0 R Q k pins s I => h A σ H H0 R Q k _ pins s I
theorem bw_and1 (h : TW X G a sl st Ψ) : BW X G (.BoolOp .And [a] pos) sl st Ψ := fun A σ H H0 R Q k wh pins s I => (pw_and1 pt_wp).run wh pins s σ H Q I (h A σ H H0 R Q k)
theorem bw_or1 (h : TW X G a sl st Ψ) : BW X G (.BoolOp .Or [a] pos) sl st Ψ := fun A σ H H0 R Q k wh pins s I => (pw_or1 pt_wp).run wh pins s σ H Q I (h A σ H H0 R Q k)
theorem bw_and {rest : List Expr} (h : TW X G a sl st fun k st1 => if k = true then BW X G (.BoolOp .And (b :: rest) pos) sl st1 Ψ else Ψ false st1) : BW X G (.BoolOp .And (a :: b :: rest) pos) sl st Ψ := fun A σ H H0 R Q k wh pins s I => by
  refine (pw_and pt_wp pw_wp).run wh pins s σ H Q I (h A σ H H0 R _ fun c st1 A1 H1 H01 q R1 x1 s1 => ?_)
  cases c with
  | true =>
    rw [if_pos rfl] at q ⊢
    exact q A1 σ H1 H01 R1 Q (k.mv x1 s1)
  | false =>
    rw [if_neg Bool.false_ne_true] at q ⊢
    exact k false st1 A1 H1 H01 q R1 x1 s1
theorem bw_or {rest : List Expr} (h : TW X G a sl st fun k st1 => if k = true then Ψ true st1 else BW X G (.BoolOp .Or (b :: rest) pos) sl st1 Ψ) : BW X G (.BoolOp .Or (a :: b :: rest) pos) sl st Ψ := fun A σ H H0 R Q k wh pins s I => by
  refine (pw_or pt_wp pw_wp).run wh pins s σ H Q I (h A σ H H0 R _ fun c st1 A1 H1 H01 q R1 x1 s1 => ?_)
  cases c with
  | true =>
    rw [if_pos rfl] at q ⊢
    exact k true st1 A1 H1 H01 q R1 x1 s1
  | false =>
    rw [if_neg Bool.false_ne_true] at q ⊢
    exact q A1 σ H1 H01 R1 Q (k.mv x1 s1)
theorem ew_one {op} (h : EW X G a sl st Φ) : EW X G (.BoolOp op [a] pos) sl st Φ := fun A σ H H0 R Q k => wpE_of (pe_one pe_wp) (h A σ H H0 R Q k)
theorem ew_and {rest : List Expr} (h : EW X G a sl st fun w st1 => ∃ k, w = .dat (.bl k) ∧ if k = true then EW X G (.BoolOp .And (b :: rest) pos) sl st1 Φ else Φ (.dat (.bl false)) st1) : EW X G (.BoolOp .And (a :: b :: rest) pos) sl st Φ := fun A σ H H0 R Q k => by
  refine wpE_of (pe_and pe_wp pe_wp) (h A σ H H0 R _ fun w st1 v1 A1 H1 H01 ⟨c, hc, q⟩ R1 x1 s1 r1 => ?_)
  subst hc
  cases r1
  refine ⟨c, rfl, ?_⟩
  cases c with
  | true =>
    rw [if_pos rfl] at q ⊢
    exact q A1 σ H1 H01 R1 Q (k.mv x1 s1)
  | false =>
    rw [if_neg Bool.false_ne_true] at q ⊢
    exact k _ st1 _ A1 H1 H01 q R1 x1 s1 (.bl false)
theorem ew_or {rest : List Expr} (h : EW X G a sl st fun w st1 => ∃ k, w = .dat (.bl k) ∧ if k = true then Φ (.dat (.bl true)) st1 else EW X G (.BoolOp .Or (b :: rest) pos) sl st1 Φ) : EW X G (.BoolOp .Or (a :: b :: rest) pos) sl st Φ := fun A σ H H0 R Q k => by
  refine wpE_of (pe_or pe_wp pe_wp) (h A σ H H0 R _ fun w st1 v1 A1 H1 H01 ⟨c, hc, q⟩ R1 x1 s1 r1 => ?_)
  subst hc
  cases r1
  refine ⟨c, rfl, ?_⟩
  cases c with
  | true =>
    rw [if_pos rfl] at q ⊢
    exact k _ st1 _ A1 H1 H01 q R1 x1 s1 (.bl true)
  | false =>
    rw [if_neg Bool.false_ne_true] at q ⊢
    exact q A1 σ H1 H01 R1 Q (k.mv x1 s1)
theorem ew_not (h : EW X G a sl st fun w st1 => ∃ k, w = .dat (.bl k) ∧ Φ (.dat (.bl (!k))) st1) : EW X G (.UnaryOp .Not a pos) sl st Φ := fun A σ H H0 R Q k => by
  refine wpE_of (pe_not pe_wp) (h A σ H H0 R _ fun w st1 v1 A1 H1 H01 ⟨c, hc, q⟩ R1 x1 s1 r1 => ?_)
  subst hc
  cases r1
  exact ⟨c, rfl, k _ st1 _ A1 H1 H01 q R1 x1 s1 (.bl _)⟩
theorem ew_neg (h : EW X G a sl st fun w st1 => ∃ i, w = .dat (.int i) ∧ Φ (.dat (.int (-i))) st1) : EW X G (.UnaryOp .USub a pos) sl st Φ := fun A σ H H0 R Q k => by
  refine wpE_of (pe_un un_neg pe_wp) (h A σ H H0 R _ fun w st1 v1 A1 H1 H01 ⟨c, hc, q⟩ R1 x1 s1 r1 => ?_)
  subst hc
  cases r1
  exact ⟨c, rfl, k _ st1 _ A1 H1 H01 q R1 x1 s1 (.int _)⟩
theorem ew_if (h : TW X G c sl st fun k st1 => if k = true then EW X G a sl st1 Φ else EW X G b sl st1 Φ) : EW X G (.IfExp c a b pos) sl st Φ := fun A σ H H0 R Q k => by
  refine wpE_of (pe_ifExp pt_wp pe_wp pe_wp) (h A σ H H0 R _ fun d st1 A1 H1 H01 q R1 x1 s1 => ?_)
  cases d with
  | true =>
    rw [if_pos rfl] at q ⊢
    exact q A1 σ H1 H01 R1 Q (k.mv x1 s1)
  | false =>
    rw [if_neg Bool.false_ne_true] at q ⊢
    exact q A1 σ H1 H01 R1 Q (k.mv x1 s1)
theorem aw_nil (h : Λ [] st) : AW X G [] sl st Λ := fun A σ H H0 R Q k => wpA_of pa_nil (show Q [] H from k [] st [] A H H0 h R (Ext.refl _) (Same.refl _) trivial)
theorem aw_cons (h : EW X G e sl st fun w st1 => AW X G es sl st1 fun ws st2 => Λ (w :: ws) st2) (hs : starEach (e :: es) X.env = (false, eval e X.env) :: starEach es X.env := by rfl) : AW X G (e :: es) sl st Λ := fun A σ H H0 R Q k =>
  wpA_of (pa_cons pe_wp pa_wp hs) (h A σ H H0 R _ fun w st1 v1 A1 H1 H01 e1 R1 x1 s1 r1 => e1 A1 σ H1 H01 R1 _ fun ws st2 vs A2 H2 H02 e2 R2 x2 s2 r2 => k (w :: ws) st2 (v1 :: vs) A2 H2 H02 e2 R2 (x1.trans x2) (s1.trans s2) ⟨r1.mono x2 s2, r2⟩)
def datsOf : List W → Option (List D)
  | [] => some []
  | .dat d :: r => (datsOf r).map (d :: ·)
  | .ptr _ :: _ => none
theorem datsOf_eq : ∀ {ws : List W} {ds : List D}, datsOf ws = some ds → ws = ds.map W.dat
  | [], _, h => by cases h; rfl
  | .dat d :: r, ds, h => by
    simp only [datsOf] at h
    cases e : datsOf r with
    | none => rw [e] at h; cases h
    | some es =>
      rw [e] at h
      cases h
      rw [datsOf_eq e]
      rfl
  | .ptr _ :: _, _, h => by cases h
theorem ew_tup {x1} (h : AW X G es sl st fun ws st1 => ∃ ds, datsOf ws = some ds ∧ ds.length ≤ sizeLine ∧ Φ (.dat (.tup ds)) st1) : EW X G (.Tuple es x1 pos) sl st Φ := fun A σ H H0 R Q k => by
  refine wpE_of (pe_tup pa_wp) (h A σ H H0 R _ fun ws st1 vs A1 H1 H01 ⟨ds, hd, hz, q⟩ R1 x1 s1 r1 => ?_)
  have hw := datsOf_eq hd
  subst hw
  have rr := r1.dats
  refine ⟨by rw [rr.length]; exact hz, fun p hp => ?_⟩
  have s0 := same_upd (o := .tup vs) (R1.hs.free0 hp)
  exact k _ st1 _ A1 _ _ q (R1.alloc hp) x1 (s1.trans s0) (.tup upd_same (rr.mono s0))
theorem ew_lst (h : AW X G es sl st fun ws st1 => ∃ ds, datsOf ws = some ds ∧ ds.length ≤ sizeLine ∧ Φ (.dat (.lst ds)) st1) : EW X G (.List es pos) sl st Φ := fun A σ H H0 R Q k => by
  refine wpE_of (pe_lst pa_wp) (h A σ H H0 R _ fun ws st1 vs A1 H1 H01 ⟨ds, hd, hz, q⟩ R1 x1 s1 r1 => ?_)
  have hw := datsOf_eq hd
  subst hw
  have rr := r1.dats
  refine ⟨by rw [rr.length]; exact hz, fun p hp => ?_⟩
  have s0 := same_upd (o := .lst vs) (R1.hs.free0 hp)
  exact k _ st1 _ A1 _ _ q (R1.alloc hp) x1 (s1.trans s0) (.lst upd_same (rr.mono s0))
theorem ew_lstM (h : AW X G es sl st fun ws st1 => ws.length ≤ sizeLine ∧ Φ (.ptr st1.length) (st1 ++ [.lst ws])) : EW X G (.List es pos) sl st Φ := fun A σ H H0 R Q k => by
  refine wpE_of (pe_lst pa_wp) (h A σ H H0 R _ fun ws st1 vs A1 H1 H01 ⟨hz, q⟩ R1 x1 s1 r1 => ?_)
  refine ⟨by rw [r1.length]; exact hz, fun p hp => ?_⟩
  have e : Ext A1 (A1 ++ [p]) := ⟨[p], rfl⟩
  refine k _ _ _ _ _ _ q (R1.push hp ⟨R1.hs.free0 hp, vs, upd_same, r1.mono e (Same.refl _)⟩) (x1.trans e) s1 ⟨p, ?_, rfl⟩
  rw [← R1.hs.al, List.getElem?_append_right (Nat.le_refl _)]
  simp
end
end Dn
namespace Dn
open PySem PySem.Spec L2 StX ClX
open PyProof.Rows hiding St
abbrev XKD := Value → List (Str × D) → List Ob → Prop
abbrev FT := List W → List Ob → WK → XKD → Prop
def XD (H : Hp) (d : Option Addr) (vfs : List (Str × V)) : Prop := (d = none ∧ vfs = []) ∨ ∃ dx, d = some dx ∧ H dx = some (.xd vfs)
def spD (K : PySem.W.Frag) (F : FT) : Sp := fun vs H Q E => ∃ H0 A args st Ret Exc, HS K A H H0 st ∧ RepWs K A H0 vs args ∧ F args st Ret Exc ∧
  (∀ w st' v A' H' H0', Ret w st' → HS K A' H' H0' st' → Fr ⟨H, H0, A⟩ A' H' H0' → RepW K A' H0' v w → Q v H') ∧
  (∀ cls fs d vfs st' A' H' H0', Exc cls fs st' → HS K A' H' H0' st' → Fr ⟨H, H0, A⟩ A' H' H0' → XD H0' d vfs → RepF K H0' vfs fs → E cls d H')
abbrev XKS := Value → List (Str × D) → Sls → List Ob → Prop
def XOk (X : Cx) (G : Ent) (Kx : XKS) : Prop := ∃ Wx : WX, Takes X Wx ∧ ∀ cls fs d vfs A σ H H0 sl st, Kx cls fs sl st → RS X.K G A σ H H0 sl st → XD H0 d vfs → RepF X.K H0 vfs fs → Wx cls d σ H
def KF : XKS := fun _ _ _ _ => False
theorem xok_false {X : Cx} {G : Ent} : XOk X G KF := ⟨fun _ _ _ _ => False, takes0, fun _ _ _ _ _ _ _ _ _ _ h => h.elim⟩
def CloW (n : Nat) : W → Prop
  | .dat _ => True
  | .ptr j => j < n
def Clo (n : Nat) : Ob → Prop
  | .gone => True
  | .lst xs => ∀ w ∈ xs, CloW n w
  | .ins _ fs => ∀ p ∈ fs, CloW n p.2
  | .dct kvs => ∀ p ∈ kvs, CloW n p.2
def Clos (st : List Ob) : Prop := ∀ o ∈ st, Clo st.length o
section
variable {K : PySem.W.Frag} {G : Ent} {A A' : List Addr} {σ : St} {H H' H0 H0' : Hp} {sl : Sls} {st st' : List Ob}
theorem RepW.clo {v : V} {w : W} (h : RepW K A H v w) : CloW A.length w := by
  cases w with
  | dat d => trivial
  | ptr j =>
    obtain ⟨a, h, _⟩ := h
    exact (List.getElem?_eq_some_iff.mp h).1
theorem RepWs.clo : ∀ {vs : List V} {ws : List W}, RepWs K A H vs ws → ∀ w ∈ ws, CloW A.length w
  | [], [], _, _, h => by simp at h
  | _ :: _, _ :: _, h, w, hw => by
    rcases List.mem_cons.mp hw with rfl | hw
    · exact h.1.clo
    · exact RepWs.clo h.2 w hw
theorem RepWF.clo : ∀ {vs : List (Str × V)} {ws : List (Str × W)}, RepWF K A H vs ws → ∀ p ∈ ws, CloW A.length p.2
  | [], [], _, _, h => by simp at h
  | _ :: _, _ :: _, h, w, hw => by
    rcases List.mem_cons.mp hw with rfl | hw
    · exact h.2.1.clo
    · exact RepWF.clo h.2.2 w hw
theorem RepWK.clo : ∀ {vs : List (Key × V)} {ws : List (Key × W)}, RepWK K A H vs ws → ∀ p ∈ ws, CloW A.length p.2
  | [], [], _, _, h => by simp at h
  | _ :: _, _ :: _, h, w, hw => by
    rcases List.mem_cons.mp hw with rfl | hw
    · exact h.2.1.clo
    · exact RepWK.clo h.2.2 w hw
theorem HS.clos (h : HS K A H H0 st) : Clos st := fun o ho => by
  obtain ⟨j, hj, e⟩ := List.mem_iff_getElem.mp ho
  have hj' : j < A.length := by rw [h.al]; exact hj
  have q := h.ob j A[j] o (List.getElem?_eq_getElem hj') (by rw [List.getElem?_eq_getElem hj, e])
  rw [← h.al]
  cases o with
  | gone => trivial
  | lst xs => obtain ⟨_, vs, _, r⟩ := q; exact r.clo
  | ins C fs => obtain ⟨_, dx, vs, _, r⟩ := q; exact r.clo
  | dct kvs => obtain ⟨_, vs, _, r⟩ := q; exact r.clo
theorem RepW.take {n : Nat} {v : V} {w : W} (h : RepW K A H v w) (c : CloW n w) : RepW K (A.take n) H v w := by
  cases w with
  | dat d => exact h
  | ptr j =>
    obtain ⟨a, h, e⟩ := h
    exact ⟨a, by rw [List.getElem?_take_of_lt c]; exact h, e⟩
theorem RepWs.takeA {n : Nat} : ∀ {vs : List V} {ws : List W}, RepWs K A H vs ws → (∀ w ∈ ws, CloW n w) → RepWs K (A.take n) H vs ws
  | [], [], _, _ => trivial
  | _ :: _, _ :: _, h, c => ⟨h.1.take (c _ List.mem_cons_self), RepWs.takeA h.2 fun w hw => c w (List.mem_cons_of_mem _ hw)⟩
theorem RepWF.takeA {n : Nat} : ∀ {vs : List (Str × V)} {ws : List (Str × W)}, RepWF K A H vs ws → (∀ w ∈ ws, CloW n w.2) → RepWF K (A.take n) H vs ws
  | [], [], _, _ => trivial
  | _ :: _, _ :: _, h, c => ⟨h.1, h.2.1.take (c _ List.mem_cons_self), RepWF.takeA h.2.2 fun w hw => c w (List.mem_cons_of_mem _ hw)⟩
theorem RepWK.takeA {n : Nat} : ∀ {vs : List (Key × V)} {ws : List (Key × W)}, RepWK K A H vs ws → (∀ w ∈ ws, CloW n w.2) → RepWK K (A.take n) H vs ws
  | [], [], _, _ => trivial
  | _ :: _, _ :: _, h, c => ⟨h.1, h.2.1.take (c _ List.mem_cons_self), RepWK.takeA h.2.2 fun w hw => c w (List.mem_cons_of_mem _ hw)⟩
theorem ObRep.takeA {n : Nat} {a : Addr} {o : Ob} (h : ObRep K A H H0 a o) (c : Clo n o) : ObRep K (A.take n) H H0 a o := by
  cases o with
  | gone => exact h
  | lst xs => obtain ⟨z, vs, e, r⟩ := h; exact ⟨z, vs, e, r.takeA c⟩
  | ins C fs => obtain ⟨z, dx, vs, e, r⟩ := h; exact ⟨z, dx, vs, e, r.takeA c⟩
  | dct kvs => obtain ⟨z, vs, e, r⟩ := h; exact ⟨z, vs, e, r.takeA c⟩
theorem HS.drop {g : List Ob} (h : HS K A H H0 (st ++ g)) (c : Clos st) : HS K (A.take st.length) H H0 st := by
  have hl := h.al
  rw [List.length_append] at hl
  refine ⟨h.le, by rw [List.length_take]; omega, h.nd.sublist (List.take_sublist _ _), fun j a o ha ho => ?_⟩
  have hj := (List.getElem?_eq_some_iff.mp ho).1
  rw [List.getElem?_take_of_lt hj] at ha
  exact (h.ob j a o ha (by rw [List.getElem?_append_left hj]; exact ho)).takeA (c o (List.mem_of_getElem? ho))
theorem Fr.drop {n : Nat} (f : Fr G A H H0) (hn : G.A.length ≤ n) : Fr G (A.take n) H H0 := by
  refine ⟨f.fr, f.old, f.new, ?_, fun b hb => f.loc b (List.mem_of_mem_take hb)⟩
  obtain ⟨B, e⟩ := f.pre
  refine ⟨B.take (n - G.A.length), ?_⟩
  rw [e, List.take_append, List.take_of_length_le hn]
theorem RS.after (R : RS K G A σ H H0 sl st) (h : HS K A' H' H0' st') (f : Fr ⟨H, H0, A⟩ A' H' H0') : RS K G A' σ H' H0' sl st' := by
  refine ⟨R.sl.mono f.pre f.old, h, ⟨fun b o e hb => ?_, R.fr.old.trans f.old, fun b o e => ?_, R.fr.pre.trans f.pre, fun b hb => ?_⟩⟩
  · have e1 := R.fr.fr b o e hb
    refine f.fr b o e1 fun hA => ?_
    rcases R.fr.loc b hA with z | z
    · exact hb z
    · rw [e] at z
      cases z
  · rcases f.new b o e with ⟨u, e1⟩ | e1
    · exact R.fr.new b u e1
    · exact .inr (free_in R.fr R.hs e1)
  · rcases f.loc b hb with z | z
    · exact R.fr.loc b z
    · exact .inr (free_in R.fr R.hs z)
theorem Fr.refl (h : HS K A H H0 st) : Fr ⟨H, H0, A⟩ A H H0 := ⟨fun _ _ e _ => e, Same.refl _, fun _ o e => .inl ⟨o, e⟩, Ext.refl _, fun _ hb => .inl hb⟩
theorem RS.freeze (R : RS K G A σ H H0 sl st) {j : Nat} {p : Addr} {o : HO} {u : Ob} (hj : A[j]? = some p) (hs : st[j]? = some u) (hp : H p = some o) (h0 : H0 p = none) (hG : G.H p = none) : RS K G A σ H (upd H0 p o) sl (st.set j .gone) := by
  have s0 : Same H0 (upd H0 p o) := same_upd h0
  refine ⟨R.sl.mono (Ext.refl _) s0, ⟨fun b u h => ?_, by simp [R.hs.al], R.hs.nd, fun i a x ha hx => ?_⟩, ⟨R.fr.fr, R.fr.old.trans s0, fun b u h => ?_, R.fr.pre, R.fr.loc⟩⟩
  · by_cases hb : b = p
    · subst hb
      rw [upd_same] at h
      cases h
      exact hp
    · rw [upd_ne hb] at h
      exact R.hs.le _ _ h
  · by_cases hi : j = i
    · subst hi
      rw [List.getElem?_set_self (List.getElem?_eq_some_iff.mp hs).1] at hx
      cases hx
      have : a = p := Option.some.inj (ha.symm.trans hj)
      subst this
      exact ⟨o, upd_same⟩
    · rw [List.getElem?_set_ne hi] at hx
      have hap : a ≠ p := fun z => by
        subst z
        have h1 := List.getElem?_eq_some_iff.mp ha
        have h2 := List.getElem?_eq_some_iff.mp hj
        exact hi ((List.getElem_inj R.hs.nd).mp (h2.2.trans h1.2.symm))
      exact (R.hs.ob i a x ha hx).mono0 (Ext.refl _) s0 fun z => by rw [upd_ne hap]; exact z
  · by_cases hb : b = p
    · subst hb
      exact .inr hG
    · rw [upd_ne hb] at h
      exact R.fr.new _ _ h
end
structure RoomG (k : Nat) (A : Around) : Prop where
  r : L2.Room k A
  gd : A.guards = some []
theorem RoomG.hd {k : Nat} {A : Around} (h : RoomG k A) : A.handled = none := h.r.hd
theorem RoomG.dp {k : Nat} {A : Around} (h : RoomG k A) : A.depth + 3 * k + 5 < recursionLimit := h.r.dp
theorem RoomG.un {k : Nat} {A : Around} (h : RoomG k A) : A.units + 16 * k + 200 < cLine := h.r.un
theorem RoomG.units {k : Nat} {A : Around} (h : RoomG k A) : A.units + 64 < cLine := h.r.units
theorem RoomG.mono {j k : Nat} {A : Around} (h : RoomG k A) (l : j ≤ k) : RoomG j A := ⟨h.r.mono l, h.gd⟩
theorem RoomG.deeper {k : Nat} {A : Around} (h : RoomG (k + 1) A) (env : Env) : RoomG k (A.deeper env) := ⟨h.r.deeper env, h.gd⟩
theorem RoomG.in1 {k : Nat} {A : Around} (h : RoomG (k + 1) A) : RoomG k A.in1 := ⟨h.r.in1, h.gd⟩
theorem RoomG.make {k : Nat} {A : Around} (h : RoomG (k + 1) A) (C : Addr) (us : List Value) (kw : List (Str × Value)) : RoomG k (A.under (.builtin "type.__call__" ⟨.ref C :: us, kw⟩)) := by
  refine ⟨h.r.make C us kw, ?_⟩
  have e : pushGuards (Code.builtin "type.__call__" ⟨.ref C :: us, kw⟩).guards A.guards = some [] := by
    rw [h.gd]
    simp [Code.guards, Code.isGuard, guardIds, pushGuards]
  simpa [Around.under] using e
def FnG (P : Program) (w : World) (K : PySem.W.Frag) (mg : Str → Option Value) (base : Heap) (CX : CXT) (k : Nat) (f : Addr) (sp : Sp) : Prop :=
  ∀ (B : Around) (out : List Env) (t : Shared) (h : Hp) (us : List Value) (xs : List V) (Q : VK) (E : XK), RoomG k B → Env0 P w K mg base B out t h → Vals xs us → sp xs h Q E → codeAny (model P w) B (.call (.ref f) ⟨us, []⟩) (CR CX out P w h t Q E) t
def Cal (P : Program) (w : World) (K : PySem.W.Frag) (mg : Str → Option Value) (base : Heap) (k : Nat) (x : Str) (F : FT) : Prop :=
  ∃ f : Addr, mg x = some (.ref f) ∧ PySem.W.keepIn K (.ref f) = true ∧ FnG P w K mg base (L2.CX P w) k f (spD K F)
def Mak (P : Program) (w : World) (K : PySem.W.Frag) (mg : Str → Option Value) (base : Heap) (k : Nat) (x : Str) (C : Addr) (F : FT) : Prop :=
  ∃ f : Addr, mg x = some (.ref C) ∧ L2.Mk K C f ∧ FnG P w K mg base (L2.CX P w) k f (spD K F)
def Met (P : Program) (w : World) (K : PySem.W.Frag) (mg : Str → Option Value) (base : Heap) (k : Nat) (C : Addr) (m : Str) (F : FT) : Prop :=
  ∃ f : Addr, L2.Cls K C ∧ L2.Meth K C m f ∧ FnG P w K mg base (L2.CX P w) k f (spD K F)
def CalO (P : Program) (w : World) (K : PySem.W.Frag) (mg : Str → Option Value) (base : Heap) (k : Nat) (C : Addr) (F : FT) : Prop :=
  ∃ f : Addr, StX.CallO K C f ∧ FnG P w K mg base (L2.CX P w) k f (spD K F)
def CMt (P : Program) (w : World) (K : PySem.W.Frag) (mg : Str → Option Value) (base : Heap) (k : Nat) (C : Addr) (m : Str) (F : FT) : Prop :=
  ∃ (mc : Value) (p g : Addr), ClX.CRead K C mc ∧ ClX.CMet K C mc m p g ∧ FnG P w K mg base (L2.CX P w) k g (spD K F)
section
variable {X : Cx} {G : Ent} {sl : Sls} {st : List Ob} {Φ : WK} {Kx : XKS} {F : FT} {k j : Nat}
theorem run_D {pins : List (Addr × Obj)} {A : List Addr} {σ : St} {H H0 : Hp} {s : Shared} {f : Addr} {us : List Value} {vs : List V} {ws : List W} {Q : VK} {Ret : WK} {Exc : XKD} (Fn : FnG X.prog X.w X.K X.mg X.base (L2.CX X.prog X.w) k f (spD X.K F)) (hr : RoomG k X.A) (xk : XOk X G Kx) (R : RS X.K G A σ H H0 sl st)
    (rw : RepWs X.K A H0 vs ws) (I : Inv X pins σ H s) (r : Vals vs us) (hF : F ws st Ret Exc) (hR : ∀ w st' v A' H' H0', Ret w st' → RS X.K G A' σ H' H0' sl st' → Ext A A' → Same H0 H0' → RepW X.K A' H0' v w → Q v H') (hE : ∀ cls fs st', Exc cls fs st' → Kx cls fs sl st') :
    codeAny (model X.prog X.w) X.A (.call (.ref f) ⟨us, []⟩) (fun r s' => match r with | .ok (.ret v) => EP X pins σ Q v s' | .ok _ => False | .error e => X.xe e s') s := by
  obtain ⟨Wx, tk, hW⟩ := xk
  refine codeAny_mono (Fn X.A X.stack s H us vs Q (WE Wx σ) hr I.env0 r ⟨H0, A, ws, st, Ret, Exc, R.hs, rw, hF, fun w st' v A' H' H0' q hs fr rr => ?_, fun cls fs d vfs st' A' H' H0' q hs fr xd rf => ?_⟩) fun r s' hq => ?_
  · exact hR w st' v A' H' H0' q (R.after hs fr) fr.pre fr.old rr
  · exact hW cls fs d vfs A' σ H' H0' sl st' (hE _ _ _ q) (R.after hs fr) xd rf
  · cases r with
    | error e => exact passAt tk σ pins H s e s' I hq
    | ok fl =>
      cases fl with
      | ret u => exact I.after hq
      | next => exact False.elim hq
      | brk => exact False.elim hq
      | cont => exact False.elim hq
theorem run_call {pins : List (Addr × Obj)} {A : List Addr} {σ : St} {H H0 : Hp} {s : Shared} {f : Addr} {us : List Value} {vs : List V} {ws : List W} {Q : VK} (Fn : FnG X.prog X.w X.K X.mg X.base (L2.CX X.prog X.w) k f (spD X.K F)) (hr : RoomG k X.A) (xk : XOk X G Kx) (R : RS X.K G A σ H H0 sl st)
    (rw : RepWs X.K A H0 vs ws) (I : Inv X pins σ H s) (r : Vals vs us) (hF : F ws st Φ (fun cls fs st' => Kx cls fs sl st')) (c : Ct X.K G A σ H0 sl Φ Q) : wpAny (model X.prog X.w) X.A (call (.ref f) us) (EP X pins σ Q) X.xe s := by
  refine wpAny_call (codeAny_mono (run_D Fn hr xk R rw I r hF c fun _ _ _ q => q) fun r s' q => ?_)
  cases r with
  | error e => exact q
  | ok fl => cases fl <;> exact q
variable {x m : Str} {p pos apos : Pos} {e o : Expr} {es : List Expr}
theorem ew_call (c : Cal X.prog X.w X.K X.mg X.base k x F) (hr : RoomG j X.A) (hk : k ≤ j) (xk : XOk X G Kx) (h : AW X G (e :: es) sl st fun ws st1 => F ws st1 Φ fun cls fs st2 => Kx cls fs sl st2) (hg : Gl X x := by rfl) (hdb : (x == ("__debug__" : Str)) = false := by decide)
    (he : starEach (e :: es) X.env = (false, eval e X.env) :: starEach es X.env := by rfl) (hpl : (backTo pos (starEach es X.env)).any (·.1) = false := by rfl) : EW X G (.Call (.Name x p) (e :: es) [] pos) sl st Φ := fun A σ H H0 R Q k pins s I => by
  obtain ⟨f, hm, hkp, Fn⟩ := c
  refine wpAny_Call_Name_kw (ld_glob I hg hm ?_ hdb)
  refine PySem.W.callWith_K (h₀ := X.base) I.ok.mod.kin hkp (thn (h A σ H H0 R (fun vs H1 => ∃ A1 H01 st1 ws, F ws st1 Φ (fun cls fs st2 => Kx cls fs sl st2) ∧ RS X.K G A1 σ H1 H01 sl st1 ∧ Ext A A1 ∧ Same H0 H01 ∧ RepWs X.K A1 H01 vs ws)
    (fun ws st1 vs A1 H1 H01 q R1 x1 s1 r1 => ⟨A1, H01, st1, ws, q, R1, x1, s1, r1⟩) pos pins s I) fun us s1 ⟨vs, H1, I1, r, A1, H01, st1, ws, q, R1, x1, s1', r1⟩ => ⟨I1.kIn, ?_⟩) he hpl
  exact run_call Fn (hr.mono hk) xk R1 r1 I1 r q (k.mv x1 s1')
theorem ew_call0 (c : Cal X.prog X.w X.K X.mg X.base k x F) (hr : RoomG j X.A) (hk : k ≤ j) (xk : XOk X G Kx) (h : F [] st Φ fun cls fs st2 => Kx cls fs sl st2) (hg : Gl X x := by rfl) (hdb : (x == ("__debug__" : Str)) = false := by decide) : EW X G (.Call (.Name x p) [] [] pos) sl st Φ := fun A σ H H0 R Q k pins s I => by
  obtain ⟨f, hm, hkp, Fn⟩ := c
  refine wpAny_Call_Name_kw (ld_glob I hg hm ?_ hdb)
  exact PySem.W.callWith_K0 I.kIn hkp (run_call (vs := []) (ws := []) (us := []) Fn (hr.mono hk) xk R trivial I .nil h k)
theorem ew_meth {C : Addr} {fs : List (Str × D)} {pl : Sem Bool} (c : Met X.prog X.w X.K X.mg X.base k C m F) (hr : RoomG j X.A) (hk : k ≤ j) (xk : XOk X G Kx)
    (h : EW X G o sl st fun w st1 => ∃ fs, w = .dat (.ins C fs) ∧ fs.lookup m = none ∧ AW X G (e :: es) sl st1 fun ws st2 => F (w :: ws) st2 Φ fun cls fs st3 => Kx cls fs sl st3)
    (hst : starEach (e :: es) X.env = (false, eval e X.env) :: starEach es X.env := by rfl) (hpl : (backTo pos (starEach es X.env)).any (·.1) = false := by rfl)
    (ht : eval (.Call (.Attribute o m apos) (e :: es) [] pos) X.env = (do
      let ov ← eval o X.env
      standAt apos.atName
      let (f, first) ← holding [ov] (getMethod ov m pl)
      callWith pos f first (backTo pos (starEach (e :: es) X.env)) (backToKw pos (keywordEach [] X.env))) := by rfl) : EW X G (.Call (.Attribute o m apos) (e :: es) [] pos) sl st Φ := fun A σ H H0 R Q k pins s I => by
  obtain ⟨f, cl, hm, Fn⟩ := c
  refine PySem.W.methodCall_KW (pl := pl) (thn (h A σ H H0 R (fun v H1 => ∃ A1 H01 st1 fs, fs.lookup m = none ∧ (AW X G (e :: es) sl st1 fun ws st2 => F (.dat (.ins C fs) :: ws) st2 Φ fun cls fs st3 => Kx cls fs sl st3) ∧ RS X.K G A1 σ H1 H01 sl st1 ∧ Ext A A1 ∧ Same H0 H01 ∧ Rep X.K H01 v (.ins C fs))
    (fun w st1 v A1 H1 H01 ⟨fs, ew, l, q⟩ R1 x1 s1 r1 => by subst ew; exact ⟨A1, H01, st1, fs, l, q, R1, x1, s1, r1⟩) pins s I) fun u s1 ⟨v, H1, I1, rx, A1, H01, st1, fs, l, q, R1, x1, s1', r1⟩ => ?_) ht
  cases r1 with
  | @ins a _ dx vs _ hin rf =>
  obtain rfl : u = Value.ref a := rx
  refine getmeth_ok I1 (R1.hs.le _ _ hin) cl hm (rf.lookup_none l) ?_
  refine PySem.W.callWith_K (first := [.ref a]) (h₀ := X.base) I.ok.mod.kin hm.kp (thn (q A1 σ H1 H01 R1 (fun us H2 => ∃ A2 H02 st2 ws, F (.dat (.ins C fs) :: ws) st2 Φ (fun cls fs st3 => Kx cls fs sl st3) ∧ RS X.K G A2 σ H2 H02 sl st2 ∧ Ext A1 A2 ∧ Same H01 H02 ∧ RepWs X.K A2 H02 us ws)
    (fun ws st2 us A2 H2 H02 q R2 x2 s2 r2 => ⟨A2, H02, st2, ws, q, R2, x2, s2, r2⟩) pos pins s1 I1) fun us s2 ⟨vs2, H2, I2, r, A2, H02, st2, ws, q2, R2, x2, s2', r2⟩ => ⟨I2.kIn, ?_⟩) hst hpl
  exact run_call (us := .ref a :: us) (vs := .ref a :: vs2) (ws := .dat (.ins C fs) :: ws) Fn (hr.mono hk) xk R2 ⟨Rep.mono (.ins hin rf) s2', r2⟩ I2 (.cons rfl r) q2 (k.mv (x1.trans x2) (s1'.trans s2'))
theorem ew_callO {C : Addr} (c : CalO X.prog X.w X.K X.mg X.base k C F) (hr : RoomG j X.A) (hk : k ≤ j) (xk : XOk X G Kx)
    (h : EW X G o sl st fun w st1 => ∃ fs, w = .dat (.ins C fs) ∧ AW X G (e :: es) sl st1 fun ws st2 => F (w :: ws) st2 Φ fun cls fs st3 => Kx cls fs sl st3)
    (ht : eval (.Call o (e :: es) [] pos) X.env = (do callWith pos (← eval o X.env) [] (backTo pos (starEach (e :: es) X.env)) (backToKw pos (keywordEach [] X.env))) := by rfl)
    (he : starEach (e :: es) X.env = (false, eval e X.env) :: starEach es X.env := by rfl) (hpl : (backTo pos (starEach es X.env)).any (·.1) = false := by rfl) : EW X G (.Call o (e :: es) [] pos) sl st Φ := fun A σ H H0 R Q k pins s I => by
  obtain ⟨f, c, Fn⟩ := c
  refine Call_ (thn (h A σ H H0 R (fun v H1 => ∃ A1 H01 st1 fs, (AW X G (e :: es) sl st1 fun ws st2 => F (.dat (.ins C fs) :: ws) st2 Φ fun cls fs st3 => Kx cls fs sl st3) ∧ RS X.K G A1 σ H1 H01 sl st1 ∧ Ext A A1 ∧ Same H0 H01 ∧ Rep X.K H01 v (.ins C fs))
    (fun w st1 v A1 H1 H01 ⟨fs, ew, q⟩ R1 x1 s1 r1 => by subst ew; exact ⟨A1, H01, st1, fs, q, R1, x1, s1, r1⟩) pins s I) fun u s1 ⟨v, H1, I1, rx, A1, H01, st1, fs, q, R1, x1, s1', r1⟩ => ?_) ht
  cases r1 with
  | @ins a _ dx vs _ hin rf =>
  obtain rfl : u = Value.ref a := rx
  refine callO_with (thn (q A1 σ H1 H01 R1 (fun us H2 => ∃ A2 H02 st2 ws, F (.dat (.ins C fs) :: ws) st2 Φ (fun cls fs st3 => Kx cls fs sl st3) ∧ RS X.K G A2 σ H2 H02 sl st2 ∧ Ext A1 A2 ∧ Same H01 H02 ∧ RepWs X.K A2 H02 us ws)
    (fun ws st2 us A2 H2 H02 q R2 x2 s2 r2 => ⟨A2, H02, st2, ws, q, R2, x2, s2, r2⟩) pos pins s1 I1) fun us s2 ⟨vs2, H2, I2, r, A2, H02, st2, ws, q2, R2, x2, s2', r2⟩ => ?_) he hpl
  have hi : StX.InsC X H2 a C := .inr ⟨dx, vs, R2.hs.le _ _ (s2' _ _ hin)⟩
  obtain ⟨ox, od, J, hd⟩ := insC_at I2 hi
  exact ⟨⟨C, ox, od, J, hd⟩, wpAny_call (PySem.W.kco_code I2.kIn J hd c.at_ c.fn c.fi (codeAny_mono (run_D (us := .ref a :: us) (vs := .ref a :: vs2) (ws := .dat (.ins C fs) :: ws) (Ret := Φ) Fn (hr.mono hk) xk R2 ⟨Rep.mono (.ins hin rf) s2', r2⟩ I2 (.cons rfl r) q2 (k.mv (x1.trans x2) (s1'.trans s2')) fun _ _ _ q => q) fun r s' q => by
    cases r with
    | error e => exact q
    | ok fl => cases fl <;> exact q))⟩
def MkK (C : Addr) (n : Nat) (Φ : WK) : WK := fun w st' => w = .dat .non ∧ ∃ st1 fs, st' = st1 ++ [.ins C (fs.map fun p => (p.1, W.dat p.2))] ∧ st1.length = n ∧ Clos st1 ∧ Φ (.dat (.ins C fs)) st1
theorem run_mk {pins : List (Addr × Obj)} {A : List Addr} {σ : St} {H H0 : Hp} {s : Shared} {f C : Addr} {us : List Value} {vs : List V} {ws : List W} {Q : VK} (M : L2.Mk X.K C f) (Fn : FnG X.prog X.w X.K X.mg X.base (L2.CX X.prog X.w) k f (spD X.K F)) (hr : RoomG (k + 1) X.A) (xk : XOk X G Kx) (R : RS X.K G A σ H H0 sl st)
    (rw : RepWs X.K A H0 vs ws) (I : Inv X pins σ H s) (r : Vals vs us) (hF : F (.ptr st.length :: ws) (st ++ [.ins C []]) (MkK C st.length Φ) (fun cls fs st' => Kx cls fs sl st')) (c : Ct X.K G A σ H0 sl Φ Q) : wpAny (model X.prog X.w) X.A (call (.ref C) us) (EP X pins σ Q) X.xe s := by
  obtain ⟨Wx, tk, hW⟩ := xk
  have nx : H (s.heap.objs.size + 1) = none := I.hok.fresh (Nat.le_succ _)
  have nd : H s.heap.objs.size = none := I.hok.fresh (Nat.le_refl _)
  have ne : s.heap.objs.size ≠ s.heap.objs.size + 1 := Nat.ne_of_lt (Nat.lt_succ_self _)
  have nx2 : upd H s.heap.objs.size (.own (s.heap.objs.size + 1)) (s.heap.objs.size + 1) = none := by rw [upd_ne (Ne.symm ne)]; exact nx
  have R1 : RS X.K G (A ++ [s.heap.objs.size + 1]) σ (upd (upd H s.heap.objs.size (.own (s.heap.objs.size + 1))) (s.heap.objs.size + 1) (.ins C s.heap.objs.size [])) H0 sl (st ++ [.ins C []]) :=
    (R.fresh (o := .own (s.heap.objs.size + 1)) nd).push nx2 ⟨R.hs.free0 nx, s.heap.objs.size, [], upd_same, trivial⟩
  have I2 := Inv.made (C := C) I
  have e : Ext A (A ++ [s.heap.objs.size + 1]) := ⟨[s.heap.objs.size + 1], rfl⟩
  have hxA : (A ++ [s.heap.objs.size + 1])[st.length]? = some (s.heap.objs.size + 1) := by
    rw [← R.hs.al, List.getElem?_append_right (Nat.le_refl _)]
    simp
  have r2 : Vals (V.ref (s.heap.objs.size + 1) :: vs) (Value.ref (s.heap.objs.size + 1) :: us) := .cons rfl r
  have rw2 : RepWs X.K (A ++ [s.heap.objs.size + 1]) H0 (V.ref (s.heap.objs.size + 1) :: vs) (W.ptr st.length :: ws) := ⟨⟨_, hxA, rfl⟩, rw.mono e (Same.refl _)⟩
  have gx : G.H (s.heap.objs.size + 1) = none := free_in R.fr R.hs nx
  refine wpAny_call (make_map (f := f) I.kIn M.makes M.init (beq_iff_eq.mp M.fn) (codeAny_mono (Fn _ X.stack _ _ (Value.ref (s.heap.objs.size + 1) :: us) _ (fun v H2 => v = .non ∧ Q (.ref (s.heap.objs.size + 1)) H2) (WE Wx σ) (hr.make C us []) (I2.env0.make C us []) r2
    ⟨H0, _, _, _, _, _, R1.hs, rw2, hF, fun w st' v A' H' H0' q hs fr rr => ?_, fun cls fs d vfs st' A' H' H0' q hs fr xd rf => ?_⟩) fun r s' hq' => ?_))
  · obtain ⟨ew, st1, fs, es, hl, hc, q⟩ := q
    subst ew es
    cases rr
    refine ⟨rfl, ?_⟩
    have R2 := R1.after hs fr
    have hA' : A'[st1.length]? = some (s.heap.objs.size + 1) := fr.pre.get (by rw [hl]; exact hxA)
    have hob : (st1 ++ [Ob.ins C (fs.map fun p => (p.1, W.dat p.2))])[st1.length]? = some (Ob.ins C (fs.map fun p => (p.1, W.dat p.2))) := by
      rw [List.getElem?_append_right (Nat.le_refl _)]
      simp
    obtain ⟨h0, dx', vs', hin, rf⟩ := R2.hs.ob _ _ _ hA' hob
    have R3 := R2.freeze hA' hob hin h0 gx
    have es : (st1 ++ [Ob.ins C (fs.map fun p => (p.1, W.dat p.2))]).set st1.length .gone = st1 ++ [.gone] := by simp
    rw [es] at R3
    have hG : G.A.length ≤ st1.length := by
      obtain ⟨B, eB⟩ := R.fr.pre
      have := congrArg List.length eB
      rw [List.length_append, R.hs.al] at this
      omega
    have hx1 : Ext A (A'.take st1.length) := by
      obtain ⟨B, eB⟩ := fr.pre
      have hAl : A.length = st1.length := by rw [hl]; exact R.hs.al
      refine ⟨[], ?_⟩
      have eB : A' = (A ++ [s.heap.objs.size + 1]) ++ B := eB
      rw [eB, List.append_assoc, List.take_append_of_le_length (by omega), List.take_of_length_le (by omega)]
      simp
    have hsd := R3.hs.drop hc
    have s0 : Same H0' (upd H0' (s.heap.objs.size + 1) (.ins C dx' vs')) := same_upd h0
    have R4 : RS X.K G (A'.take st1.length) σ H' (upd H0' (s.heap.objs.size + 1) (.ins C dx' vs')) sl st1 := by
      refine ⟨⟨R3.sl.1, fun i w hw => ?_⟩, hsd, R3.fr.drop hG⟩
      obtain ⟨v, hv, rv⟩ := R.sl.2 i w hw
      exact ⟨v, hv, rv.mono hx1 (Same.trans fr.old s0)⟩
    exact c _ st1 _ _ _ _ q R4 hx1 (Same.trans fr.old s0) (.ins upd_same (RepF.mono (RepWF.dats rf) s0))
  · exact hW cls fs d vfs A' σ H' H0' sl st' q (R1.after hs fr) xd rf
  · cases r with
    | error e => exact passAt tk σ pins _ _ e s' I2 hq'
    | ok fl =>
      cases fl with
      | ret u =>
        obtain ⟨v, H', I3, rv, ev, q3⟩ := I2.after hq'
        subst ev
        exact ⟨rv, ⟨V.ref (s.heap.objs.size + 1), H', I3, rfl, q3⟩⟩
      | next => exact False.elim hq'
      | brk => exact False.elim hq'
      | cont => exact False.elim hq'
theorem ew_mk {C : Addr} (c : Mak X.prog X.w X.K X.mg X.base k x C F) (hr : RoomG j X.A) (hk : k + 1 ≤ j) (xk : XOk X G Kx) (h : AW X G (e :: es) sl st fun ws st1 => F (.ptr st1.length :: ws) (st1 ++ [.ins C []]) (MkK C st1.length Φ) fun cls fs st2 => Kx cls fs sl st2) (hg : Gl X x := by rfl) (hdb : (x == ("__debug__" : Str)) = false := by decide)
    (he : starEach (e :: es) X.env = (false, eval e X.env) :: starEach es X.env := by rfl) (hpl : (backTo pos (starEach es X.env)).any (·.1) = false := by rfl) : EW X G (.Call (.Name x p) (e :: es) [] pos) sl st Φ := fun A σ H H0 R Q k pins s I => by
  obtain ⟨f, hm, M, Fn⟩ := c
  refine wpAny_Call_Name_kw (ld_glob I hg hm ?_ hdb)
  refine PySem.W.callWith_K (h₀ := X.base) I.ok.mod.kin M.kp (thn (h A σ H H0 R (fun vs H1 => ∃ A1 H01 st1 ws, F (.ptr st1.length :: ws) (st1 ++ [.ins C []]) (MkK C st1.length Φ) (fun cls fs st2 => Kx cls fs sl st2) ∧ RS X.K G A1 σ H1 H01 sl st1 ∧ Ext A A1 ∧ Same H0 H01 ∧ RepWs X.K A1 H01 vs ws)
    (fun ws st1 vs A1 H1 H01 q R1 x1 s1 r1 => ⟨A1, H01, st1, ws, q, R1, x1, s1, r1⟩) pos pins s I) fun us s1 ⟨vs, H1, I1, r, A1, H01, st1, ws, q, R1, x1, s1', r1⟩ => ⟨I1.kIn, ?_⟩) he hpl
  exact run_mk M Fn (hr.mono hk) xk R1 r1 I1 r q (k.mv x1 s1')
theorem ew_mkL {C : Addr} {cn : Str} (i : Nat) (hi : sl[i]? = some (some (.dat (.adr C)))) (c : Mak X.prog X.w X.K X.mg X.base k cn C F) (hr : RoomG j X.A) (hk : k + 1 ≤ j) (xk : XOk X G Kx) (h : AW X G (e :: es) sl st fun ws st1 => F (.ptr st1.length :: ws) (st1 ++ [.ins C []]) (MkK C st1.length Φ) fun cls fs st2 => Kx cls fs sl st2)
    (hN : X.N[i]? = some x := by rfl) (hv : Vis X.env.scope x := by first | exact Or.inl rfl | exact Or.inr (Or.inl rfl) | exact Or.inr (Or.inr rfl)) (hdb : (x == ("__debug__" : Str)) = false := by decide) (hcd : (x == ("__classdict__" : Str)) = false := by decide)
    (he : starEach (e :: es) X.env = (false, eval e X.env) :: starEach es X.env := by rfl) (hpl : (backTo pos (starEach es X.env)).any (·.1) = false := by rfl) : EW X G (.Call (.Name x p) (e :: es) [] pos) sl st Φ := fun A σ H H0 R Q k pins s I => by
  obtain ⟨f, hm, M, Fn⟩ := c
  obtain ⟨v, hs, rv⟩ := R.sl.2 i _ hi
  cases rv
  refine wpAny_Call_Name_kw (thn ((pe_var (pos := p) hN hv hdb hcd).run pins s σ H (fun v H1 => v = .ref C ∧ H1 = H) I ⟨.ref C, hs, rfl, rfl⟩) fun u s0 ⟨v, H1, I0, r1, q1⟩ => ?_)
  obtain ⟨rfl, rfl⟩ := q1
  cases r1
  refine PySem.W.callWith_K (h₀ := X.base) I.ok.mod.kin M.kp (thn (h A σ _ H0 R (fun vs H1 => ∃ A1 H01 st1 ws, F (.ptr st1.length :: ws) (st1 ++ [.ins C []]) (MkK C st1.length Φ) (fun cls fs st2 => Kx cls fs sl st2) ∧ RS X.K G A1 σ H1 H01 sl st1 ∧ Ext A A1 ∧ Same H0 H01 ∧ RepWs X.K A1 H01 vs ws)
    (fun ws st1 vs A1 H1 H01 q R1 x1 s1 r1 => ⟨A1, H01, st1, ws, q, R1, x1, s1, r1⟩) pos pins s0 I0) fun us s1 ⟨vs, H1, I1, r, A1, H01, st1, ws, q, R1, x1, s1', r1⟩ => ⟨I1.kIn, ?_⟩) he hpl
  exact run_mk M Fn (hr.mono hk) xk R1 r1 I1 r q (k.mv x1 s1')
end
end Dn
namespace Dn
open PySem PySem.Spec L2 StX ClX
open PyProof.Rows hiding St
section
variable {X : Cx} {G : Ent} {e a b c o : Expr} {es : List Expr} {sl : Sls} {st : List Ob} {Φ : WK} {Ψ : BK} {Λ : LK} {pos p apos cpos : Pos}
theorem Reps.atI {K : PySem.W.Frag} {H : Hp} {vs : List V} {xs : List D} {i : Int} {d : D} (h : Reps K H vs xs) (e : atI xs i = some d) : ∃ v, atI vs i = some v ∧ Rep K H v d := by
  unfold L2.atI at e ⊢
  rw [h.length]
  cases q : ixN xs.length i with
  | none => rw [q] at e; cases e
  | some j => rw [q] at e; exact h.get e
theorem RepWs.atI {K : PySem.W.Frag} {A : List Addr} {H : Hp} {vs : List V} {xs : List W} {i : Int} {d : W} (h : RepWs K A H vs xs) (e : L2.atI xs i = some d) : ∃ v, L2.atI vs i = some v ∧ RepW K A H v d := by
  unfold L2.atI at e ⊢
  rw [h.length]
  cases q : ixN xs.length i with
  | none => rw [q] at e; cases e
  | some j => rw [q] at e; exact h.get e
def Itm (st : List Ob) (w : W) (i : Int) : Option W := match w with
  | .dat (.lst xs) => (atI xs i).map W.dat
  | .dat (.tup xs) => (atI xs i).map W.dat
  | .dat (.scr ns) => (atI ns i).map fun n => W.dat (.int n)
  | .ptr j => match st[j]? with
    | some (.lst xs) => atI xs i
    | _ => none
  | _ => none
theorem ew_ix (h : EW X G a sl st fun w1 st1 => EW X G b sl st1 fun w2 st2 => ∃ i w, w2 = .dat (.int i) ∧ Itm st2 w1 i = some w ∧ Φ w st2) (hs : PlainIx b := by exact fun _ _ => rfl) : EW X G (.Subscript a b pos) sl st Φ := fun A σ H H0 R Q k =>
  wpE_of (pe_ix ix_seq pe_wp pe_wp hs) (h A σ H H0 R _ fun w1 st1 v1 A1 H1 H01 e1 R1 x1 s1 r1 => e1 A1 σ H1 H01 R1 _ fun w2 st2 v2 A2 H2 H02 ⟨i, w, ew, hi, q⟩ R2 x2 s2 r2 => by
    subst ew
    cases r2
    have kk := k w st2
    have r1' := r1.mono x2 s2
    cases w1 with
    | dat d =>
      cases r1' with
      | lst eh rr =>
        obtain ⟨d', e1, e2⟩ := Option.map_eq_some_iff.mp hi
        obtain ⟨v, hv, rv⟩ := rr.atI e1
        exact .inl ⟨_, _, i, v, rfl, rfl, .inl (.inl (R2.hs.le _ _ eh)), hv, kk v A2 H2 H02 q R2 (x1.trans x2) (s1.trans s2) (by rw [← e2]; exact rv)⟩
      | tup eh rr =>
        obtain ⟨d', e1, e2⟩ := Option.map_eq_some_iff.mp hi
        obtain ⟨v, hv, rv⟩ := rr.atI e1
        exact .inr (.inl ⟨_, _, i, v, rfl, rfl, .inl (.inl (R2.hs.le _ _ eh)), hv, kk v A2 H2 H02 q R2 (x1.trans x2) (s1.trans s2) (by rw [← e2]; exact rv)⟩)
      | @scr a ns eh =>
        obtain ⟨n, e1, e2⟩ := Option.map_eq_some_iff.mp hi
        refine .inl ⟨_, _, i, .int n, rfl, rfl, R2.hs.le.seq eh, ?_, kk (.int n) A2 H2 H02 q R2 (x1.trans x2) (s1.trans s2) (by rw [← e2]; exact .int n)⟩
        unfold L2.atI at e1 ⊢
        rw [List.length_map]
        cases q : ixN ns.length i with
        | none => rw [q] at e1; cases e1
        | some j =>
          rw [q] at e1
          show (ns.map V.int)[j]? = _
          rw [List.getElem?_map]
          have e1 : ns[j]? = some n := e1
          rw [e1]
          rfl
      | non => cases hi
      | bl => cases hi
      | int => cases hi
      | str => cases hi
      | ins _ _ => cases hi
      | adr => cases hi
      | ty => cases hi
      | err0 => cases hi
      | err _ _ => cases hi
    | ptr j =>
      simp only [Itm] at hi
      split at hi
      · rename_i xs hj
        obtain ⟨ad, ha, hn, vs, he, rr⟩ := R2.at hj
        obtain ⟨a', ha', rfl⟩ := r1'
        have : a' = ad := Option.some.inj (ha'.symm.trans ha)
        subst this
        obtain ⟨v, hv, rv⟩ := rr.atI hi
        exact .inl ⟨_, _, i, v, rfl, rfl, .inl (.inl he), hv, kk v A2 H2 H02 q R2 (x1.trans x2) (s1.trans s2) rv⟩
      · cases hi)
def cutL {α : Type} (xs : List α) (lo hi : Option Int) : List α := (xs.drop (HT.sIx xs.length 0 lo)).take (HT.sIx xs.length xs.length hi - HT.sIx xs.length 0 lo)
theorem Reps.cut {K : PySem.W.Frag} {H : Hp} {vs : List V} {xs : List D} (h : Reps K H vs xs) (lo hi : Option Int) : Reps K H (cutV vs lo hi) (cutL xs lo hi) := by
  unfold cutV cutL
  rw [h.length]
  exact (h.drop _).take _
abbrev OK := Option Int → List Ob → Prop
def wpP (X : Cx) (e : Option Expr) : TO := fun σ H Q => ∀ (pins : List (Addr × Obj)) (s : Shared), Inv X pins σ H s → wpAny (model X.prog X.w) X.A (evalPart e X.env) (fun u s' => ∃ o H', Inv X pins σ H' s' ∧ IsPart u o ∧ Q o H') X.xe s
theorem po_wp {e : Option Expr} : PO X e (wpP X e) := ⟨fun pins s _ _ _ I h => h pins s I⟩
theorem wpP_of {e : Option Expr} {t : TO} {σ : St} {H : Hp} {Q : Option Int → Hp → Prop} (h : PO X e t) (q : t σ H Q) : wpP X e σ H Q := fun pins s I => h.run pins s σ H Q I q
def PtW (X : Cx) (G : Ent) (e : Option Expr) (sl : Sls) (st : List Ob) (Θ : OK) : Prop :=
  ∀ A σ H H0, RS X.K G A σ H H0 sl st → ∀ Q : Option Int → Hp → Prop, (∀ i st' A' H' H0', Θ i st' → RS X.K G A' σ H' H0' sl st' → Ext A A' → Same H0 H0' → Q i H') → wpP X e σ H Q
theorem pt_none {Θ : OK} (h : Θ none st) : PtW X G none sl st Θ := fun A σ H H0 R Q k => wpP_of po_none (show Q none H from k none st A H H0 h R (Ext.refl _) (Same.refl _))
theorem pt_some {Θ : OK} (h : EW X G e sl st fun w st1 => ∃ i, w = .dat (.int i) ∧ Θ (some i) st1) : PtW X G (some e) sl st Θ := fun A σ H H0 R Q k => wpP_of (po_some pe_wp) (h A σ H H0 R _ fun w st1 v A1 H1 H01 ⟨i, ew, q⟩ R1 x1 s1 r1 => by
  subst ew
  cases r1
  exact ⟨i, rfl, k (some i) st1 A1 H1 H01 q R1 x1 s1⟩)
theorem ew_slice {lo hi : Option Expr} {p2 : Pos} (h : EW X G e sl st fun w st1 => PtW X G lo sl st1 fun l st2 => PtW X G hi sl st2 fun u st3 => ∃ xs, w = .dat (.lst xs) ∧ Φ (.dat (.lst (cutL xs l u))) st3) : EW X G (.Subscript e (.Slice lo hi none p2) pos) sl st Φ := fun A σ H H0 R Q k =>
  wpE_of (pe_slice sl_list pe_wp po_wp po_wp) (h A σ H H0 R _ fun w st1 v A1 H1 H01 q R1 x1 s1 r1 => q A1 σ H1 H01 R1 _ fun l st2 A2 H2 H02 q2 R2 x2 s2 => q2 A2 σ H2 H02 R2 _ fun u st3 A3 H3 H03 ⟨xs, ew, q3⟩ R3 x3 s3 => by
    subst ew
    cases r1.mono (x2.trans x3) (s2.trans s3) with
    | @lst ad vs _ eh rr =>
      refine ⟨ad, vs, rfl, .inl (.inl (R3.hs.le _ _ eh)), fun pp hp => ?_⟩
      have s0 := same_upd (o := .lst (cutV vs l u)) (R3.hs.free0 hp)
      exact k _ st3 _ A3 _ _ q3 (R3.alloc hp) (x1.trans (x2.trans x3)) ((s1.trans (s2.trans s3)).trans s0) (.lst upd_same ((rr.cut l u).mono s0)))
theorem ew_sliceM {lo hi : Option Expr} {p2 : Pos} (h : EW X G e sl st fun w st1 => PtW X G lo sl st1 fun l st2 => PtW X G hi sl st2 fun u st3 => ∃ j xs, w = .ptr j ∧ st3[j]? = some (.lst (xs.map W.dat)) ∧ Φ (.dat (.lst (cutL xs l u))) st3) : EW X G (.Subscript e (.Slice lo hi none p2) pos) sl st Φ := fun A σ H H0 R Q k =>
  wpE_of (pe_slice sl_list pe_wp po_wp po_wp) (h A σ H H0 R _ fun w st1 v A1 H1 H01 q R1 x1 s1 r1 => q A1 σ H1 H01 R1 _ fun l st2 A2 H2 H02 q2 R2 x2 s2 => q2 A2 σ H2 H02 R2 _ fun u st3 A3 H3 H03 ⟨j, xs, ew, hj, q3⟩ R3 x3 s3 => by
    subst ew
    obtain ⟨ad, ha, hn, vs, he, rr⟩ := R3.at hj
    obtain ⟨a', ha', rfl⟩ := r1.mono (x2.trans x3) (s2.trans s3)
    have : a' = ad := Option.some.inj (ha'.symm.trans ha)
    subst this
    refine ⟨a', vs, rfl, .inl (.inl he), fun pp hp => ?_⟩
    have s0 := same_upd (o := .lst (cutV vs l u)) (R3.hs.free0 hp)
    exact k _ st3 _ A3 _ _ q3 (R3.alloc hp) (x1.trans (x2.trans x3)) ((s1.trans (s2.trans s3)).trans s0) (.lst upd_same ((rr.dats.cut l u).mono s0)))
theorem ew_append (h : EW X G o sl st fun w1 st1 => ∃ j ys, w1 = .ptr j ∧ st1[j]? = some (.lst ys) ∧ EW X G e sl st1 fun w2 st2 => ∃ xs, st2[j]? = some (.lst xs) ∧ xs.length < sizeLine ∧ Φ (.dat .non) (st2.set j (.lst (xs ++ [w2]))))
    (hbase : attributeBase o "append" X.env (eval o X.env) = eval o X.env := by rfl)
    (hfew : ((backTo cpos (starEach (e :: []) X.env)).all (fun x => !x.1) && (backToKw cpos (keywordEach [] X.env)).all (fun x => x.1.isSome)
      && decide ((e :: ([] : List Expr)).length + ([] : List Keyword).length + (if ([] : List Keyword).isEmpty then 0 else 1) < 30)) = true := by rfl)
    (hline : (apos.endLine == cpos.line) = true := by rfl) (hs : starEach (e :: []) X.env = (false, eval e X.env) :: starEach [] X.env := by rfl) (hplain : (backTo cpos (starEach [] X.env)).any (·.1) = false := by rfl) : EW X G (.Call (.Attribute o "append" apos) [e] [] cpos) sl st Φ := fun A σ H H0 R Q k =>
  wpE_of (pe_bm PySem.F.plainAttrs_list PySem.F.slot_list_append PySem.F.type_list_append mt_append pe_wp (pa_cons pe_wp pa_nil hs) hbase hfew hline hs hplain) (h A σ H H0 R _ fun w1 st1 v1 A1 H1 H01 ⟨j, ys, ew, hy, q⟩ R1 x1 s1 r1 => by
    subst ew
    obtain ⟨ad, ha, h0, vs, he, rr⟩ := R1.at hy
    obtain ⟨a', ha', rfl⟩ := r1
    have : a' = ad := Option.some.inj (ha'.symm.trans ha)
    subst this
    refine ⟨.inl ⟨rfl, vs, .inl (.inl he)⟩, q A1 σ H1 H01 R1 _ fun w2 st2 v2 A2 H2 H02 ⟨xs, hx, hz, q2⟩ R2 x2 s2 r2 => ?_⟩
    obtain ⟨ad2, ha2, h02, vs2, he2, rr2⟩ := R2.at hx
    have : ad2 = a' := Option.some.inj (ha2.symm.trans (x2.get ha))
    subst this
    refine ⟨_, vs2, v2, rfl, rfl, he2, by rw [rr2.length]; exact hz, ?_⟩
    exact k _ _ _ A2 _ H02 q2 (R2.write ha2 hx h02 ⟨h02, _, upd_same, rr2.append ⟨r2, trivial⟩⟩) (x1.trans x2) (s1.trans s2) .non)
theorem ew_fld {f : Str} (h : EW X G e sl st fun w st1 => ∃ C fs d, w = .dat (.ins C fs) ∧ Cls X.K C ∧ NoAttr X.K C f ∧ fs.lookup f = some d ∧ Φ (.dat d) st1) (hb : attributeBase e f X.env (eval e X.env) = eval e X.env := by rfl) : EW X G (.Attribute e f pos) sl st Φ := fun A σ H H0 R Q k => by
  refine wpE_of (pe_fld pe_wp hb) (h A σ H H0 R _ fun w st1 v A1 H1 H01 ⟨C, fs, d, ew, hc, hn, hl, q⟩ R1 x1 s1 r1 => ?_)
  subst ew
  cases r1 with
  | ins eh rf =>
    obtain ⟨v, hv, rv⟩ := rf.lookup hl
    exact ⟨_, _, _, _, v, rfl, R1.hs.le _ _ eh, hc, hn, hv, k _ st1 v A1 H1 H01 q R1 x1 s1 rv⟩
theorem RepWF.lookup {K : PySem.W.Frag} {A : List Addr} {H : Hp} {f : Str} : ∀ {vs : List (Str × V)} {fs : List (Str × W)} {d : W}, RepWF K A H vs fs → fs.lookup f = some d → ∃ v, vs.lookup f = some v ∧ RepW K A H v d
  | [], [], _, _, h => by simp [List.lookup] at h
  | (g, v) :: vs, (g', w) :: fs, d, r, h => by
    obtain ⟨r1, r2, r3⟩ := r
    simp only at r1
    subst r1
    simp only [List.lookup] at h ⊢
    cases e : f == g with
    | true => rw [e] at h; cases h; exact ⟨_, rfl, r2⟩
    | false => rw [e] at h; exact RepWF.lookup r3 h
theorem ew_fldM {f : Str} (h : EW X G e sl st fun w st1 => ∃ j C fs w', w = .ptr j ∧ st1[j]? = some (.ins C fs) ∧ Cls X.K C ∧ NoAttr X.K C f ∧ fs.lookup f = some w' ∧ Φ w' st1) (hb : attributeBase e f X.env (eval e X.env) = eval e X.env := by rfl) : EW X G (.Attribute e f pos) sl st Φ := fun A σ H H0 R Q k => by
  refine wpE_of (pe_fld pe_wp hb) (h A σ H H0 R _ fun w st1 v A1 H1 H01 ⟨j, C, fs, w', ew, hj, hc, hn, hl, q⟩ R1 x1 s1 r1 => ?_)
  subst ew
  obtain ⟨ad, ha, h0, dx, vs, he, rf⟩ := R1.at hj
  obtain ⟨a', ha', rfl⟩ := r1
  have : a' = ad := Option.some.inj (ha'.symm.trans ha)
  subst this
  obtain ⟨v, hv, rv⟩ := rf.lookup hl
  exact ⟨_, _, _, _, v, rfl, he, hc, hn, hv, k _ st1 v A1 H1 H01 q R1 x1 s1 rv⟩
theorem ew_blt {x : Str} {id : String} (hv : bootBuiltins x = some (.builtin id)) (hm : X.mg x = none) (h : AW X G (e :: es) sl st fun ws st1 => CW X G (.builtin id) sl st1 ws Φ) (hg : Gl X x := by rfl) (hn : x ≠ "__name__" := by decide) (hdb : (x == ("__debug__" : Str)) = false := by decide)
    (he : starEach (e :: es) X.env = (false, eval e X.env) :: starEach es X.env := by rfl) (hpl : (backTo pos (starEach es X.env)).any (·.1) = false := by rfl) : EW X G (.Call (.Name x p) (e :: es) [] pos) sl st Φ := fun A σ H H0 R Q k =>
  wpE_of (pe_callB call_wp hg hm hv pa_wp hn hdb he hpl) (h A σ H H0 R _ fun ws st1 vs A1 H1 H01 q R1 x1 s1 r1 => q A1 σ H1 H01 R1 vs r1 Q (k.mv x1 s1))
theorem ew_bty {x : Str} {T : String} (hv : bootBuiltins x = some (.type T)) (hm : X.mg x = none) (h : AW X G (e :: es) sl st fun ws st1 => CW X G (.type T) sl st1 ws Φ) (hg : Gl X x := by rfl) (hn : x ≠ "__name__" := by decide) (hdb : (x == ("__debug__" : Str)) = false := by decide)
    (he : starEach (e :: es) X.env = (false, eval e X.env) :: starEach es X.env := by rfl) (hpl : (backTo pos (starEach es X.env)).any (·.1) = false := by rfl) : EW X G (.Call (.Name x p) (e :: es) [] pos) sl st Φ := fun A σ H H0 R Q k =>
  wpE_of (pe_callTy call_wp hg hm hv pa_wp hn hdb he hpl) (h A σ H H0 R _ fun ws st1 vs A1 H1 H01 q R1 x1 s1 r1 => q A1 σ H1 H01 R1 vs r1 Q (k.mv x1 s1))
section
variable {f : Value} {ws : List W}
theorem cw_of {r : List V → Hp → VK → Prop} (hc : CallR X f r) (h : ∀ A σ H H0, RS X.K G A σ H H0 sl st → ∀ vs, RepWs X.K A H0 vs ws → ∀ Q : VK, Ct X.K G A σ H0 sl Φ Q → r vs H Q) : CW X G f sl st ws Φ := fun A σ H H0 R vs rw Q k => wpC_of hc (h A σ H H0 R vs rw Q k)
theorem rep1 {K : PySem.W.Frag} {A : List Addr} {H : Hp} {vs : List V} {w : W} (h : RepWs K A H vs [w]) : ∃ v, vs = [v] ∧ RepW K A H v w := by
  match vs, h with
  | [v], h => exact ⟨v, rfl, h.1⟩
theorem rep2 {K : PySem.W.Frag} {A : List Addr} {H : Hp} {vs : List V} {w1 w2 : W} (h : RepWs K A H vs [w1, w2]) : ∃ v1 v2, vs = [v1, v2] ∧ RepW K A H v1 w1 ∧ RepW K A H v2 w2 := by
  match vs, h with
  | [v1, v2], h => exact ⟨v1, v2, rfl, h.1, h.2.1⟩
def Len (st : List Ob) : W → Option Nat
  | .dat (.lst xs) => some xs.length
  | .dat (.tup xs) => some xs.length
  | .dat (.scr ns) => some ns.length
  | .dat (.str y) => if y.length ≤ sizeLine then some y.length else none
  | .ptr j => match st[j]? with
    | some (.lst xs) => some xs.length
    | _ => none
  | _ => none
theorem c_len {w : W} {n : Nat} (hl : Len st w = some n) (h : Φ (.dat (.int (n : Int))) st) : CW X G (.builtin "len") sl st [w] Φ := cw_of call_len fun A σ H H0 R vs rw Q k => by
  obtain ⟨v, rfl, r⟩ := rep1 rw
  refine ⟨v, n, rfl, ?_, k _ st _ A H H0 h R (Ext.refl _) (Same.refl _) (.int _)⟩
  cases w with
  | dat d =>
    cases r with
    | lst eh rr => cases hl; exact .inl ⟨_, .inl (.inl (R.hs.le _ _ eh)), rr.length.symm⟩
    | tup eh rr => cases hl; exact .inr ⟨_, .inl (.inl (R.hs.le _ _ eh)), rr.length.symm⟩
    | scr eh => cases hl; exact .inl ⟨_, R.hs.le.seq eh, by simp⟩
    | str x =>
      simp only [Len] at hl
      split at hl
      · cases hl; exact ⟨by assumption, rfl⟩
      · cases hl
    | non => cases hl
    | bl => cases hl
    | int => cases hl
    | ins _ _ => cases hl
    | adr => cases hl
    | ty => cases hl
    | err0 => cases hl
    | err _ _ => cases hl
  | ptr j =>
    simp only [Len] at hl
    split at hl
    · rename_i xs hj
      cases hl
      obtain ⟨ad, ha, hn, us, he, rr⟩ := R.at hj
      obtain ⟨a', ha', rfl⟩ := r
      have : a' = ad := Option.some.inj (ha'.symm.trans ha)
      subst this
      exact .inl ⟨_, .inl (.inl he), rr.length.symm⟩
    · cases hl
theorem c_abs {i : Int} (h : Φ (.dat (.int (if i < 0 then -i else i))) st) : CW X G (.builtin "abs") sl st [.dat (.int i)] Φ := cw_of call_abs fun A σ H H0 R vs rw Q k => by
  obtain ⟨v, rfl, r⟩ := rep1 rw
  cases r
  exact ⟨i, rfl, k _ st _ A H H0 h R (Ext.refl _) (Same.refl _) (.int _)⟩
theorem c_int {i : Int} (h : Φ (.dat (.int i)) st) : CW X G (.type "int") sl st [.dat (.int i)] Φ := cw_of call_int1 fun A σ H H0 R vs rw Q k => by
  obtain ⟨v, rfl, r⟩ := rep1 rw
  cases r
  exact .inl ⟨i, rfl, k _ st _ A H H0 h R (Ext.refl _) (Same.refl _) (.int _)⟩
theorem c_max {i j : Int} (hc : X.calm = true) (h : Φ (.dat (.int (if j > i then j else i))) st) : CW X G (.builtin "max") sl st [.dat (.int i), .dat (.int j)] Φ := cw_of (call_max2 hc) fun A σ H H0 R vs rw Q k => by
  obtain ⟨v, u, rfl, r, r2⟩ := rep2 rw
  cases r
  cases r2
  exact ⟨i, j, rfl, k _ st _ A H H0 h R (Ext.refl _) (Same.refl _) (.int _)⟩
theorem c_min {i j : Int} (hc : X.calm = true) (h : Φ (.dat (.int (if j < i then j else i))) st) : CW X G (.builtin "min") sl st [.dat (.int i), .dat (.int j)] Φ := cw_of (call_min2 hc) fun A σ H H0 R vs rw Q k => by
  obtain ⟨v, u, rfl, r, r2⟩ := rep2 rw
  cases r
  cases r2
  exact ⟨i, j, rfl, k _ st _ A H H0 h R (Ext.refl _) (Same.refl _) (.int _)⟩
theorem reps_bl {K : PySem.W.Frag} {H : Hp} : ∀ {vs : List V} {bs : List Bool}, Reps K H vs (bs.map D.bl) → vs = bs.map V.bl
  | _, [], .nil => rfl
  | _, b :: bs, .cons r rr => by
    cases r
    rw [reps_bl rr]
    rfl
theorem reps_int {K : PySem.W.Frag} {H : Hp} : ∀ {vs : List V} {bs : List Int}, Reps K H vs (bs.map D.int) → vs = bs.map V.int
  | _, [], .nil => rfl
  | _, b :: bs, .cons r rr => by
    cases r
    rw [reps_int rr]
    rfl
theorem c_all {bs : List Bool} (hc : X.calm = true) (h : Φ (.dat (.bl (bs.all id))) st) : CW X G (.builtin "all") sl st [.dat (.lst (bs.map D.bl))] Φ := cw_of (cr_all hc) fun A σ H H0 R vs rw Q k => by
  obtain ⟨v, rfl, r⟩ := rep1 rw
  cases r with
  | lst eh rr =>
    have := reps_bl rr
    subst this
    exact ⟨_, bs, rfl, .inl (.inl (R.hs.le _ _ eh)), k _ st _ A H H0 h R (Ext.refl _) (Same.refl _) (.bl _)⟩
theorem c_any {bs : List Bool} (hc : X.calm = true) (h : Φ (.dat (.bl (bs.any id))) st) : CW X G (.builtin "any") sl st [.dat (.lst (bs.map D.bl))] Φ := cw_of (cr_any hc) fun A σ H H0 R vs rw Q k => by
  obtain ⟨v, rfl, r⟩ := rep1 rw
  cases r with
  | lst eh rr =>
    have := reps_bl rr
    subst this
    exact ⟨_, bs, rfl, .inl (.inl (R.hs.le _ _ eh)), k _ st _ A H H0 h R (Ext.refl _) (Same.refl _) (.bl _)⟩
theorem c_tuple {xs : List D} (h : Φ (.dat (.tup xs)) st) : CW X G (.type "tuple") sl st [.dat (.lst xs)] Φ := cw_of call_tuple_of fun A σ H H0 R vs rw Q k => by
  obtain ⟨v, rfl, r⟩ := rep1 rw
  cases r with
  | @lst ad us _ eh rr =>
    refine ⟨ad, us, rfl, .inl ⟨.inl (.inl (R.hs.le _ _ eh)), fun l hl => ?_⟩⟩
    have s0 := same_upd (o := .tup us) (R.hs.free0 hl)
    exact k _ st _ A _ _ h (R.alloc hl) (Ext.refl _) s0 (.tup upd_same (rr.mono s0))
theorem c_tupleM {j : Nat} {xs : List D} (hj : st[j]? = some (.lst (xs.map W.dat))) (h : Φ (.dat (.tup xs)) st) : CW X G (.type "tuple") sl st [.ptr j] Φ := cw_of call_tuple_of fun A σ H H0 R vs rw Q k => by
  obtain ⟨v, rfl, r⟩ := rep1 rw
  obtain ⟨ad, ha, hn, us, he, rr⟩ := R.at hj
  obtain ⟨a', ha', rfl⟩ := r
  have : a' = ad := Option.some.inj (ha'.symm.trans ha)
  subst this
  refine ⟨_, us, rfl, .inl ⟨.inl (.inl he), fun l hl => ?_⟩⟩
  have s0 := same_upd (o := .tup us) (R.hs.free0 hl)
  exact k _ st _ A _ _ h (R.alloc hl) (Ext.refl _) s0 (.tup upd_same (rr.dats.mono s0))
def KCls (K : PySem.W.Frag) (C : Addr) : Prop := ∀ (H : Hp) (a dx : Addr) (fs : List (Str × V)), H a = some (.ins C dx fs) → TyX K H (.ref a) (.ref C)
inductive TyD (K : PySem.W.Frag) : D → Value → Prop
  | non : TyD K .non (.type "NoneType")
  | bl (b : Bool) : TyD K (.bl b) (.type "bool")
  | int (i : Int) : TyD K (.int i) (.type "int")
  | str (x : Str) : TyD K (.str x) (.type "str")
  | lst (xs : List D) : TyD K (.lst xs) (.type "list")
  | tup (xs : List D) : TyD K (.tup xs) (.type "tuple")
  | ins (C : Addr) (fs : List (Str × D)) : KCls K C → TyD K (.ins C fs) (.ref C)
theorem TyD.of {K : PySem.W.Frag} {H : Hp} {v : V} {d : D} {t : Value} (h : TyD K d t) (r : Rep K H v d) : TyX K H v t := by
  cases h with
  | non => cases r; exact .base .non
  | bl b => cases r; exact .base (.bl b)
  | int i => cases r; exact .base (.int i)
  | str x => cases r; exact .base (.str x)
  | lst xs => cases r with | lst e _ => exact .base (.lst e)
  | tup xs => cases r with | tup e _ => exact .base (.tup e)
  | ins C fs k => cases r with | ins e _ => exact k _ _ _ _ e
theorem tyX_mono {K : PySem.W.Frag} {H H' : Hp} {v : V} {t : Value} (h : TyX K H v t) (s : Same H H') : TyX K H' v t := by
  cases h with
  | base b =>
    refine .base ?_
    cases b with
    | non => exact .non
    | bl b => exact .bl b
    | int b => exact .int b
    | str b => exact .str b
    | flt b => exact .flt b
    | lst e => exact .lst (s _ _ e)
    | frz e => exact .frz (s _ _ e)
    | tup e => exact .tup (s _ _ e)
    | dK e => exact .dK (s _ _ e)
    | dT e => exact .dT (s _ _ e)
    | ins e a b c d f => exact .ins (s _ _ e) a b c d f
  | byt b => exact .byt b
  | set e => exact .set (s _ _ e)
  | kList e c => exact .kList e c
  | kTuple e c => exact .kTuple e c
  | kDict e c => exact .kDict e c
  | fTuple e => exact .fTuple (s _ _ e)
  | fDict e => exact .fDict (s _ _ e)
inductive ClsD : D → Value → Prop
  | ty (n : String) : ClsD (.ty n) (.type n)
  | own (C : Addr) : ClsD (.adr C) (.ref C)
theorem ClsD.of {K : PySem.W.Frag} {H : Hp} {v : V} {d : D} {u : Value} (h : ClsD d u) (r : Rep K H v d) : ClsV v u := by
  cases h with
  | ty n => cases r; exact .ty n
  | own C => cases r; exact .own C
inductive ClsDs : List D → List Value → Prop
  | nil : ClsDs [] []
  | cons {d : D} {u : Value} {ds : List D} {us : List Value} : ClsD d u → ClsDs ds us → ClsDs (d :: ds) (u :: us)
theorem ClsDs.of {K : PySem.W.Frag} {H : Hp} : ∀ {vs : List V} {ds : List D} {us : List Value}, ClsDs ds us → Reps K H vs ds → Paired ClsV vs us
  | _, _, _, .nil, .nil => .nil
  | _, _, _, .cons a b, .cons r rr => .cons (a.of r) (b.of rr)
theorem c_isi {d c : D} {t u : Value} {b : Bool} (ty : TyD X.K d t) (cl : ClsD c u) (hk : PySem.W.kitOne X.K t u = some b) (h : Φ (.dat (.bl b)) st) : CW X G (.builtin "isinstance") sl st [.dat d, .dat c] Φ := cw_of call_isi fun A σ H H0 R vs rw Q k => by
  obtain ⟨v, u', rfl, r, r2⟩ := rep2 rw
  exact ⟨v, u', t, u, b, rfl, cl.of r2, tyX_mono (ty.of r) R.hs.le, hk, k _ st _ A H H0 h R (Ext.refl _) (Same.refl _) (.bl _)⟩
theorem c_isiT {d : D} {cs : List D} {t : Value} {us : List Value} {b : Bool} (ty : TyD X.K d t) (cl : ClsDs cs us) (hk : PySem.W.kitAny X.K t us = some b) (h : Φ (.dat (.bl b)) st) : CW X G (.builtin "isinstance") sl st [.dat d, .dat (.tup cs)] Φ := cw_of call_isiT fun A σ H H0 R vs rw Q k => by
  obtain ⟨v, u', rfl, r, r2⟩ := rep2 rw
  cases r2 with
  | tup e rr => exact ⟨v, _, _, t, us, b, rfl, R.hs.le _ _ e, cl.of rr, tyX_mono (ty.of r) R.hs.le, hk, k _ st _ A H H0 h R (Ext.refl _) (Same.refl _) (.bl _)⟩
end
end
end Dn
namespace Dn
open PySem PySem.Spec L2 StX ClX
open PyProof.Rows hiding St
def wpI (X : Cx) (tg iter : Expr) : TI := fun σ H R => ∀ (pins : List (Addr × Obj)) (s : Shared), Inv X pins σ H s → wpAny (model X.prog X.w) X.A (eval iter X.env) (fun v s1 => wpAny (model X.prog X.w) X.A (pyIter v) (PIE X pins σ tg R) X.xe s1) X.xe s
theorem pi_wp {X : Cx} {tg iter : Expr} : PI X tg iter (wpI X tg iter) := ⟨fun pins s _ _ _ I h => h pins s I⟩
theorem wpI_of {X : Cx} {tg iter : Expr} {wi : TI} {σ : St} {H : Hp} {R : It → Hp → Prop} (h : PI X tg iter wi) (q : wi σ H R) : wpI X tg iter σ H R := fun pins s I => h.run pins s σ H R I q
def Items (K : PySem.W.Frag) (J : It) (ws : List W) (A1 : List Addr) (H01 : Hp) : Prop :=
  ∀ i G' A' σ' H' H0' sl' st', RS K G' A' σ' H' H0' sl' st' → Ext A1 A' → Same H01 H0' →
    (i < ws.length → J.go i H' ∧ ∀ x H'', J.yld i H' x H'' → ∃ w H0'', ws[i]? = some w ∧ RS K G' A' σ' H'' H0'' sl' st' ∧ Same H0' H0'' ∧ Same H' H'' ∧ RepW K A' H0'' x w) ∧ (i = ws.length → J.stop i H')
abbrev IK := List W → List Ob → Prop
def IWJ (X : Cx) (G : Ent) (tg iter : Expr) (sl : Sls) (st : List Ob) (Θ : IK) : Prop :=
  ∀ A σ H H0, RS X.K G A σ H H0 sl st → ∀ R : It → Hp → Prop, (∀ J ws st1 A1 H1 H01, Θ ws st1 → RS X.K G A1 σ H1 H01 sl st1 → Ext A A1 → Same H0 H01 → Items X.K J ws A1 H01 → R J H1) → wpI X tg iter σ H R
section
variable {X : Cx} {G : Ent} {e a b c o tg iter elt : Expr} {es : List Expr} {sl : Sls} {st : List Ob} {Φ : WK} {Ψ : BK} {Λ : LK} {Θ : IK} {pos p apos cpos : Pos}
theorem items_list {K : PySem.W.Frag} {a : Addr} {vs : List V} {xs : List D} {A1 : List Addr} {H01 : Hp} (he : H01 a = some (.lst vs)) (rr : Reps K H01 vs xs) : Items K (Itl K a) (xs.map W.dat) A1 H01 := fun i G' A' σ' H' H0' sl' st' R x s => by
  have hs : SqL K H' a vs := .inl (.inl (R.hs.le _ _ (s _ _ he)))
  have hl := rr.length
  rw [List.length_map]
  refine ⟨fun hi => ⟨⟨vs, vs[i]'(by omega), hs, List.getElem?_eq_getElem _⟩, fun v H'' y => ?_⟩, fun hi => ⟨vs, hs, by omega⟩⟩
  obtain ⟨e1, y⟩ := y
  subst e1
  obtain ⟨d, hd, rd⟩ := rr.get' (y vs hs)
  exact ⟨.dat d, H0', by rw [List.getElem?_map, hd]; rfl, R, Same.refl _, Same.refl _, rd.mono s⟩
theorem items_tup {K : PySem.W.Frag} {a : Addr} {vs : List V} {xs : List D} {A1 : List Addr} {H01 : Hp} (he : H01 a = some (.tup vs)) (rr : Reps K H01 vs xs) : Items K (Itt K a) (xs.map W.dat) A1 H01 := fun i G' A' σ' H' H0' sl' st' R x s => by
  have hs : SqT K H' a vs := .inl (.inl (R.hs.le _ _ (s _ _ he)))
  have hl := rr.length
  rw [List.length_map]
  refine ⟨fun hi => ⟨⟨vs, vs[i]'(by omega), hs, List.getElem?_eq_getElem _⟩, fun v H'' y => ?_⟩, fun hi => ⟨vs, hs, by omega⟩⟩
  obtain ⟨e1, y⟩ := y
  subst e1
  obtain ⟨d, hd, rd⟩ := rr.get' (y vs hs)
  exact ⟨.dat d, H0', by rw [List.getElem?_map, hd]; rfl, R, Same.refl _, Same.refl _, rd.mono s⟩
def rng (lo : Int) (n : Nat) : List W := (List.range n).map fun (i : Nat) => W.dat (.int (lo + (i : Int)))
theorem rng_length (lo : Int) (n : Nat) : (rng lo n).length = n := by simp [rng]
theorem rng_get {lo : Int} {n i : Nat} (h : i < n) : (rng lo n)[i]? = some (W.dat (.int (lo + i))) := by
  unfold rng
  rw [List.getElem?_map, List.getElem?_range h]
  rfl
theorem items_range {K : PySem.W.Frag} {lo : Int} {n : Nat} {A1 : List Addr} {H01 : Hp} : Items K (Itr lo n) (rng lo n) A1 H01 := fun i G' A' σ' H' H0' sl' st' R x s => by
  rw [rng_length]
  refine ⟨fun hi => ⟨hi, fun v H'' y => ?_⟩, fun hi => Nat.le_of_eq hi.symm⟩
  obtain ⟨e1, y⟩ := y
  subst e1 y
  exact ⟨_, H0', rng_get hi, R, Same.refl _, Same.refl _, .int _⟩
def enm (xs : List D) : List W := xs.zipIdx.map fun q => W.dat (.tup [.int (q.2 : Int), q.1])
theorem enm_length (xs : List D) : (enm xs).length = xs.length := by simp [enm]
theorem enm_get {xs : List D} {i : Nat} {d : D} (h : xs[i]? = some d) : (enm xs)[i]? = some (W.dat (.tup [.int (i : Int), d])) := by
  unfold enm
  rw [List.getElem?_map, List.getElem?_zipIdx, h]
  simp
theorem items_enum {K : PySem.W.Frag} {a : Addr} {vs : List V} {xs : List D} {A1 : List Addr} {H01 : Hp} (he : H01 a = some (.lst vs)) (rr : Reps K H01 vs xs) : Items K (Ite K a) (enm xs) A1 H01 := fun i G' A' σ' H' H0' sl' st' R x s => by
  have hs : SqL K H' a vs := .inl (.inl (R.hs.le _ _ (s _ _ he)))
  have hl := rr.length
  rw [enm_length]
  refine ⟨fun hi => ⟨⟨vs, vs[i]'(by omega), hs, List.getElem?_eq_getElem _⟩, fun v H'' y => ?_⟩, fun hi => ⟨vs, hs, by omega⟩⟩
  obtain ⟨T, x, ev, hT, eH, y⟩ := y
  subst ev eH
  obtain ⟨d, hd, rd⟩ := rr.get' (y vs hs)
  have s0 := same_upd (o := .tup [V.int ((i : Nat) : Int), x]) (R.hs.free0 hT)
  exact ⟨_, _, enm_get hd, R.alloc hT, s0, same_upd hT, .tup upd_same (.cons (.int _) (.cons ((rd.mono s).mono s0) .nil))⟩
theorem iw_list (h : EW X G e sl st fun w st1 => (∃ xs, w = .dat (.lst xs) ∧ Θ (xs.map W.dat) st1)) : IWJ X G tg e sl st Θ := fun A σ H H0 R Rr k => wpI_of (pi_list pe_wp) (h A σ H H0 R _ fun w st1 v A1 H1 H01 ⟨xs, ew, q⟩ R1 x1 s1 r1 => by
  subst ew
  cases r1 with
  | lst e rr => exact ⟨_, rfl, ⟨_, .inl (.inl (R1.hs.le _ _ e))⟩, k _ _ st1 A1 H1 H01 q R1 x1 s1 (items_list e rr)⟩)
theorem iw_tup (h : EW X G e sl st fun w st1 => (∃ xs, w = .dat (.tup xs) ∧ Θ (xs.map W.dat) st1)) : IWJ X G tg e sl st Θ := fun A σ H H0 R Rr k => wpI_of (pi_tup pe_wp) (h A σ H H0 R _ fun w st1 v A1 H1 H01 ⟨xs, ew, q⟩ R1 x1 s1 r1 => by
  subst ew
  cases r1 with
  | tup e rr => exact ⟨_, rfl, ⟨_, .inl (.inl (R1.hs.le _ _ e))⟩, k _ _ st1 A1 H1 H01 q R1 x1 s1 (items_tup e rr)⟩)
theorem iw_range1 (hm : X.mg "range" = none) (h : AW X G [a] sl st fun ws st1 => ∃ j : Int, ws = [.dat (.int j)] ∧ -(2 ^ 62) ≤ j ∧ j < 2 ^ 62 ∧ Θ (rng 0 j.toNat) st1) (hg : Gl X "range" := by rfl) (hs : starEach [a] X.env = [(false, eval a X.env)] := by rfl) : IWJ X G tg (.Call (.Name "range" p) [a] [] pos) sl st Θ := fun A σ H H0 R Rr k =>
  wpI_of (pi_range1 hg hm pa_wp hs) (h A σ H H0 R _ fun ws st1 vs A1 H1 H01 ⟨j, ew, b1, b2, q⟩ R1 x1 s1 r1 => by
    subst ew
    obtain ⟨v, rfl, r⟩ := rep1 r1
    cases r
    exact ⟨j, rfl, b1, b2, k _ _ st1 A1 H1 H01 q R1 x1 s1 items_range⟩)
theorem iw_range2 (hm : X.mg "range" = none) (h : AW X G [a, b] sl st fun ws st1 => ∃ i j : Int, ws = [.dat (.int i), .dat (.int j)] ∧ (-(2 ^ 62) ≤ i ∧ i < 2 ^ 62 ∧ -(2 ^ 62) ≤ j ∧ j < 2 ^ 62) ∧ Θ (rng i (j - i).toNat) st1) (hg : Gl X "range" := by rfl) (hs : starEach [a, b] X.env = [(false, eval a X.env), (false, eval b X.env)] := by rfl) (hs2 : starEach [b] X.env = [(false, eval b X.env)] := by rfl) :
    IWJ X G tg (.Call (.Name "range" p) [a, b] [] pos) sl st Θ := fun A σ H H0 R Rr k =>
  wpI_of (pi_range2 hg hm pa_wp hs hs2) (h A σ H H0 R _ fun ws st1 vs A1 H1 H01 ⟨i, j, ew, bb, q⟩ R1 x1 s1 r1 => by
    subst ew
    obtain ⟨v, u, rfl, r, r'⟩ := rep2 r1
    cases r
    cases r'
    exact ⟨i, j, rfl, bb, k _ _ st1 A1 H1 H01 q R1 x1 s1 items_range⟩)
theorem iw_enum {elts : List Expr} {kk : Nat} {tpos : Pos} (hm : X.mg "enumerate" = none) (h : AW X G [e] sl st fun ws st1 => ∃ xs, ws = [.dat (.lst xs)] ∧ Θ (enm xs) st1) (hg : Gl X "enumerate" := by rfl) (hs : starEach [e] X.env = [(false, eval e X.env)] := by rfl) :
    IWJ X G (.Tuple elts kk tpos) (.Call (.Name "enumerate" p) [e] [] pos) sl st Θ := fun A σ H H0 R Rr k =>
  wpI_of (pi_enum hg hm pa_wp hs) (h A σ H H0 R _ fun ws st1 vs A1 H1 H01 ⟨xs, ew, q⟩ R1 x1 s1 r1 => by
    subst ew
    obtain ⟨v, rfl, r⟩ := rep1 r1
    cases r with
    | lst e rr => exact ⟨_, _, rfl, .inl (.inl (R1.hs.le _ _ e)), k _ _ st1 A1 H1 H01 q R1 x1 s1 (items_enum e rr)⟩)
abbrev GK := Sls → List Ob → Prop
def wpG (X : Cx) (tg : Expr) : TG := fun v σ H Q => ∀ (pins : List (Addr × Obj)) (s : Shared) (u : Value), Inv X pins σ H s → RelV v u →
    wpAny (model X.prog X.w) X.A (assign tg X.env u) (fun _ s' => ∃ σ' H', Inv X pins σ' H' s' ∧ Q σ' H') X.xe s
theorem pg_wp {X : Cx} {tg : Expr} : PG X tg (wpG X tg) := ⟨fun pins s _ _ _ u _ I r h => h pins s u I r⟩
theorem wpG_of {X : Cx} {tg : Expr} {g : TG} {v : V} {σ : St} {H : Hp} {Q : St → Hp → Prop} (h : PG X tg g) (q : g v σ H Q) : wpG X tg v σ H Q := fun pins s u I r => h.run pins s σ H v u Q I r q
def wpGs (X : Cx) (ts : List Expr) : TGs := fun vs σ H Q => ∀ (pins : List (Addr × Obj)) (s : Shared) (us : List Value), Inv X pins σ H s → Vals vs us →
    wpAny (model X.prog X.w) X.A (assignInOrder ((assignEach ts X.env).map (·.2)) us) (fun _ s' => ∃ σ' H', Inv X pins σ' H' s' ∧ Q σ' H') X.xe s
theorem pgs_wp {X : Cx} {ts : List Expr} : PGs X ts (wpGs X ts) := ⟨fun pins s _ _ _ us _ I r h => h pins s us I r⟩
theorem wpGs_of {X : Cx} {ts : List Expr} {g : TGs} {vs : List V} {σ : St} {H : Hp} {Q : St → Hp → Prop} (h : PGs X ts g) (q : g vs σ H Q) : wpGs X ts vs σ H Q := fun pins s us I r => h.run pins s σ H vs us Q I r q
def CtG (K : PySem.W.Frag) (G : Ent) (A : List Addr) (H0 : Hp) (Γ : GK) (Q : St → Hp → Prop) : Prop := ∀ A' σ' H' H0' sl' st', Γ sl' st' → RS K G A' σ' H' H0' sl' st' → Ext A A' → Same H0 H0' → Q σ' H'
def GW (X : Cx) (G : Ent) (tg : Expr) (w : W) (sl : Sls) (st : List Ob) (Γ : GK) : Prop := ∀ A σ H H0, RS X.K G A σ H H0 sl st → ∀ v, RepW X.K A H0 v w → ∀ Q, CtG X.K G A H0 Γ Q → wpG X tg v σ H Q
def GsW (X : Cx) (G : Ent) (ts : List Expr) (ws : List W) (sl : Sls) (st : List Ob) (Γ : GK) : Prop := ∀ A σ H H0, RS X.K G A σ H H0 sl st → ∀ vs, RepWs X.K A H0 vs ws → ∀ Q, CtG X.K G A H0 Γ Q → wpGs X ts vs σ H Q
theorem RS.set {K : PySem.W.Frag} {A : List Addr} {σ : St} {H H0 : Hp} (R : RS K G A σ H H0 sl st) {v : V} {w : W} (r : RepW K A H0 v w) (i : Nat) : RS K G A (σ.set i (some v)) H H0 (sl.set i (some w)) st := ⟨R.sl.set r i, R.hs, R.fr⟩
theorem gw_name (i : Nat) {x : Str} {w : W} {Γ : GK} (h : Γ (sl.set i (some w)) st) (hN : X.N.Nodup) (hi : X.N[i]? = some x := by rfl) (hx : Loc X.env.scope x := by first | exact .inl rfl | exact .inr rfl) (hf : X.fn x = true ∨ X.env.scope.names.lookup x = some .local := by first | exact .inl rfl | exact .inr rfl) : GW X G (.Name x pos) w sl st Γ := fun A σ H H0 R v r Q k =>
  wpG_of (pg_name hN hi hx hf) (show Q (σ.set i (some v)) H from k A _ H H0 _ st h (R.set r i) (Ext.refl _) (Same.refl _))
theorem gs_nil {Γ : GK} (h : Γ sl st) : GsW X G [] [] sl st Γ := fun A σ H H0 R vs r Q k => by
  match vs, r with
  | [], _ => exact wpGs_of pgs_nil ⟨rfl, k A σ H H0 sl st h R (Ext.refl _) (Same.refl _)⟩
theorem gs_cons {w : W} {ws : List W} {Γ : GK} (h : GW X G e w sl st fun sl1 st1 => GsW X G es ws sl1 st1 Γ) (hs : (assignEach (e :: es) X.env).map (·.2) = assign e X.env :: (assignEach es X.env).map (·.2) := by rfl) : GsW X G (e :: es) (w :: ws) sl st Γ := fun A σ H H0 R vs r Q k => by
  match vs, r with
  | v :: vs, r => exact wpGs_of (pgs_cons pg_wp pgs_wp hs) ⟨v, vs, rfl, h A σ H H0 R v r.1 _ fun A1 σ1 H1 H01 sl1 st1 q R1 x1 s1 => q A1 σ1 H1 H01 R1 vs (r.2.mono x1 s1) Q fun A2 σ2 H2 H02 sl2 st2 q2 R2 x2 s2 => k A2 σ2 H2 H02 sl2 st2 q2 R2 (x1.trans x2) (s1.trans s2)⟩
theorem gw_tup {kk : Nat} {ds : List D} {Γ : GK} (hc : X.calm = true) (h : GsW X G es (ds.map W.dat) sl st Γ) (hn : (assignEach es X.env).length = ds.length := by rfl) (hst : (assignEach es X.env).findIdx? (·.1) = none := by rfl) : GW X G (.Tuple es kk pos) (.dat (.tup ds)) sl st Γ := fun A σ H H0 R v r Q k => by
  cases r with
  | tup e rr => exact wpG_of (pg_tup hc pgs_wp hn hst) ⟨_, _, rfl, .inl (.inl (R.hs.le _ _ e)), rr.length, h A σ H H0 R _ (RepWs.of rr) Q k⟩
theorem gw_sub {w : W} {Γ : GK} (h : EW X G o sl st fun w1 st1 => EW X G b sl st1 fun w2 st2 => ∃ j i k xs, w1 = .ptr j ∧ w2 = .dat (.int i) ∧ st2[j]? = some (.lst xs) ∧ ixN xs.length i = some k ∧ Γ sl (st2.set j (.lst (xs.set k w))))
    (ha : ∀ v, assign (.Subscript o b pos) X.env v = (do
      let ov ← holding [v] (eval o X.env)
      let iv ← holding [v, ov] (eval b X.env)
      standAt pos
      holding [v, ov, iv] (setItem ov iv v)
      release [v, ov, iv] []) := by intro _; rfl) : GW X G (.Subscript o b pos) w sl st Γ := fun A σ H H0 R v r Q k =>
  wpG_of (pg_sub pe_wp pe_wp set_list ha) (h A σ H H0 R _ fun w1 st1 v1 A1 H1 H01 e1 R1 x1 s1 r1 => e1 A1 σ H1 H01 R1 _ fun w2 st2 v2 A2 H2 H02 ⟨j, i, kx, xs, ew1, ew2, hj, hk, q⟩ R2 x2 s2 r2 => by
    subst ew1 ew2
    cases r2
    obtain ⟨ad, ha2, h0, vs, he, rr⟩ := R2.at hj
    obtain ⟨a', ha', rfl⟩ := r1.mono x2 s2
    have : a' = ad := Option.some.inj (ha'.symm.trans ha2)
    subst this
    refine ⟨a', vs, i, kx, rfl, rfl, he, by rw [rr.length]; exact hk, ?_⟩
    have rv := r.mono (x1.trans x2) (s1.trans s2)
    exact k A2 σ _ H02 sl _ q (R2.write ha2 hj h0 ⟨h0, _, upd_same, rr.set kx rv⟩) (x1.trans x2) (s1.trans s2))
structure KE where
  nx : GK
  rt : WK
  bk : GK := fun _ _ => False
  ct : GK := fun _ _ => False
structure EOk (K : PySem.W.Frag) (G : Ent) (A0 : List Addr) (H00 : Hp) (E : KE) (D : Ends) : Prop where
  nx : ∀ A σ H H0 sl st, E.nx sl st → RS K G A σ H H0 sl st → Ext A0 A → Same H00 H0 → D.nx σ H
  rt : ∀ A σ H H0 sl st w v, E.rt w st → RS K G A σ H H0 sl st → Ext A0 A → Same H00 H0 → RepW K A H0 v w → D.rt v H
  bk : ∀ A σ H H0 sl st, E.bk sl st → RS K G A σ H H0 sl st → Ext A0 A → Same H00 H0 → D.bk σ H
  ct : ∀ A σ H H0 sl st, E.ct sl st → RS K G A σ H H0 sl st → Ext A0 A → Same H00 H0 → D.ct σ H
theorem EOk.mv {K : PySem.W.Frag} {A0 A1 : List Addr} {H00 H01 : Hp} {E : KE} {D : Ends} (k : EOk K G A0 H00 E D) (x : Ext A0 A1) (s : Same H00 H01) : EOk K G A1 H01 E D :=
  ⟨fun A σ H H0 sl st q R x2 s2 => k.nx A σ H H0 sl st q R (x.trans x2) (s.trans s2), fun A σ H H0 sl st w v q R x2 s2 r => k.rt A σ H H0 sl st w v q R (x.trans x2) (s.trans s2) r,
    fun A σ H H0 sl st q R x2 s2 => k.bk A σ H H0 sl st q R (x.trans x2) (s.trans s2), fun A σ H H0 sl st q R x2 s2 => k.ct A σ H H0 sl st q R (x.trans x2) (s.trans s2)⟩
def wpS (X : Cx) (s : Stmt) : TS := fun D σ H => ∀ (pins : List (Addr × Obj)) (sh : Shared), Inv X pins σ H sh → wpAny (model X.prog X.w) X.A (exec s X.env) (SP X pins D) X.xe sh
theorem ps_wp {X : Cx} {s : Stmt} : PS X s (wpS X s) := ⟨fun pins sh _ _ _ I h => h pins sh I⟩
theorem wpS_of {X : Cx} {s : Stmt} {t : TS} {D : Ends} {σ : St} {H : Hp} (h : PS X s t) (q : t D σ H) : wpS X s D σ H := fun pins sh I => h.run pins sh σ H D I q
def wpSs (X : Cx) (ss : List Stmt) : TS := fun D σ H => ∀ (pins : List (Addr × Obj)) (sh : Shared), Inv X pins σ H sh → wpAny (model X.prog X.w) X.A (execs ss X.env) (SP X pins D) X.xe sh
theorem pss_wp {X : Cx} {ss : List Stmt} : PSs X ss (wpSs X ss) := ⟨fun pins sh _ _ _ I h => h pins sh I⟩
theorem wpSs_of {X : Cx} {ss : List Stmt} {t : TS} {D : Ends} {σ : St} {H : Hp} (h : PSs X ss t) (q : t D σ H) : wpSs X ss D σ H := fun pins sh I => h.run pins sh σ H D I q
def SW1 (X : Cx) (G : Ent) (s : Stmt) (sl : Sls) (st : List Ob) (E : KE) : Prop := ∀ A σ H H0, RS X.K G A σ H H0 sl st → ∀ D, EOk X.K G A H0 E D → wpS X s D σ H
def SW (X : Cx) (G : Ent) (ss : List Stmt) (sl : Sls) (st : List Ob) (E : KE) : Prop := ∀ A σ H H0, RS X.K G A σ H H0 sl st → ∀ D, EOk X.K G A H0 E D → wpSs X ss D σ H
variable {s : Stmt} {ss tt : List Stmt} {E : KE}
theorem sw_nil (h : E.nx sl st) : SW X G [] sl st E := fun A σ H H0 R D k => wpSs_of pss_nil (k.nx A σ H H0 sl st h R (Ext.refl _) (Same.refl _))
theorem sw_cons (h : SW1 X G s sl st { E with nx := fun sl1 st1 => SW X G ss sl1 st1 E }) : SW X G (s :: ss) sl st E := fun A σ H H0 R D k =>
  wpSs_of (pss_cons ps_wp pss_wp) (h A σ H H0 R _ ⟨fun A1 σ1 H1 H01 sl1 st1 q R1 x1 s1 => q A1 σ1 H1 H01 R1 D (k.mv x1 s1), k.rt, k.bk, k.ct⟩)
theorem sw_imp {E' : KE} (h : SW X G ss sl st E') (h1 : ∀ sl st, E'.nx sl st → E.nx sl st) (h2 : ∀ w st, E'.rt w st → E.rt w st) (h3 : ∀ sl st, E'.bk sl st → E.bk sl st) (h4 : ∀ sl st, E'.ct sl st → E.ct sl st) : SW X G ss sl st E := fun A σ H H0 R D k =>
  h A σ H H0 R D ⟨fun A1 σ1 H1 H01 sl1 st1 q => k.nx A1 σ1 H1 H01 sl1 st1 (h1 _ _ q), fun A1 σ1 H1 H01 sl1 st1 w v q => k.rt A1 σ1 H1 H01 sl1 st1 w v (h2 _ _ q), fun A1 σ1 H1 H01 sl1 st1 q => k.bk A1 σ1 H1 H01 sl1 st1 (h3 _ _ q), fun A1 σ1 H1 H01 sl1 st1 q => k.ct A1 σ1 H1 H01 sl1 st1 (h4 _ _ q)⟩
theorem sw_set (i : Nat) {x : Str} {pos' : Pos} (h : EW X G e sl st fun w st1 => E.nx (sl.set i (some w)) st1) (hN : X.N.Nodup) (hi : X.N[i]? = some x := by rfl) (hx : Loc X.env.scope x := by first | exact .inl rfl | exact .inr rfl) (hs : swapsWith e (some (.Name x pos')) pos.line X.env = pure false := by rfl)
    (hf : X.fn x = true ∨ X.env.scope.names.lookup x = some .local := by first | exact .inl rfl | exact .inr rfl) : SW1 X G (.Assign [.Name x pos'] e pos) sl st E := fun A σ H H0 R D k =>
  wpS_of (ps_set hN hi hx pe_wp hs hf) (h A σ H H0 R _ fun w st1 v A1 H1 H01 q R1 x1 s1 r1 => k.nx A1 _ H1 H01 _ st1 q (R1.set r1 i) x1 s1)
theorem sw_asg (h : EW X G e sl st fun w st1 => GW X G tg w sl st1 E.nx) (hs : swapsWithSole [tg] e pos.line X.env = pure false := by rfl) (hw : swappedStores [tg] e X.env = pure none := by rfl)
    (h1 : (assignEach [tg] X.env).map (·.2) = [assign tg X.env] := by rfl) : SW1 X G (.Assign [tg] e pos) sl st E := fun A σ H H0 R D k =>
  wpS_of (ps_asg pe_wp pg_wp hs hw h1) (h A σ H H0 R _ fun w st1 v A1 H1 H01 q R1 x1 s1 r1 => q A1 σ H1 H01 R1 v r1 _ fun A2 σ2 H2 H02 sl2 st2 q2 R2 x2 s2 => k.nx A2 σ2 H2 H02 sl2 st2 q2 R2 (x1.trans x2) (s1.trans s2))
theorem sw_par (i j : Nat) {x y : Str} {px py pt : Pos} {kt k2 pt2} (hc : X.calm = true) (h : AW X G [a, b] sl st fun ws st1 => ∃ w1 w2, ws = [w1, w2] ∧ E.nx ((sl.set i (some w1)).set j (some w2)) st1) (hN : X.N.Nodup) (hi : X.N[i]? = some x := by rfl) (hj : X.N[j]? = some y := by rfl) (hij : i ≠ j := by decide)
    (hx : X.env.scope.names.lookup x = some .local := by rfl) (hy : X.env.scope.names.lookup y = some .local := by rfl) (hst : swappedStores [Expr.Tuple [Expr.Name x px, Expr.Name y py] kt pt] (Expr.Tuple [a, b] k2 pt2) X.env = pure (some [x, y]) := by rfl) : SW1 X G (.Assign [.Tuple [.Name x px, .Name y py] kt pt] (.Tuple [a, b] k2 pt2) pos) sl st E := fun A σ H H0 R D k =>
  wpS_of (ps_par hc hN hi hj hij hx hy pa_wp hst) (h A σ H H0 R _ fun ws st1 vs A1 H1 H01 ⟨w1, w2, ew, q⟩ R1 x1 s1 r1 => by
    subst ew
    obtain ⟨v, u, rfl, r, r'⟩ := rep2 r1
    exact ⟨v, u, rfl, k.nx A1 _ H1 H01 _ st1 q ((R1.set r i).set r' j) x1 s1⟩)
theorem sw_expr (h : EW X G e sl st fun _ st1 => E.nx sl st1) (hs : swapsWith e none pos.line X.env = pure false := by rfl) : SW1 X G (.Expr e pos) sl st E := fun A σ H H0 R D k =>
  wpS_of (ps_expr pe_wp hs) (h A σ H H0 R _ fun w st1 v A1 H1 H01 q R1 x1 s1 r1 => k.nx A1 σ H1 H01 sl st1 q R1 x1 s1)
theorem sw_ret (h : EW X G e sl st E.rt) : SW1 X G (.Return (some e) pos) sl st E := fun A σ H H0 R D k =>
  wpS_of (ps_ret pe_wp) (h A σ H H0 R _ fun w st1 v A1 H1 H01 q R1 x1 s1 r1 => k.rt A1 σ H1 H01 sl st1 w v q R1 x1 s1 r1)
theorem sw_retN (h : E.rt (.dat .non) st) : SW1 X G (.Return none pos) sl st E := fun A σ H H0 R D k =>
  wpS_of ps_retN (k.rt A σ H H0 sl st _ _ h R (Ext.refl _) (Same.refl _) .non)
theorem sw_if (h : TW X G c sl st fun b st1 => if b = true then SW X G ss sl st1 E else SW X G tt sl st1 E) : SW1 X G (.If c ss tt pos) sl st E := fun A σ H H0 R D k => by
  refine wpS_of (ps_if pt_wp pss_wp pss_wp) (h A σ H H0 R _ fun b st1 A1 H1 H01 q R1 x1 s1 => ?_)
  cases b with
  | true =>
    rw [if_pos rfl] at q ⊢
    exact q A1 σ H1 H01 R1 D (k.mv x1 s1)
  | false =>
    rw [if_neg Bool.false_ne_true] at q ⊢
    exact q A1 σ H1 H01 R1 D (k.mv x1 s1)
theorem sw_pass (h : E.nx sl st) : SW1 X G (.Pass pos) sl st E := fun A σ H H0 R D k => wpS_of ps_pass (k.nx A σ H H0 sl st h R (Ext.refl _) (Same.refl _))
theorem sw_break (h : E.bk sl st) : SW1 X G (.Break pos) sl st E := fun A σ H H0 R D k => wpS_of ps_break (k.bk A σ H H0 sl st h R (Ext.refl _) (Same.refl _))
theorem sw_cont (h : E.ct sl st) : SW1 X G (.Continue pos) sl st E := fun A σ H H0 R D k => wpS_of ps_continue (k.ct A σ H H0 sl st h R (Ext.refl _) (Same.refl _))
def setF (f : Str) (w : W) : List (Str × W) → List (Str × W)
  | [] => [(f, w)]
  | (g, x) :: r => if g = f then (g, w) :: r else (g, x) :: setF f w r
theorem setF_rep {K : PySem.W.Frag} {A : List Addr} {H : Hp} {f : Str} {v : V} {w : W} (r : RepW K A H v w) : ∀ {vs : List (Str × V)} {fs : List (Str × W)}, RepWF K A H vs fs → RepWF K A H (putF f v vs) (setF f w fs)
  | [], [], _ => ⟨rfl, r, trivial⟩
  | (g, x) :: vs, (g', y) :: fs, h => by
    obtain ⟨h1, h2, h3⟩ := h
    simp only at h1 h2
    subst h1
    unfold putF setF
    by_cases e : g = f
    · rw [if_pos e, if_pos e]
      exact ⟨rfl, r, h3⟩
    · rw [if_neg e, if_neg e]
      exact ⟨rfl, h2, setF_rep r h3⟩
theorem RepWF.length {K : PySem.W.Frag} {A : List Addr} {H : Hp} : ∀ {vs : List (Str × V)} {fs : List (Str × W)}, RepWF K A H vs fs → vs.length = fs.length
  | [], [], _ => rfl
  | _ :: _, _ :: _, h => by simp [RepWF.length h.2.2]
theorem sw_fld {f : Str} {pos' : Pos} (h : EW X G e sl st fun w st1 => EW X G o sl st1 fun w2 st2 => ∃ j C fs, w2 = .ptr j ∧ st2[j]? = some (.ins C fs) ∧ Cls X.K C ∧ NoAttr X.K C f ∧ fs.length < 1000 ∧ E.nx sl (st2.set j (.ins C (setF f w fs))))
    (hs : swapsWith e (some (.Attribute o f pos')) pos.line X.env = pure false := by rfl) : SW1 X G (.Assign [.Attribute o f pos'] e pos) sl st E := fun A σ H H0 R D k =>
  wpS_of (ps_fld pe_wp pe_wp hs) (h A σ H H0 R _ fun w st1 v1 A1 H1 H01 e1 R1 x1 s1 r1 => e1 A1 σ H1 H01 R1 _ fun w2 st2 v2 A2 H2 H02 ⟨j, C, fs, ew, hj, hc, hn, hl, q⟩ R2 x2 s2 r2 => by
    subst ew
    obtain ⟨ad, ha, h0, dx, vs, he, rf⟩ := R2.at hj
    obtain ⟨a', ha', rfl⟩ := r2
    have : a' = ad := Option.some.inj (ha'.symm.trans ha)
    subst this
    exact ⟨_, C, dx, vs, rfl, he, hc, hn, by rw [rf.length]; exact hl, k.nx A2 σ _ H02 sl _ q (R2.write ha hj h0 ⟨h0, dx, _, upd_same, setF_rep (r1.mono x2 s2) rf⟩) (x1.trans x2) (s1.trans s2)⟩)
theorem ip_wp {op : Operator} : PIp X op (wpO X (inplaceOp op)) := fun pins s σ _ _ _ v u _ I r1 r2 h => h pins s σ v u I r1 r2
theorem sw_aug (i : Nat) {x : Str} {op : Operator} {w0 : W} {pos' : Pos} (h0 : sl[i]? = some (some w0)) (h : EW X G e sl st fun w st1 => OW X G (inplaceOp op) sl st1 w0 w fun w2 st2 => E.nx (sl.set i (some w2)) st2) (hN : X.N.Nodup) (hi : X.N[i]? = some x := by rfl) (hx : Loc X.env.scope x := by first | exact .inl rfl | exact .inr rfl)
    (hf : X.fn x = true ∨ X.env.scope.names.lookup x = some .local := by first | exact .inl rfl | exact .inr rfl) : SW1 X G (.AugAssign (.Name x pos') op e pos) sl st E := fun A σ H H0 R D k => by
  obtain ⟨v0, hv0, r0⟩ := R.sl.2 i w0 h0
  exact wpS_of (ps_aug hN hi hx pe_wp ip_wp hf) ⟨v0, hv0, h A σ H H0 R _ fun w st1 v A1 H1 H01 q R1 x1 s1 r1 => q A1 σ H1 H01 R1 v0 v (r0.mono x1 s1) r1 _ fun w2 st2 v2 A2 H2 H02 q2 R2 x2 s2 r2 => k.nx A2 _ H2 H02 _ st2 q2 (R2.set r2 i) (x1.trans x2) (s1.trans s2)⟩
theorem o_iadd {i j : Int} (h : Φ (.dat (.int (i + j))) st) : OW X G (inplaceOp .Add) sl st (.dat (.int i)) (.dat (.int j)) Φ := fun A σ H H0 R v1 v2 r1 r2 Q k pins s σ' u1 u2 I q1 q2 => by
  cases r1
  cases r2
  exact ip_add pins s σ' H _ _ u1 u2 Q I q1 q2 ⟨i, j, rfl, rfl, k _ st _ A H H0 h R (Ext.refl _) (Same.refl _) (.int _)⟩
theorem sw_for {body : List Stmt} (hp : PassesOwn (model X.prog X.w) X.A X.env X.xe) (hc : X.calm = true) (hi : IWJ X G tg iter sl st fun ws st1 => ∃ I : Nat → GK, I 0 sl st1 ∧
      (∀ i w sl' st', ws[i]? = some w → I i sl' st' → GW X G tg w sl' st' fun sl2 st2 => SW X G body sl2 st2 { E with nx := I (i + 1), ct := I (i + 1), bk := E.nx }) ∧ (∀ sl' st', I ws.length sl' st' → E.nx sl' st'))
    (hs : ∀ x, foldedSetIterable iter X.env x = pure x := by intro _; rfl) : SW1 X G (.For tg iter body [] pos) sl st E := fun A σ H H0 R D k => by
  refine wpS_of (ps_for hp hc pi_wp pg_wp pss_wp hs) (hi A σ H H0 R _ fun J ws st1 A1 H1 H01 ⟨I, i0, turn, fin⟩ R1 x1 s1 it => ?_)
  refine ⟨fun i m σ H => m = ws.length - i ∧ i ≤ ws.length ∧ ∃ A' H0' sl' st', I i sl' st' ∧ RS X.K G A' σ H H0' sl' st' ∧ Ext A1 A' ∧ Same H01 H0', ⟨ws.length, by simp, Nat.zero_le _, A1, H01, sl, st1, i0, R1, Ext.refl _, Same.refl _⟩, ?_⟩
  rintro i m σ H ⟨rfl, hle, A', H0', sl', st', q, R', x', s'⟩
  obtain ⟨go, stop⟩ := it i G A' σ H H0' sl' st' R' x' s'
  by_cases hlt : i < ws.length
  · obtain ⟨g1, g2⟩ := go hlt
    refine .inr ⟨g1, fun σ' H' => ∃ A' H0' sl' st', I (i + 1) sl' st' ∧ RS X.K G A' σ' H' H0' sl' st' ∧ Ext A1 A' ∧ Same H01 H0', fun σ' H' h => ⟨ws.length - (i + 1), by omega, rfl, hlt, h⟩, fun x H' y => ?_⟩
    obtain ⟨w, H0'', hw, R2, s2, s3, rw⟩ := g2 x H' y
    refine turn i w sl' st' hw q A' σ H' H0'' R2 x rw _ fun A3 σ3 H3 H03 sl3 st3 q3 R3 x3 s4 => ?_
    refine q3 A3 σ3 H3 H03 R3 _ ⟨fun A4 σ4 H4 H04 sl4 st4 q4 R4 x4 s5 => ?_, fun A4 σ4 H4 H04 sl4 st4 w v q4 R4 x4 s5 r4 => ?_, fun A4 σ4 H4 H04 sl4 st4 q4 R4 x4 s5 => ?_, fun A4 σ4 H4 H04 sl4 st4 q4 R4 x4 s5 => ?_⟩
    · exact ⟨A4, H04, sl4, st4, q4, R4, x'.trans (x3.trans x4), s'.trans (s2.trans (s4.trans s5))⟩
    · exact k.rt A4 σ4 H4 H04 sl4 st4 w v q4 R4 (x1.trans (x'.trans (x3.trans x4))) (s1.trans (s'.trans (s2.trans (s4.trans s5)))) r4
    · exact k.nx A4 σ4 H4 H04 sl4 st4 q4 R4 (x1.trans (x'.trans (x3.trans x4))) (s1.trans (s'.trans (s2.trans (s4.trans s5))))
    · exact ⟨A4, H04, sl4, st4, q4, R4, x'.trans (x3.trans x4), s'.trans (s2.trans (s4.trans s5))⟩
  · have e : i = ws.length := by omega
    exact .inl ⟨stop e, k.nx A' σ H H0' sl' st' (fin sl' st' (by rw [← e]; exact q)) R' (x1.trans x') (s1.trans s')⟩
theorem sw_while {body : List Stmt} (hp : PassesOwn (model X.prog X.w) X.A X.env X.xe) (I : Nat → GK) (m0 : Nat) (h0 : I m0 sl st)
    (hs : ∀ m sl st, I m sl st → TW X G c sl st fun b st1 => if b = true then SW X G body sl st1 { E with nx := fun sl' st' => ∃ m', m' < m ∧ I m' sl' st', ct := fun sl' st' => ∃ m', m' < m ∧ I m' sl' st', bk := E.nx } else E.nx sl st1) : SW1 X G (.While c body [] pos) sl st E := fun A σ H H0 R D k => by
  refine wpS_of (ps_while hp pt_wp pss_wp) ⟨fun m σ' H' => ∃ A' H0' sl' st', I m sl' st' ∧ RS X.K G A' σ' H' H0' sl' st' ∧ Ext A A' ∧ Same H0 H0', ⟨m0, A, H0, sl, st, h0, R, Ext.refl _, Same.refl _⟩, ?_⟩
  rintro m σ' H' ⟨A', H0', sl', st', q, R', x', s'⟩
  refine hs m sl' st' q A' σ' H' H0' R' _ fun b st1 A1 H1 H01 q1 R1 x1 s1 => ?_
  cases b with
  | true =>
    rw [if_pos rfl] at q1 ⊢
    refine ⟨fun σ2 H2 => ∃ A2 H02 sl2 st2, (∃ m', m' < m ∧ I m' sl2 st2) ∧ RS X.K G A2 σ2 H2 H02 sl2 st2 ∧ Ext A A2 ∧ Same H0 H02, fun σ2 H2 ⟨A2, H02, sl2, st2, ⟨m', hm, q2⟩, R2, x2, s2⟩ => ⟨m', hm, A2, H02, sl2, st2, q2, R2, x2, s2⟩, ?_⟩
    refine q1 A1 σ' H1 H01 R1 _ ⟨fun A4 σ4 H4 H04 sl4 st4 q4 R4 x4 s5 => ?_, fun A4 σ4 H4 H04 sl4 st4 w v q4 R4 x4 s5 r4 => ?_, fun A4 σ4 H4 H04 sl4 st4 q4 R4 x4 s5 => ?_, fun A4 σ4 H4 H04 sl4 st4 q4 R4 x4 s5 => ?_⟩
    · exact ⟨A4, H04, sl4, st4, q4, R4, x'.trans (x1.trans x4), s'.trans (s1.trans s5)⟩
    · exact k.rt A4 σ4 H4 H04 sl4 st4 w v q4 R4 (x'.trans (x1.trans x4)) (s'.trans (s1.trans s5)) r4
    · exact k.nx A4 σ4 H4 H04 sl4 st4 q4 R4 (x'.trans (x1.trans x4)) (s'.trans (s1.trans s5))
    · exact ⟨A4, H04, sl4, st4, q4, R4, x'.trans (x1.trans x4), s'.trans (s1.trans s5)⟩
  | false =>
    rw [if_neg Bool.false_ne_true] at q1 ⊢
    exact k.nx A1 σ' H1 H01 sl' st1 q1 R1 (x'.trans x1) (s'.trans s1)
theorem ew_frz {j : Nat} {xs : List D} (h : EW X G e sl st fun w st1 => (w = .ptr j ∧ st1[j]? = some (.lst (xs.map W.dat)) ∧ G.A.length ≤ j) ∧ Φ (.dat (.lst xs)) (st1.set j .gone)) : EW X G e sl st Φ := fun A σ H H0 R Q k => h A σ H H0 R Q fun w st1 v A1 H1 H01 ⟨⟨ew, hj, hg⟩, q⟩ R1 x1 s1 r1 => by
  subst ew
  obtain ⟨ad, ha, h0, vs, he, rr⟩ := R1.at hj
  obtain ⟨a', ha', rfl⟩ := r1
  have : a' = ad := Option.some.inj (ha'.symm.trans ha)
  subst this
  have gx : G.H a' = none := by
    rcases R1.fr.loc a' (List.mem_of_getElem? ha) with z | z
    · exfalso
      obtain ⟨i, hi, e⟩ := List.mem_iff_getElem.mp z
      have h1 := R1.fr.pre.get (List.getElem?_eq_getElem hi)
      rw [e] at h1
      have h2 := List.getElem?_eq_some_iff.mp h1
      have h3 := List.getElem?_eq_some_iff.mp ha
      have := (List.getElem_inj R1.hs.nd).mp (h2.2.trans h3.2.symm)
      omega
    · exact z
  have s0 : Same H01 (upd H01 a' (.lst vs)) := same_upd h0
  exact k _ _ _ A1 H1 _ q (R1.freeze ha hj he h0 gx) x1 (s1.trans s0) (.lst upd_same (rr.dats.mono s0))
end
end Dn
namespace Dn
open PySem PySem.Spec L2 StX ClX
open PyProof.Rows hiding St
def startS (N : List Str) (args : List W) : Sls := args.map some ++ List.replicate (N.length - args.length) none
def KrE (st0 : List Ob) (Ret : WK) : WK := fun w st' => ∃ st1 g, st' = st1 ++ g ∧ st0.length ≤ st1.length ∧ Clos st1 ∧ CloW st1.length w ∧ Ret w st1
def KxE (st0 : List Ob) (Exc : XKD) : XKS := fun c fs _ st' => ∃ st1 g, st' = st1 ++ g ∧ st0.length ≤ st1.length ∧ Clos st1 ∧ Exc c fs st1
theorem RepWs.lenS {K : PySem.W.Frag} {A : List Addr} {H0 : Hp} {N : List Str} {vs : List V} {args : List W} (h : RepWs K A H0 vs args) : Slots K A H0 (L2.start N vs) (startS N args) := by
  have hl := h.length
  refine ⟨by unfold L2.start startS; simp [hl], fun i w q => ?_⟩
  unfold startS at q
  unfold L2.start
  by_cases hi : i < args.length
  · rw [List.getElem?_append_left (by simpa using hi), List.getElem?_map] at q
    cases e : args[i]? with
    | none => rw [e] at q; cases q
    | some w' =>
      rw [e] at q
      cases q
      obtain ⟨v, hv, r⟩ := h.get e
      exact ⟨v, by rw [List.getElem?_append_left (by simpa [hl] using hi), List.getElem?_map, hv]; rfl, r⟩
  · rw [List.getElem?_append_right (by simpa using hi), List.getElem?_replicate] at q
    split at q <;> cases q
structure FnGo (P : Program) (w : World) (K : PySem.W.Frag) (mg : Str → Option Value) (base : Heap) (CX : CXT) (k : Nat) (f : Addr) (fd : FuncData) (ps : List Str) (sp : Sp) : Prop where
  ln : ∀ xs h Q E, sp xs h Q E → xs.length = ps.length
  go : ∀ (B : Around) (out : List Env) (t : Shared) (h : Hp) (ar : Args) (us : List Value) (xs : List V) (Q : VK) (E : XK), RoomG k B → Env0 P w K mg base B out t h → BindsTo t fd ar (ps.zip us) → Vals xs us → sp xs h Q E → codeAny (model P w) B (.call (.ref f) ar) (CR CX out P w h t Q E) t
section
variable {P : Program} {w : World} {K : PySem.W.Frag} {mg : Str → Option Value} {base : Heap} {k : Nat} {f : Addr} {fd : FuncData} {N ps : List Str} {sp : Sp}
theorem FnGo.plain {CX : CXT} (F : FnGo P w K mg base CX k f fd ps sp) (b : Binds K fd ps []) : FnG P w K mg base CX k f sp := fun B out t h us xs Q E hr e0 r q => by
  have hin : K.In t.heap := e0.mod.kin.keeps fun c o e => (e0.bs c o e).1
  have n1 : (us ++ []).length = ps.length := by rw [List.append_nil, ← r.length]; exact F.ln _ _ _ _ q
  have bd := b t us hin n1
  rw [List.append_nil] at bd
  exact F.go B out t h _ us xs Q E hr e0 bd r q
theorem FnGo.ofBody {x qual : Str} {st : Stmt} (F : Fun K x qual st f fd) (S : FnScope N ps (defScope st)) (ln : ∀ xs h Q E, sp xs h Q E → xs.length = ps.length)
    (bd : ∀ (cdv : Value) (B : Around) (out : List Env) (t : Shared) (h : Hp) (xs : List V) (Q : VK) (E : XK), RoomG k (B.deeper (envOfC qual (defScope st) t.heap.objs.size f cdv)) → sp xs h Q E →
      ∃ r, PSs (cxOf (L2.CX P w) P w K mg base N qual (defScope st) f cdv B out t h E) (defBody st) r ∧ r { nx := fun _ h' => Q .non h', rt := Q } (L2.start N xs) h) : FnGo P w K mg base (L2.CX P w) (k + 1) f fd ps sp := by
  obtain ⟨_, _, _, _, _, _, cdv, _, _, rfl, at_f, at_c⟩ := F.ex
  constructor
  · exact ln
  intro B out t h ar us xs Q E room env bound vals q
  have up : ∀ c o, base.get? c = some o → t.heap.get? c = some o := fun c o e => (env.bs c o e).1
  have hin := env.mod.kin.keeps up
  refine codeAny_call_function room.r.depth (hin _ _ at_f) rfl S.co S.gen rfl (PySem.W.codeRec_of hin at_c) (bound _ _ _ _ (wpAny_newFunctionEnv_cells S.kind ?_ ?_))
  · rintro ⟨n, v⟩ hm
    refine (S.par n (List.of_mem_zip hm).1).imp id fun c => ⟨c, ?_⟩
    exact PySem.W.cellsFrom_some _ _ _ (.inl c)
  · rintro env1 rfl t1 made
    refine ⟨(env.mod.nolimit.keeps up).keeps made.toInCall.keep, codeAny_func ?_⟩
    obtain ⟨r, walk, here⟩ := bd cdv B out t h xs Q E (room.deeper _) q
    have inv0 := inv_start (CX := L2.CX P w) (E := E) S room.hd env (ln _ _ _ _ q) vals made
    refine wpAny_mono (walk.run [] t1 _ h _ inv0 here) ?_ fun _ _ z => z
    rintro (_ | _ | _ | u) t2 z
    · obtain ⟨_, h2, J, z⟩ := z
      exact ⟨.non, h2, J.os, J.bare, J.base, J.hok, rfl, z⟩
    · obtain ⟨_, _, _, z⟩ := z
      exact z.elim
    · obtain ⟨_, _, _, z⟩ := z
      exact z.elim
    · obtain ⟨v, _, h2, J, rv, z⟩ := z
      exact ⟨v, h2, J.os, J.bare, J.base, J.hok, rv, z⟩
end
theorem fnD {P : Program} {w : World} {K : PySem.W.Frag} {mg : Str → Option Value} {base : Heap} {x qual : Str} {st : Stmt} {f : Addr} {fd : FuncData} {N ps : List Str} {k : Nat} {F : FT} (Fn : Fun K x qual st f fd) (S : FnScope N ps (defScope st)) (b : Binds K fd ps [])
    (hlen : ∀ args st0 Ret Exc, F args st0 Ret Exc → args.length = ps.length)
    (body : ∀ (cdv : Value) (A : Around) (outer : List Env) (s : Shared) (H : Hp) (E : XK) (H0 : Hp) (Al : List Addr) (args : List W) (st0 : List Ob) (Ret : WK) (Exc : XKD),
      RoomG k (cxOf (L2.CX P w) P w K mg base N qual (defScope st) f cdv A outer s H E).A →
      XOk (cxOf (L2.CX P w) P w K mg base N qual (defScope st) f cdv A outer s H E) ⟨H, H0, Al⟩ (KxE st0 Exc) →
      PassesOwn (model P w) (cxOf (L2.CX P w) P w K mg base N qual (defScope st) f cdv A outer s H E).A (cxOf (L2.CX P w) P w K mg base N qual (defScope st) f cdv A outer s H E).env (cxOf (L2.CX P w) P w K mg base N qual (defScope st) f cdv A outer s H E).xe →
      Al.length = st0.length → Clos st0 → F args st0 Ret Exc →
      SW (cxOf (L2.CX P w) P w K mg base N qual (defScope st) f cdv A outer s H E) ⟨H, H0, Al⟩ (defBody st) (startS N args) st0 { nx := fun _ st' => KrE st0 Ret (.dat .non) st', rt := KrE st0 Ret }) :
    FnG P w K mg base (L2.CX P w) (k + 1) f (spD K F) := by
  have ok : FnGo P w K mg base (L2.CX P w) (k + 1) f fd ps (spD K F) := by
    refine FnGo.ofBody Fn S (fun vs H Q E h => ?_) (fun cdv A outer s H vs Q E hr h => ?_)
    · obtain ⟨H0, Al, args, st0, Ret, Exc, hs, rw, hF, _⟩ := h
      rw [rw.length]
      exact hlen _ _ _ _ hF
    · obtain ⟨H0, Al, args, st0, Ret, Exc, hs, rw, hF, hR, hE⟩ := h
      refine ⟨_, pss_wp, ?_⟩
      have fin : ∀ {A' H' H0' st' w v}, KrE st0 Ret w st' → HS K A' H' H0' st' → Fr ⟨H, H0, Al⟩ A' H' H0' → RepW K A' H0' v w → Q v H' := fun {A' H' H0' st' w v} q hs' fr r => by
        obtain ⟨st1, g, rfl, hl, hc, hw, q⟩ := q
        exact hR w st1 v _ H' H0' q (hs'.drop hc) (fr.drop (by show Al.length ≤ _; rw [hs.al]; exact hl)) (r.take hw)
      refine body cdv A outer s H E H0 Al args st0 Ret Exc hr ⟨_, takes_of rfl rfl rfl rfl, fun cls fs d vfs A' σ' H' H0' sl' st' q R xd rf => ?_⟩ (passes_of rfl) hs.al hs.clos hF Al (L2.start N vs) H H0 ⟨rw.lenS, hs, Fr.refl hs⟩ _ ⟨fun A' σ' H' H0' sl' st' q R _ _ => ?_, fun A' σ' H' H0' sl' st' w v q R _ _ r => ?_, fun _ _ _ _ _ _ q => q.elim, fun _ _ _ _ _ _ q => q.elim⟩
      · obtain ⟨st1, g, rfl, hl, hc, q⟩ := q
        exact hE cls fs d vfs st1 _ H' H0' q (R.hs.drop hc) (R.fr.drop (by show Al.length ≤ _; rw [hs.al]; exact hl)) xd rf
      · exact fin q R.hs R.fr (show RepW K A' H0' .non (.dat .non) from .non)
      · exact fin q R.hs R.fr r
  exact ok.plain b
theorem krE_of {st : List Ob} {Ret : WK} {d : D} (hc : Clos st) (h : Ret (.dat d) st) : KrE st Ret (.dat d) st := ⟨st, [], by simp, Nat.le_refl _, hc, trivial, h⟩
theorem krE_app {st g : List Ob} {Ret : WK} {d : D} (hc : Clos st) (h : Ret (.dat d) st) : KrE st Ret (.dat d) (st ++ g) := ⟨st, g, rfl, Nat.le_refl _, hc, trivial, h⟩
theorem kxE_of {st : List Ob} {Exc : XKD} {c : Value} {fs : List (Str × D)} {sl : Sls} (hc : Clos st) (h : Exc c fs st) : KxE st Exc c fs sl st := ⟨st, [], by simp, Nat.le_refl _, hc, h⟩
theorem kxE_app {st g : List Ob} {Exc : XKD} {c : Value} {fs : List (Str × D)} {sl : Sls} (hc : Clos st) (h : Exc c fs st) : KxE st Exc c fs sl (st ++ g) := ⟨st, g, rfl, Nat.le_refl _, hc, h⟩
def wipeL (sl : Sls) : List Nat → Sls
  | [] => sl
  | v :: vs => (wipeL sl vs).set v none
theorem Slots.wipe {K : PySem.W.Frag} {A : List Addr} {H0 : Hp} {σ : St} {sl : Sls} (h : Slots K A H0 σ sl) : ∀ vs : List Nat, Slots K A H0 (L2.wipe σ vs) (wipeL sl vs)
  | [] => h
  | v :: vs => by
    unfold L2.wipe wipeL
    exact (h.wipe vs).weak v none
theorem wipe_in {σ : St} {i : Nat} : ∀ {vs : List Nat}, i ∈ vs → (L2.wipe σ vs)[i]? = if i < σ.length then some none else none
  | v :: vs, h => by
    unfold L2.wipe
    by_cases hi : v = i
    · subst hi
      by_cases hl : v < σ.length
      · rw [if_pos hl, List.getElem?_set_self (by rw [wipe_length]; exact hl)]
      · rw [if_neg hl, List.getElem?_eq_none (by rw [List.length_set, wipe_length]; omega)]
    · rw [List.getElem?_set_ne hi]
      rcases List.mem_cons.mp h with e | h
      · exact absurd e.symm hi
      · exact wipe_in h
theorem wipe_eq {σ τ : St} {vs : List Nat} (hl : σ.length = τ.length) (h : ∀ i, i ∉ vs → σ[i]? = τ[i]?) : L2.wipe σ vs = L2.wipe τ vs := by
  apply List.ext_getElem?
  intro i
  by_cases hi : i ∈ vs
  · rw [wipe_in hi, wipe_in hi, hl]
  · rw [wipe_out hi, wipe_out hi]
    exact h i hi
theorem wipe_twice {σ : St} {vs : List Nat} : L2.wipe (L2.wipe σ vs) vs = L2.wipe σ vs := wipe_eq (wipe_length σ vs) fun i hi => wipe_out hi
def gl : List Nat → TGs
  | [] => gNil
  | i :: is => gCons (gName i) (gl is)
def setAll {α : Type} (σ : List (Option α)) : List Nat → List α → List (Option α)
  | i :: is, v :: vs => setAll (σ.set i (some v)) is vs
  | _, _ => σ
theorem gl_run {Q : St → Hp → Prop} {H : Hp} : ∀ {is : List Nat} {vs : List V} {σ : St}, vs.length = is.length → Q (setAll σ is vs) H → gl is vs σ H Q
  | [], [], σ, _, q => ⟨rfl, q⟩
  | i :: is, v :: vs, σ, h, q => ⟨v, vs, rfl, gl_run (by simpa using h) q⟩
theorem setAll_length {α : Type} : ∀ {is : List Nat} {vs : List α} {σ : List (Option α)}, (setAll σ is vs).length = σ.length
  | [], _, _ => rfl
  | _ :: _, [], _ => rfl
  | i :: is, v :: vs, σ => by
    unfold setAll
    rw [setAll_length, List.length_set]
theorem setAll_out {α : Type} {k : Nat} : ∀ {is : List Nat} {vs : List α} {σ : List (Option α)}, k ∉ is → (setAll σ is vs)[k]? = σ[k]?
  | [], _, _, _ => rfl
  | _ :: _, [], _, _ => rfl
  | i :: is, v :: vs, σ, h => by
    unfold setAll
    rw [setAll_out fun z => h (List.mem_cons_of_mem _ z), List.getElem?_set_ne fun z => h (by rw [z]; exact List.mem_cons_self)]
theorem Slots.setAll {K : PySem.W.Frag} {A : List Addr} {H0 : Hp} : ∀ {is : List Nat} {vs : List V} {ws : List W} {σ : St} {sl : Sls}, Slots K A H0 σ sl → RepWs K A H0 vs ws → Slots K A H0 (Dn.setAll σ is vs) (Dn.setAll sl is ws)
  | [], _, _, _, _, h, _ => h
  | _ :: _, [], [], _, _, h, _ => h
  | i :: is, v :: vs, w :: ws, σ, sl, h, r => (h.set r.1 i).setAll r.2
def tset : Bool → List Nat → W → Sls → Option Sls
  | false, [i], w, sl => some (sl.set i (some w))
  | true, is, .dat (.tup ds), sl => if ds.length = is.length then some (setAll sl is (ds.map W.dat)) else none
  | _, _, _, _ => none
def tgt (K : PySem.W.Frag) : Bool → List Nat → TG
  | false, is => gName (is.headD 0)
  | true, is => gTup K is.length (gl is)
theorem tgt_run {K : PySem.W.Frag} {A : List Addr} {σ : St} {H H0 : Hp} {sl sl2 : Sls} {v : V} {w : W} {b : Bool} {is vs : List Nat} {Q : St → Hp → Prop} (le : Same H0 H) (h : Slots K A H0 σ sl) (hs : ∀ i ∈ is, i ∈ vs) (r : RepW K A H0 v w) (e : tset b is w sl = some sl2)
    (q : ∀ σ2, Slots K A H0 σ2 sl2 → L2.wipe σ2 vs = L2.wipe σ vs → Q σ2 H) : tgt K b is v σ H Q := by
  cases b with
  | false =>
    match is, e, hs with
    | [i], e, hs =>
      cases e
      refine q _ (h.set r i) (wipe_eq (by simp) fun k hk => ?_)
      rw [List.getElem?_set_ne fun z => hk (by rw [← z]; exact hs i List.mem_cons_self)]
  | true =>
    cases w with
    | ptr j => cases is <;> cases e
    | dat d =>
      cases r with
      | @tup a us ds ea rr =>
        simp only [tset] at e
        split at e
        · rename_i hl
          cases e
          refine ⟨a, us, rfl, .inl (.inl (le _ _ ea)), by rw [rr.length, hl], gl_run (by rw [rr.length, hl]) (q _ (h.setAll (RepWs.of rr)) (wipe_eq setAll_length fun k hk => setAll_out fun z => hk (hs k z)))⟩
        · cases e
      | non => cases is <;> cases e
      | bl => cases is <;> cases e
      | int => cases is <;> cases e
      | str => cases is <;> cases e
      | lst _ _ => cases is <;> cases e
      | ins _ _ => cases is <;> cases e
      | scr => cases is <;> cases e
      | adr => cases is <;> cases e
      | ty => cases is <;> cases e
      | err0 => cases is <;> cases e
      | err _ _ => cases is <;> cases e
section
variable {K : PySem.W.Frag} {G : Ent} {A A' : List Addr} {σ : St} {H H' H0 H0' : Hp} {sl : Sls} {st st' : List Ob}
theorem RS.poke (R : RS K G A σ H H0 sl st) {p : Addr} {o : HO} (h0 : H0 p = none) (hA : p ∉ A) (hG : G.H p = none) : RS K G A σ (upd H p o) H0 sl st := by
  refine ⟨R.sl, ⟨same_updL R.hs.le h0, R.hs.al, R.hs.nd, fun j a u ha hu => ?_⟩, ⟨fun b u h hb => ?_, R.fr.old, R.fr.new, R.fr.pre, R.fr.loc⟩⟩
  · have hpa : a ≠ p := fun z => hA (by rw [← z]; exact List.mem_of_getElem? ha)
    exact (R.hs.ob j a u ha hu).heap (upd_ne hpa)
  · have hbp : b ≠ p := fun z => by
      rw [z, hG] at h
      cases h
    rw [upd_ne hbp]
    exact R.fr.fr b u h hb
end
section
variable {X : Cx} {G : Ent} {e a b c o tg iter elt : Expr} {es : List Expr} {sl : Sls} {st : List Ob} {Φ : WK} {Ψ : BK} {pos p : Pos}
def BlkE (X : Cx) (scope : Scope) (elt : Expr) : TE := fun σ H Q => ∀ (s : Shared) (Hb : Hp) (C : Addr) (cl : List (Str × Addr)) (fp : List Addr), wpE (X.blk s Hb scope (compEnvC scope cl C X.env) fp) elt σ H Q
def BlkT (X : Cx) (scope : Scope) (c : Expr) : TT := fun σ H Q => ∀ (s : Shared) (Hb : Hp) (C : Addr) (cl : List (Str × Addr)) (fp : List Addr), wpT (X.blk s Hb scope (compEnvC scope cl C X.env) fp) c σ H Q
def EWb (X : Cx) (scope : Scope) (elt : Expr) (sl : Sls) (st : List Ob) (Φ : WK) : Prop := ∀ (G : Ent) (s : Shared) (Hb : Hp) (C : Addr) (cl : List (Str × Addr)) (fp : List Addr), EW (X.blk s Hb scope (compEnvC scope cl C X.env) fp) G elt sl st Φ
def TWb (X : Cx) (scope : Scope) (c : Expr) (sl : Sls) (st : List Ob) (Ψ : BK) : Prop := ∀ (G : Ent) (s : Shared) (Hb : Hp) (C : Addr) (cl : List (Str × Addr)) (fp : List Addr), TW (X.blk s Hb scope (compEnvC scope cl C X.env) fp) G c sl st Ψ
def LcT (X : Cx) (scope : Scope) (ifs : List Expr) (elt : Expr) (sl2 : Sls) (st : List Ob) (acc : List D) (I : List D → List Ob → Prop) : Prop :=
  match ifs with
  | [] => EWb X scope elt sl2 st fun w st' => ∃ d, w = .dat d ∧ acc.length < sizeLine ∧ I (acc ++ [d]) st'
  | c :: _ => TWb X scope c sl2 st fun b st1 => if b = true then EWb X scope elt sl2 st1 fun w st' => ∃ d, w = .dat d ∧ acc.length < sizeLine ∧ I (acc ++ [d]) st' else I acc st1
def LcJ (X : Cx) (G : Ent) (tg iter : Expr) (ifs : List Expr) (elt : Expr) (scope : Scope) (tb : Bool) (is vs : List Nat) (sl : Sls) (st : List Ob) (fin : List D → List Ob → Prop) : Prop :=
  IWJ X G tg iter sl st fun ws st1 => ∃ I : Nat → List D → List Ob → Prop, I 0 [] st1 ∧
    (∀ i w acc st', ws[i]? = some w → I i acc st' → ∃ sl2, tset tb is w (wipeL sl vs) = some sl2 ∧ LcT X scope ifs elt sl2 st' acc (I (i + 1))) ∧ (∀ acc st', I ws.length acc st' → fin acc st')
theorem lc_run {ifs : List Expr} {scope : Scope} {tb : Bool} {is vs : List Nat} {tt : TT} {fin : List D → List Ob → Prop} (hif : (ifs = [] ∧ tt = tYes) ∨ (∃ c, ifs = [c] ∧ tt = BlkT X scope c)) (his : ∀ i ∈ is, i ∈ vs) (h : LcJ X G tg iter ifs elt scope tb is vs sl st fin)
    {A : List Addr} {σ : St} {H H0 : Hp} (R : RS X.K G A σ H H0 sl st) {Q : VK} (k : Ct X.K G A σ H0 sl (fun w st' => ∃ acc, w = .dat (.lst acc) ∧ fin acc st') Q) : tLc (wpI X tg iter) (tgt X.K tb is) tt (BlkE X scope elt) vs σ H Q := by
  refine h A σ H H0 R _ fun J ws st1 A1 H1 H01 ⟨I, i0, turn, fn⟩ R1 x1 s1 it => ?_
  intro Dl hD
  have h00 := R1.hs.free0 hD
  have hA0 := R1.hs.notin hD
  have hG0 := free_in R1.fr R1.hs hD
  refine ⟨fun i m H => m = ws.length - i ∧ i ≤ ws.length ∧ ∃ A' H0' st' acc us, I i acc st' ∧ RS X.K G A' σ H H0' sl st' ∧ Ext A1 A' ∧ Same H01 H0' ∧ H Dl = some (.lst us) ∧ Reps X.K H0' us acc ∧ H0' Dl = none ∧ Dl ∉ A',
    ⟨ws.length, by simp, Nat.zero_le _, A1, H01, st1, [], [], i0, R1.fresh hD, Ext.refl _, Same.refl _, upd_same, .nil, h00, hA0⟩, ?_⟩
  rintro i m Hc ⟨rfl, hle, A', H0', st', acc, us, q, R', x', s', hDl, racc, h0D, hAD⟩
  have RL : RS X.K ⟨Hc, H0', A'⟩ A' σ Hc H0' sl st' := ⟨R'.sl, R'.hs, Fr.refl R'.hs⟩
  obtain ⟨go, stop⟩ := it i ⟨Hc, H0', A'⟩ A' σ Hc H0' sl st' RL x' s'
  by_cases hlt : i < ws.length
  · obtain ⟨g1, g2⟩ := go hlt
    refine .inr ⟨g1, fun H' => ∃ A' H0' st' acc us, I (i + 1) acc st' ∧ RS X.K G A' σ H' H0' sl st' ∧ Ext A1 A' ∧ Same H01 H0' ∧ H' Dl = some (.lst us) ∧ Reps X.K H0' us acc ∧ H0' Dl = none ∧ Dl ∉ A', fun H' h => ⟨ws.length - (i + 1), by omega, rfl, hlt, h⟩, fun x H'' y => ?_⟩
    obtain ⟨w, H0'', hw, R2, s2, s3, rw⟩ := g2 x H'' y
    obtain ⟨sl2, hsl2, lt⟩ := turn i w acc st' hw q
    have noD : ∀ {Hn H0n : Hp} {An : List Addr}, Fr ⟨Hc, H0', A'⟩ An Hn H0n → H0n Dl = none ∧ Dl ∉ An ∧ Hn Dl = some (.lst us) := fun {Hn H0n An} f => by
      refine ⟨?_, fun z => ?_, f.fr Dl _ hDl hAD⟩
      · cases z : H0n Dl with
        | none => rfl
        | some o =>
          rcases f.new Dl o z with ⟨u, e⟩ | e
          · exact absurd (h0D.symm.trans e) (by intro z; cases z)
          · exact absurd (hDl.symm.trans e) (by intro z; cases z)
      · rcases f.loc Dl z with z | z
        · exact hAD z
        · exact absurd (hDl.symm.trans z) (by intro z; cases z)
    have RG : RS X.K G A' σ H'' H0'' sl st' := R'.after R2.hs R2.fr
    have hG : G.H Dl = none := hG0
    refine tgt_run (vs := vs) R2.hs.le (R2.sl.wipe vs) his rw hsl2 fun σ2 hσ2 hw2 => ⟨by rw [hw2, wipe_twice], ?_⟩
    have elem : ∀ {A3 : List Addr} {H3 H03 : Hp} {st3 : List Ob}, (EWb X scope elt sl2 st3 fun w st' => ∃ d, w = .dat d ∧ acc.length < sizeLine ∧ I (i + 1) (acc ++ [d]) st') → RS X.K ⟨Hc, H0', A'⟩ A3 σ2 H3 H03 sl2 st3 →
        BlkE X scope elt σ2 H3 fun y H4 => ∃ acc', H4 Dl = some (.lst acc') ∧ acc'.length < sizeLine ∧ ∃ A' H0' st' acc us, I (i + 1) acc st' ∧ RS X.K G A' σ (upd H4 Dl (.lst (acc' ++ [y]))) H0' sl st' ∧ Ext A1 A' ∧ Same H01 H0' ∧ (upd H4 Dl (.lst (acc' ++ [y]))) Dl = some (.lst us) ∧ Reps X.K H0' us acc ∧ H0' Dl = none ∧ Dl ∉ A' := fun {A3 H3 H03 st3} hel R3 => by
      intro sb Hb C cl fp
      refine hel ⟨Hc, H0', A'⟩ sb Hb C cl fp A3 σ2 H3 H03 R3 _ fun w4 st4 v4 A4 H4 H04 ⟨d, ew, hz, q4⟩ R4 x4 s4 r4 => ?_
      subst ew
      obtain ⟨n0, nA, nH⟩ := noD R4.fr
      have R5 : RS X.K G A4 σ H4 H04 sl st4 := R'.after R4.hs R4.fr
      exact ⟨us, nH, by rw [racc.length]; exact hz, A4, H04, st4, acc ++ [d], us ++ [v4], q4, R5.poke n0 nA hG, x'.trans R4.fr.pre, s'.trans R4.fr.old, upd_same, (racc.mono R4.fr.old).append (.cons r4 .nil), n0, nA⟩
    have RB : RS X.K ⟨Hc, H0', A'⟩ A' σ2 H'' H0'' sl2 st' := ⟨hσ2, R2.hs, R2.fr⟩
    rcases hif with ⟨rfl, rfl⟩ | ⟨c, rfl, rfl⟩
    · show BlkE X scope elt σ2 H'' _
      exact elem lt RB
    · intro sb Hb C cl fp
      refine lt ⟨Hc, H0', A'⟩ sb Hb C cl fp A' σ2 H'' H0'' RB _ fun b st3 A3 H3 H03 q3 R3 x3 s3 => ?_
      cases b with
      | true =>
        rw [if_pos rfl] at q3 ⊢
        exact elem q3 R3
      | false =>
        rw [if_neg Bool.false_ne_true] at q3 ⊢
        obtain ⟨n0, nA, nH⟩ := noD R3.fr
        exact ⟨A3, H03, st3, acc, us, q3, R'.after R3.hs R3.fr, x'.trans R3.fr.pre, s'.trans R3.fr.old, nH, racc.mono R3.fr.old, n0, nA⟩
  · have e : i = ws.length := by omega
    refine .inl ⟨stop e, ?_⟩
    have s0 : Same H0' (upd H0' Dl (.lst us)) := same_upd h0D
    exact k _ st' _ A' Hc _ ⟨acc, rfl, fn acc st' (by rw [← e]; exact q)⟩ (R'.join hDl h0D hAD hG0) (x1.trans x') ((s1.trans s').trans s0) (.lst upd_same (racc.mono s0))
theorem blkE_pe {scope : Scope} : ∀ (s : Shared) (H : Hp) (C : Addr) (cl : List (Str × Addr)) (fp : List Addr), PE (X.blk s H scope (compEnvC scope cl C X.env) fp) elt (BlkE X scope elt) := fun s H C cl fp => ⟨fun pins sh σ Hh Q I h => h s H C cl fp pins sh I⟩
theorem blkT_pt {scope : Scope} : ∀ (s : Shared) (H : Hp) (C : Addr) (cl : List (Str × Addr)) (fp : List Addr), PT (X.blk s H scope (compEnvC scope cl C X.env) fp) c (BlkT X scope c) := fun s H C cl fp => ⟨fun pins sh σ Hh Q I h => h s H C cl fp pins sh I⟩
def TgOk (X : Cx) (tg : Expr) (scope : Scope) (tb : Bool) (is : List Nat) : Prop := ∀ (s : Shared) (H : Hp) (C : Addr) (cl : List (Str × Addr)) (fp : List Addr), PG (X.blk s H scope (compEnvC scope cl C X.env) fp) tg (tgt X.K tb is)
theorem ew_lc {own : List (Str × Nat)} {scope : Scope} {tb : Bool} {is : List Nat} (hc : X.calm = true) (hN : X.N.Nodup) (ok : BlkOk X.N X.env.scope scope own) (ht : TgOk X tg scope tb is) (his : ∀ i ∈ is, i ∈ own.map (·.2)) (h : LcJ X G tg iter [] elt scope tb is (own.map (·.2)) sl st fun acc st' => Φ (.dat (.lst acc)) st')
    (hs : ∀ x, foldedSetIterable iter X.env x = pure x := by intro _; rfl) : EW X G (.ListComp elt [⟨tg, iter, [], 0⟩] scope pos) sl st Φ := fun A σ H H0 R Q k =>
  wpE_of (pe_lc hc hN pi_wp ok ht (fun _ _ _ _ _ => pts_nil) blkE_pe hs) (lc_run (.inl ⟨rfl, rfl⟩) his h R fun w st' v A' H' H0' ⟨acc, ew, q⟩ => by subst ew; exact k _ st' v A' H' H0' q)
theorem ew_lcif {own : List (Str × Nat)} {scope : Scope} {tb : Bool} {is : List Nat} (hc : X.calm = true) (hN : X.N.Nodup) (ok : BlkOk X.N X.env.scope scope own) (ht : TgOk X tg scope tb is) (his : ∀ i ∈ is, i ∈ own.map (·.2)) (h : LcJ X G tg iter [c] elt scope tb is (own.map (·.2)) sl st fun acc st' => Φ (.dat (.lst acc)) st')
    (hs : ∀ x, foldedSetIterable iter X.env x = pure x := by intro _; rfl) : EW X G (.ListComp elt [⟨tg, iter, [c], 0⟩] scope pos) sl st Φ := fun A σ H H0 R Q k =>
  wpE_of (pe_lc hc hN pi_wp ok ht (fun s H C cl fp => pts_one (blkT_pt s H C cl fp)) blkE_pe hs) (lc_run (.inr ⟨c, rfl, rfl⟩) his h R fun w st' v A' H' H0' ⟨acc, ew, q⟩ => by subst ew; exact k _ st' v A' H' H0' q)
variable {E : KE}
theorem sw_setLc (i : Nat) {y : Str} {py spos : Pos} {own : List (Str × Nat)} {scope : Scope} {tb : Bool} {is : List Nat} (hc : X.calm = true) (hN : X.N.Nodup) (hyl : X.env.scope.names.lookup y = some .local) (hsw : swapsWith (.ListComp elt [⟨tg, iter, [], 0⟩] scope pos) (some (.Name y py)) spos.line X.env = pure true)
    (ok : BlkOk X.N X.env.scope scope own) (ht : TgOk X tg scope tb is) (his : ∀ i ∈ is, i ∈ own.map (·.2)) (h : LcJ X G tg iter [] elt scope tb is (own.map (·.2)) sl st fun acc st' => E.nx (sl.set i (some (.dat (.lst acc)))) st') (hy : X.N[i]? = some y := by rfl)
    (hs : ∀ x, foldedSetIterable iter X.env x = pure x := by intro _; rfl) : SW1 X G (.Assign [.Name y py] (.ListComp elt [⟨tg, iter, [], 0⟩] scope pos) spos) sl st E := fun A σ H H0 R D k =>
  wpS_of (ps_setLc hc hN hy hyl hsw pi_wp ok ht (fun _ _ _ _ _ => pts_nil) blkE_pe hs) (lc_run (.inl ⟨rfl, rfl⟩) his h R fun w st' v A' H' H0' ⟨acc, ew, q⟩ R' x' s' r' => by subst ew; exact k.nx A' _ H' H0' _ st' q (R'.set r' i) x' s')
theorem sw_setLcif (i : Nat) {y : Str} {py spos : Pos} {own : List (Str × Nat)} {scope : Scope} {tb : Bool} {is : List Nat} (hc : X.calm = true) (hN : X.N.Nodup) (hyl : X.env.scope.names.lookup y = some .local) (hsw : swapsWith (.ListComp elt [⟨tg, iter, [c], 0⟩] scope pos) (some (.Name y py)) spos.line X.env = pure true)
    (ok : BlkOk X.N X.env.scope scope own) (ht : TgOk X tg scope tb is) (his : ∀ i ∈ is, i ∈ own.map (·.2)) (h : LcJ X G tg iter [c] elt scope tb is (own.map (·.2)) sl st fun acc st' => E.nx (sl.set i (some (.dat (.lst acc)))) st') (hy : X.N[i]? = some y := by rfl)
    (hs : ∀ x, foldedSetIterable iter X.env x = pure x := by intro _; rfl) : SW1 X G (.Assign [.Name y py] (.ListComp elt [⟨tg, iter, [c], 0⟩] scope pos) spos) sl st E := fun A σ H H0 R D k =>
  wpS_of (ps_setLc hc hN hy hyl hsw pi_wp ok ht (fun s H C cl fp => pts_one (blkT_pt s H C cl fp)) blkE_pe hs) (lc_run (.inr ⟨c, rfl, rfl⟩) his h R fun w st' v A' H' H0' ⟨acc, ew, q⟩ R' x' s' r' => by subst ew; exact k.nx A' _ H' H0' _ st' q (R'.set r' i) x' s')
end
end Dn
namespace Dn
open PySem PySem.Spec L2 StX ClX
open PyProof.Rows hiding St
section
variable {X : Cx} {G : Ent} {e a b c o tg iter elt : Expr} {es : List Expr} {sl : Sls} {st : List Ob} {Φ : WK} {Ψ : BK} {pos p np pos' : Pos} {E : KE} {Kx : XKS} {body suite : List Stmt} {b₀ : Stmt} {x n : Str} {cv : Value}
theorem RS.at_entry {K : PySem.W.Frag} {A : List Addr} {σ : St} {H H0 : Hp} (R : RS K G A σ H H0 sl st) : RS K ⟨H, H0, A⟩ A σ H H0 sl st := ⟨R.sl, R.hs, Fr.refl R.hs⟩
theorem RS.back {K : PySem.W.Frag} {A A' : List Addr} {σ σ' : St} {H H' H0 H0' : Hp} {sl sl' : Sls} {st st' : List Ob} (R : RS K G A σ H H0 sl st) (R' : RS K ⟨H, H0, A⟩ A' σ' H' H0' sl' st') : RS K G A' σ' H' H0' sl' st' :=
  ⟨R'.sl, R'.hs, (R.after R'.hs R'.fr).fr⟩
theorem EOk.back {K : PySem.W.Frag} {A : List Addr} {σ : St} {H H0 : Hp} {D : Ends} (R : RS K G A σ H H0 sl st) (k : EOk K G A H0 E D) : EOk K ⟨H, H0, A⟩ A H0 E D :=
  ⟨fun A1 σ1 H1 H01 sl1 st1 q R1 => k.nx A1 σ1 H1 H01 sl1 st1 q (R.back R1), fun A1 σ1 H1 H01 sl1 st1 w v q R1 => k.rt A1 σ1 H1 H01 sl1 st1 w v q (R.back R1),
    fun A1 σ1 H1 H01 sl1 st1 q R1 => k.bk A1 σ1 H1 H01 sl1 st1 q (R.back R1), fun A1 σ1 H1 H01 sl1 st1 q R1 => k.ct A1 σ1 H1 H01 sl1 st1 q (R.back R1)⟩
theorem rep_err {K : PySem.W.Frag} {H0 : Hp} {d : Option Addr} {vfs : List (Str × V)} {fs : List (Str × D)} {a : Addr} {cls : Value} (xd : XD H0 d vfs) (rf : RepF K H0 vfs fs) : Rep K H0 (.ref a) (.err a d cls fs) := by
  rcases xd with ⟨rfl, rfl⟩ | ⟨dx, rfl, h⟩
  · cases rf
    exact .err0
  · exact .err h rf
theorem sw_try_as (i : Nat) {KxB : XKS} (xk : XOk X G Kx) (hc : Names X x cv) (hb : ∀ (G' : Ent) (pn : List (Addr × Obj)) (xe : Value → Shared → Prop), XOk (X.tr pn xe) G' KxB → PassesOwn (model X.prog X.w) X.A X.env xe → SW (X.tr pn xe) G' body sl st E)
    (hh : ∀ cls fs sl' st', KxB cls fs sl' st' → ∃ b, PySem.W.exmOne X.K cls cv = some b ∧ (b = true → ∀ (G' : Ent) (ad : Addr) (oe : Obj) (d : Option Addr) (pn : List (Addr × Obj)), Zc cls d oe → (∃ vs, oe.data = .fields vs) →
      SW (X.suite ad ((ad, oe) :: pn)) G' (b₀ :: suite) (sl'.set i (some (.dat (.err ad d cls fs)))) st' { nx := fun sl st => E.nx (sl.set i none) st, rt := E.rt, bk := fun sl st => E.bk (sl.set i none) st, ct := fun sl st => E.ct (sl.set i none) st }) ∧ (b = false → Kx cls fs sl' st'))
    (hN : X.N.Nodup) (hi : X.N[i]? = some n := by rfl) (hln : X.env.kindOf n = some .local := by rfl) (hs : X.stack = X.env :: X.outer := by rfl) (hf : X.env.frame = some X.env.locals := by rfl) :
    SW1 X G (.Try body [.ExceptHandler (some (.Name x np)) (some n) (b₀ :: suite) pos'] [] [] pos) sl st E := fun A σ H H0 R D k => by
  obtain ⟨Wx, tk, hW⟩ := xk
  have k1 := k.back R
  refine wpS_of (ps_try_as (tb := fun W D σ H => ∀ pn xe, Takes (X.tr pn xe) W → PassesOwn (model X.prog X.w) X.A X.env xe → wpSs (X.tr pn xe) body D σ H) (ts := fun a cls d D σ H => ∀ oe pn, Zc cls d oe → (∃ vs, oe.data = .fields vs) → wpSs (X.suite a ((a, oe) :: pn)) (b₀ :: suite) D σ H)
    hs hf hN hi hln hc tk (fun W pn xe t hp => ⟨fun pins sh σ H D I q => q pn xe t hp pins sh I⟩) (fun a oe cls d pn hz hv => ⟨fun pins sh σ H D I q => q oe pn hz hv pins sh I⟩)) ?_
  intro pn xe t hp
  refine hb ⟨H, H0, A⟩ pn xe ⟨_, t, fun cls fs d vfs A1 σ1 H1 H01 sl1 st1 q R1 xd rf => ?_⟩ hp A σ H H0 R.at_entry D k1
  obtain ⟨b, he, hy, hn⟩ := hh cls fs sl1 st1 q
  have R2 : RS X.K G A1 σ1 H1 H01 sl1 st1 := R.back R1
  refine ⟨b, he, fun hb1 ad had oe pn' hz hv => ?_, fun hb0 => hW cls fs d vfs A1 σ1 H1 H01 sl1 st1 (hn hb0) R2 xd rf⟩
  have k2 : EOk X.K G A1 H01 E D := k.mv R1.fr.pre R1.fr.old
  have gone : ∀ {A : List Addr} {σ : St} {H H0 : Hp} {sl : Sls} {st : List Ob}, RS X.K G A σ H H0 sl st → RS X.K G A (σ.set i none) H H0 (sl.set i none) st := fun {A σ H H0 sl st} R => ⟨R.sl.weak i none, R.hs, R.fr⟩
  exact hy hb1 G ad oe d pn' hz hv A1 _ H1 H01 (R2.set (show RepW X.K A1 H01 (.ref ad) (.dat (.err ad d cls fs)) from rep_err xd rf) i) _
    ⟨fun A4 σ4 H4 H04 sl4 st4 q4 R4 => k2.nx A4 _ H4 H04 _ st4 q4 (gone R4), fun A4 σ4 H4 H04 sl4 st4 w v q4 R4 => k2.rt A4 _ H4 H04 sl4 st4 w v q4 R4, fun A4 σ4 H4 H04 sl4 st4 q4 R4 => k2.bk A4 _ H4 H04 _ st4 q4 (gone R4), fun A4 σ4 H4 H04 sl4 st4 q4 R4 => k2.ct A4 _ H4 H04 _ st4 q4 (gone R4)⟩
def MkErr (X : Cx) (x f : Str) (C : Addr) : Prop := ∀ (a : Expr) (ta : TA) (p pos : Pos) (k : Nat), RoomG k X.A → PA X [a] ta → Gl X x → starEach (a :: []) X.env = (false, eval a X.env) :: starEach [] X.env → (backTo pos (starEach [] X.env)).any (·.1) = false →
  PMk X (.Call (.Name x p) [a] [] pos) (fun σ H Q => ta σ H fun vs H1 => ∃ v, vs = [v] ∧ ∀ d, H1 d = none → Q (.ref C) (some d) (upd H1 d (.xd [(f, v)])))
theorem sw_raise1 {f : Str} {C : Addr} {k : Nat} {pos2 : Pos} (T : MkErr X x f C) (hr : RoomG k X.A) (xk : XOk X G Kx) (h : EW X G a sl st fun w st1 => ∃ d, w = .dat d ∧ Kx (.ref C) [(f, d)] sl st1) (hc : X.calm = true := by rfl) (hg : Gl X x := by rfl)
    (he : starEach (a :: []) X.env = (false, eval a X.env) :: starEach [] X.env := by rfl) (hpl : (backTo pos (starEach [] X.env)).any (·.1) = false := by rfl) (hst : starEach (a :: []) X.env = (false, eval a X.env) :: starEach [] X.env := by rfl) : SW1 X G (.Raise (some (.Call (.Name x p) [a] [] pos)) none pos2) sl st E := fun A σ H H0 R D kk => by
  obtain ⟨Wx, tk, hW⟩ := xk
  refine wpS_of (ps_raise hc tk (T a _ p pos k hr (pa_cons pe_wp pa_nil hst) hg he hpl)) ?_
  refine h A σ H H0 R _ fun w st1 v A1 H1 H01 ⟨d, ew, q⟩ R1 x1 s1 r1 => ?_
  subst ew
  refine ⟨v, rfl, fun dd hd => ?_⟩
  have s0 := same_upd (o := .xd [(f, v)]) (R1.hs.free0 hd)
  exact hW _ _ _ _ A1 σ _ _ sl st1 q (R1.alloc hd) (.inr ⟨dd, rfl, upd_same⟩) (.cons (Rep.mono r1 s0) .nil)
def FldErr (X : Cx) (f : Str) (C : Addr) : Prop := ∀ (ad dx : Addr) (oe : Obj) (pn : List (Addr × Obj)) (e : Expr) (te : TE) (pos : Pos), Zc (.ref C) (some dx) oe → (∃ vs, oe.data = .fields vs) → PE (X.suite ad ((ad, oe) :: pn)) e te → attributeBase e f X.env (eval e X.env) = eval e X.env →
  PE (X.suite ad ((ad, oe) :: pn)) (.Attribute e f pos) (fun σ H Q => te σ H fun x H1 => x = .ref ad ∧ (Value.ref C = Value.ref C) ∧ ∃ (dd : Addr) (v : V), (some dx = some dd) ∧ H1 dd = some (.xd [(f, v)]) ∧ Q v H1)
theorem ew_errfld {f : Str} {C ad dx : Addr} {oe : Obj} {pn : List (Addr × Obj)} {d : D} (T : FldErr X f C) (hz : Zc (.ref C) (some dx) oe) (hv : ∃ vs, oe.data = .fields vs)
    (h : EW (X.suite ad ((ad, oe) :: pn)) G e sl st fun w st1 => w = .dat (.err ad (some dx) (.ref C) [(f, d)]) ∧ Φ (.dat d) st1) (hb : attributeBase e f X.env (eval e X.env) = eval e X.env := by rfl) : EW (X.suite ad ((ad, oe) :: pn)) G (.Attribute e f pos) sl st Φ := fun A σ H H0 R Q k => by
  refine wpE_of (T ad dx oe pn e _ pos hz hv pe_wp hb) (h A σ H H0 R _ fun w st1 v A1 H1 H01 ⟨ew, q⟩ R1 x1 s1 r1 => ?_)
  subst ew
  cases r1 with
  | err hx rf =>
    cases rf with
    | cons r0 rn =>
      cases rn
      exact ⟨rfl, rfl, dx, _, rfl, R1.hs.le _ _ hx, k _ st1 _ A1 H1 H01 q R1 x1 s1 r0⟩
end
end Dn
namespace Dn
open PySem PySem.Spec L2 StX ClX
open PyProof.Rows hiding St
def ixOf : List Str → Str → Nat
  | [], _ => 0
  | y :: r, x => if y = x then 0 else ixOf r x + 1
section
variable {X : Cx} {G : Ent} {e a b c o : Expr} {es : List Expr} {sl : Sls} {st : List Ob} {Φ : WK} {Ψ : BK} {pos p : Pos} {E : KE}
theorem ew_nm {x : Str} {w : W} (hi : sl[ixOf X.N x]? = some (some w)) (h : Φ w st) (hN : X.N[ixOf X.N x]? = some x := by rfl) (hv : Vis X.env.scope x := by first | exact Or.inl rfl | exact Or.inr (Or.inl rfl) | exact Or.inr (Or.inr rfl))
    (hd : (x == ("__debug__" : Str)) = false := by decide) (hcd : (x == ("__classdict__" : Str)) = false := by decide) : EW X G (.Name x pos) sl st Φ := ew_name _ hi h hN hv hd hcd
theorem ifB {b : Bool} {A B : Prop} (h1 : b = true → A) (h2 : b = false → B) : if b = true then A else B := by
  cases b with
  | true => rw [if_pos rfl]; exact h1 rfl
  | false => rw [if_neg Bool.false_ne_true]; exact h2 rfl
theorem ifD {P : Prop} [Decidable P] {A B : Prop} (h1 : P → A) (h2 : ¬ P → B) : if decide P = true then A else B := ifB (fun h => h1 (of_decide_eq_true h)) (fun h => h2 (of_decide_eq_false h))
theorem ifN {b : Bool} {A B : Prop} (h1 : b = false → A) (h2 : b = true → B) : if (!b) = true then A else B := by
  cases b with
  | false => rw [show (!false) = true from rfl, if_pos rfl]; exact h1 rfl
  | true => rw [show (!true) = false from rfl, if_neg Bool.false_ne_true]; exact h2 rfl
theorem ifN' {P : Prop} [Decidable P] {A B : Prop} (h1 : ¬ P → A) (h2 : P → B) : if (!decide P) = true then A else B := ifN (fun h => h1 (of_decide_eq_false h)) (fun h => h2 (of_decide_eq_true h))
theorem ifT {b : Bool} {A B : Prop} (hb : b = true) (h : A) : if b = true then A else B := by rw [if_pos hb]; exact h
theorem ifF {b : Bool} {A B : Prop} (hb : b = false) (h : B) : if b = true then A else B := by rw [hb, if_neg Bool.false_ne_true]; exact h
end
end Dn
namespace Dn
open PySem
theorem bt_isinstance : bootBuiltins "isinstance" = some (.builtin "isinstance") := by rfl
theorem bt_len : bootBuiltins "len" = some (.builtin "len") := by rfl
theorem bt_all : bootBuiltins "all" = some (.builtin "all") := by rfl
theorem bt_any : bootBuiltins "any" = some (.builtin "any") := by rfl
theorem bt_abs : bootBuiltins "abs" = some (.builtin "abs") := by rfl
theorem bt_min : bootBuiltins "min" = some (.builtin "min") := by rfl
theorem bt_max : bootBuiltins "max" = some (.builtin "max") := by rfl
theorem bt_int : bootBuiltins "int" = some (.type "int") := by rfl
theorem bt_bool : bootBuiltins "bool" = some (.type "bool") := by rfl
theorem bt_str : bootBuiltins "str" = some (.type "str") := by rfl
theorem bt_list : bootBuiltins "list" = some (.type "list") := by rfl
theorem bt_tuple : bootBuiltins "tuple" = some (.type "tuple") := by rfl
end Dn
namespace Dn
open PySem PySem.Spec L2 StX ClX
def tyOf : D → Option String
  | .non => some "NoneType" | .bl _ => some "bool" | .int _ => some "int" | .str _ => some "str" | .lst _ => some "list" | .tup _ => some "tuple"
  | _ => none
theorem tyD_of {K : PySem.W.Frag} {d : D} {t : String} (h : tyOf d = some t) : TyD K d (.type t) := by
  cases d <;> simp [tyOf] at h <;> subst h <;> constructor
def tys : List String := ["NoneType", "bool", "int", "str", "list", "tuple"]
theorem tyOf_mem {d : D} {t : String} (h : tyOf d = some t) : t ∈ tys := by
  cases d <;> simp [tyOf] at h <;> subst h <;> decide
def isA (a b : String) : Bool := a == b || (a == "bool" && b == "int")
theorem kit_isA : ∀ a ∈ tys, ∀ b ∈ tys, kitB a b = some (isA a b) := by decide +kernel
section
variable {X : Cx} {G : Ent} {sl : Sls} {st : List Ob} {Φ : WK}
theorem c_is1 {d : D} {t b : String} (ht : tyOf d = some t) (hb : b ∈ tys) (h : Φ (.dat (.bl (isA t b))) st) : CW X G (.builtin "isinstance") sl st [.dat d, .dat (.ty b)] Φ :=
  c_isi (tyD_of ht) (.ty b) (kit_ty (kit_isA t (tyOf_mem ht) b hb)) h
theorem c_is2 {d : D} {t b c : String} (ht : tyOf d = some t) (hb : b ∈ tys) (hc : c ∈ tys) (h : Φ (.dat (.bl (isA t b || isA t c))) st) : CW X G (.builtin "isinstance") sl st [.dat d, .dat (.tup [.ty b, .ty c])] Φ :=
  c_isiT (tyD_of ht) (.cons (.ty b) (.cons (.ty c) .nil)) (kitAny_cons (kit_ty (kit_isA t (tyOf_mem ht) b hb)) (fun h1 => by
    rw [h1, Bool.false_or]
    refine kitAny_cons (kit_ty (kit_isA t (tyOf_mem ht) c hc)) (fun h2 => by rw [h2]; exact kitAny_nil) (fun h2 => h2)) (fun h1 => by rw [h1]; rfl)) h
end
end Dn
namespace Dn
open PySem PySem.Spec L2 StX ClX
open PyProof.Rows hiding St
mutual
def toPy : D → Option PyData
  | .non => some .none
  | .bl b => some (.bool b)
  | .int i => some (.int i)
  | .str x => some (.str x)
  | .lst xs => (toPys xs).map .list
  | .tup xs => (toPys xs).map .tuple
  | _ => none
def toPys : List D → Option (List PyData)
  | [] => some []
  | x :: xs => match toPy x with
    | none => none
    | some p => (toPys xs).map (p :: ·)
end
mutual
theorem toPy_dp {K : PySem.W.Frag} {H : Hp} : ∀ (d : D) (v : V) (p : PyData), Rep K H v d → toPy d = some p → Dp K H v p
  | .non, _, _, r, h => by cases r; simp only [toPy, Option.some.injEq] at h; subst h; exact .non
  | .bl b, _, _, r, h => by cases r; simp only [toPy, Option.some.injEq] at h; subst h; exact .bl b
  | .int b, _, _, r, h => by cases r; simp only [toPy, Option.some.injEq] at h; subst h; exact .int b
  | .str b, _, _, r, h => by cases r; simp only [toPy, Option.some.injEq] at h; subst h; exact .str b
  | .lst xs, _, _, r, h => by
    cases r with
    | lst e rr =>
      simp only [toPy] at h
      obtain ⟨ps, h1, h2⟩ := Option.map_eq_some_iff.mp h
      subst h2
      exact .lst (.inl (.inl e)) (toPys_dp xs _ ps rr h1)
  | .tup xs, _, _, r, h => by
    cases r with
    | tup e rr =>
      simp only [toPy] at h
      obtain ⟨ps, h1, h2⟩ := Option.map_eq_some_iff.mp h
      subst h2
      exact .tup (.inl (.inl e)) (toPys_dp xs _ ps rr h1)
  | .ins _ _, _, _, _, h => by simp [toPy] at h
  | .scr _, _, _, _, h => by simp [toPy] at h
  | .adr _, _, _, _, h => by simp [toPy] at h
  | .ty _, _, _, _, h => by simp [toPy] at h
  | .err _ _ _ _, _, _, _, h => by simp [toPy] at h
theorem toPys_dp {K : PySem.W.Frag} {H : Hp} : ∀ (ds : List D) (vs : List V) (ps : List PyData), Reps K H vs ds → toPys ds = some ps → DpAll K H vs ps
  | [], _, _, r, h => by cases r; simp only [toPys, Option.some.injEq] at h; subst h; exact .nil
  | d :: ds, _, _, r, h => by
    cases r with
    | cons r rr =>
      simp only [toPys] at h
      cases e : toPy d with
      | none => rw [e] at h; cases h
      | some p =>
        rw [e] at h
        obtain ⟨ps, h1, h2⟩ := Option.map_eq_some_iff.mp h
        subst h2
        exact .cons (toPy_dp d _ p r e) (toPys_dp ds _ ps rr h1)
end
theorem dp_mono {K : PySem.W.Frag} {H H' : Hp} {v : V} {p : PyData} (h : Dp K H v p) (s : Same H H') : Dp K H' v p :=
  Dp.rec (motive_1 := fun v p _ => Dp K H' v p) (motive_2 := fun vs ps _ => DpAll K H' vs ps) .non .bl .int .str (fun h _ r => .lst (s.seq h) r)
    (fun h _ r => .tup (by
      rcases h with (h | ⟨o, h⟩) | h
      · exact .inl (.inl (s _ _ h))
      · exact .inl (.inr ⟨o, s _ _ h⟩)
      · exact .inr h) r) .nil (fun _ _ a b => .cons a b) h
section
variable {X : Cx} {G : Ent} {e a b c o : Expr} {es : List Expr} {sl : Sls} {st : List Ob} {Φ : WK} {Ψ : BK} {pos p : Pos} {E : KE} {j : Nat}
theorem o_eqD {d1 d2 : D} {p1 p2 : PyData} (hr : RoomG j X.A) (h1 : toPy d1 = some p1) (h2 : toPy d2 = some p2) (s1 : SeqAt.shaped p1 = true) (s2 : SeqAt.shaped p2 = true) (h : Φ (.dat (.bl (PyData.eqv p1 p2))) st) : OW X G (compareOp .Eq) sl st (.dat d1) (.dat d2) Φ := ow_of (op_eqD hr.units) fun A σ H H0 R v1 v2 r1 r2 Q k =>
  ⟨p1, p2, dp_mono (toPy_dp d1 v1 p1 r1 h1) R.hs.le, dp_mono (toPy_dp d2 v2 p2 r2 h2) R.hs.le, s1, s2, k _ st _ A H H0 h R (Ext.refl _) (Same.refl _) (.bl _)⟩
theorem o_neD {d1 d2 : D} {p1 p2 : PyData} (hr : RoomG j X.A) (h1 : toPy d1 = some p1) (h2 : toPy d2 = some p2) (s1 : SeqAt.shaped p1 = true) (s2 : SeqAt.shaped p2 = true) (h : Φ (.dat (.bl (!PyData.eqv p1 p2))) st) : OW X G (compareOp .NotEq) sl st (.dat d1) (.dat d2) Φ := ow_of (op_neD hr.units) fun A σ H H0 R v1 v2 r1 r2 Q k =>
  ⟨p1, p2, dp_mono (toPy_dp d1 v1 p1 r1 h1) R.hs.le, dp_mono (toPy_dp d2 v2 p2 r2 h2) R.hs.le, s1, s2, k _ st _ A H H0 h R (Ext.refl _) (Same.refl _) (.bl _)⟩
theorem o_eqI {i k : Int} (h : Φ (.dat (.bl (decide (i = k)))) st) : OW X G (compareOp .Eq) sl st (.dat (.int i)) (.dat (.int k)) Φ := o_eq rfl rfl rfl (by
  have : decide (V.int i = V.int k) = decide (i = k) := by simp
  rw [this]; exact h)
theorem o_neI {i k : Int} (h : Φ (.dat (.bl (!decide (i = k)))) st) : OW X G (compareOp .NotEq) sl st (.dat (.int i)) (.dat (.int k)) Φ := o_ne rfl rfl rfl (by
  have : decide (V.int i = V.int k) = decide (i = k) := by simp
  rw [this]; exact h)
theorem o_eqS {i k : Str} (h : Φ (.dat (.bl (decide (i = k)))) st) : OW X G (compareOp .Eq) sl st (.dat (.str i)) (.dat (.str k)) Φ := o_eq rfl rfl rfl (by
  have : decide (V.str i = V.str k) = decide (i = k) := by simp
  rw [this]; exact h)
theorem o_neS {i k : Str} (h : Φ (.dat (.bl (!decide (i = k)))) st) : OW X G (compareOp .NotEq) sl st (.dat (.str i)) (.dat (.str k)) Φ := o_ne rfl rfl rfl (by
  have : decide (V.str i = V.str k) = decide (i = k) := by simp
  rw [this]; exact h)
theorem o_eqB {i k : Bool} (h : Φ (.dat (.bl (decide (i = k)))) st) : OW X G (compareOp .Eq) sl st (.dat (.bl i)) (.dat (.bl k)) Φ := o_eq rfl rfl rfl (by
  have : decide (V.bl i = V.bl k) = decide (i = k) := by simp
  rw [this]; exact h)
end
theorem clos_nil : Clos [] := fun o ho => by simp at ho
theorem CloW.mono {n m : Nat} {w : W} (h : CloW n w) (hm : n ≤ m) : CloW m w := by
  cases w with
  | dat d => trivial
  | ptr j => exact Nat.lt_of_lt_of_le h hm
theorem Clo.mono {n m : Nat} {o : Ob} (h : Clo n o) (hm : n ≤ m) : Clo m o := by
  cases o with
  | gone => trivial
  | lst ws => exact fun w hw => (h w hw).mono hm
  | ins C fs => exact fun w hw => (h w hw).mono hm
  | dct kvs => exact fun w hw => (h w hw).mono hm
theorem clos_add {st : List Ob} {o : Ob} (h : Clos st) (ho : Clo (st.length + 1) o) : Clos (st ++ [o]) := fun u hu => by
  rw [List.length_append]
  rcases List.mem_append.mp hu with z | z
  · exact (h u z).mono (Nat.le_add_right _ _)
  · simp at z
    subst z
    exact ho
theorem clos_set {st : List Ob} {o : Ob} {j : Nat} (h : Clos st) (ho : Clo st.length o) : Clos (st.set j o) := fun u hu => by
  rw [List.length_set]
  rcases List.mem_or_eq_of_mem_set hu with z | z
  · exact h u z
  · subst z
    exact ho
section
variable {X : Cx} {G : Ent} {e : Expr} {sl : Sls} {st : List Ob} {Φ : WK} {Ψ : BK}
theorem tw_mid (b : Bool) (h : TW X G e sl st fun k st' => k = b ∧ st' = st) (q : Ψ b st) : TW X G e sl st Ψ := h.imp fun k st' ⟨e1, e2⟩ => by rw [e1, e2]; exact q
theorem ew_mid (w : W) (h : EW X G e sl st fun w' st' => w' = w ∧ st' = st) (q : Φ w st) : EW X G e sl st Φ := h.imp fun k st' ⟨e1, e2⟩ => by rw [e1, e2]; exact q
end
end Dn
namespace Dn
open PySem PySem.Spec L2 StX ClX
open PyProof.Rows hiding St
open AutoSeq1 (wpAny_loadPart')
theorem enumT_new (l : Addr) (items : Array Value) (n : Nat) (dct : Option Addr) (sl : Array (Option Value)) :
    Meets (Builtin.«enumerate.__new__» ⟨[.type "enumerate", .ref l], []⟩) (fun _ R s => s.heap.get? l = some { cls := .type "tuple", dict := dct, data := .seq items n, slots := sl } ∧
      R (.ok (.ret (.ref (s.heap.push { cls := .type "tuple_iterator", data := .fields #[.ref l, .int 0 0] }).objs.size)))
        { s with heap := (s.heap.push { cls := .type "tuple_iterator", data := .fields #[.ref l, .int 0 0] }).push { cls := .type "enumerate", data := .fields #[.none, .bool false, .ref s.heap.objs.size, rawInt 0, .none, .none] } }) :=
  .of_wp fun prog w A R s h => by
    obtain ⟨hp, g, d, tk, os⟩ := s; obtain ⟨hl, h⟩ := h
    have hsub := sub_enumerate
    have hL : Heap.IsTuple (Shared.heap ⟨hp, g, d, tk, os⟩) l items := ⟨_, hl, rfl, n, rfl⟩
    wp_walk using wpAny_loadPart' hl
    refine wpAny_stack_any fun st => wpAny_pure ?_
    split
    · rename_i c _ _ _ _ _
      cases (c == Value.type "enumerate")
      · wp_walk using wpAny_loadPart' hl, wpAny_pyIter_tuple hL
        exact ⟨_, rfl, h⟩
      · wp_walk using wpAny_loadPart' hl, wpAny_pyIter_tuple hL
        exact ⟨_, rfl, h⟩
    · wp_walk using wpAny_loadPart' hl, wpAny_pyIter_tuple hL
      exact ⟨_, rfl, h⟩
theorem call_enumT {prog : Program} {w : World} {A : Around} {E : Value → Shared → Prop} {s : Shared} {l : Addr} {items : Array Value} {Q : Value → Shared → Prop} (hL : s.heap.IsTuple l items)
    (h : ∀ h', IsEnum h' (s.heap.objs.size + 1) s.heap.objs.size 0 .none → h'.IsTupleIter s.heap.objs.size l 0 → h'.objs.size = s.heap.objs.size + 2 →
      (∀ b o, s.heap.get? b = some o → h'.get? b = some o) → Q (.ref (s.heap.objs.size + 1)) { s with heap := h' }) :
    wpAny (model prog w) A (call (.type "enumerate") [.ref l]) Q E s := by
  obtain ⟨⟨c, dct, dt, sl⟩, hl, hc, n, hd⟩ := hL
  replace hc : c = .type "tuple" := hc
  replace hd : dt = .seq items n := hd
  subst hc hd
  refine callType_new F.called_enumerate (by decide) (F.typeCall_enumerate_1 _) (F.newCall_enumerate_1 _) (fun obj => F.args_object_init_2 obj _) F.entry_enumerate_new
    (enumT_new l items n dct sl) ⟨hl, ?_⟩
  have hz : (s.heap.push { cls := .type "tuple_iterator", data := .fields #[.ref l, .int 0 0] }).objs.size = s.heap.objs.size + 1 := Heap.size_push ..
  show _ ∧ _
  rw [hz]
  have he : IsEnum ((s.heap.push { cls := .type "tuple_iterator", data := .fields #[.ref l, .int 0 0] }).push
      { cls := .type "enumerate", data := .fields #[.none, .bool false, .ref s.heap.objs.size, rawInt 0, .none, .none] }) (s.heap.objs.size + 1) s.heap.objs.size 0 .none := by
    have := Heap.get?_push_size (s.heap.push { cls := .type "tuple_iterator", data := .fields #[.ref l, .int 0 0] })
      (o := { cls := .type "enumerate", data := .fields #[.none, .bool false, .ref s.heap.objs.size, rawInt 0, .none, .none] }) rfl
    rw [hz] at this; exact this
  refine ⟨⟨_, he, rfl⟩, h _ he ⟨_, Heap.get?_push_of_some _ (Heap.get?_push_size _ rfl), rfl, rfl⟩ (by rw [Heap.size_push, hz]) fun b o x => Heap.get?_push_of_some _ (Heap.get?_push_of_some _ x)⟩
def IteT (K : PySem.W.Frag) (a : Addr) : It :=
  ⟨fun i H => ∃ (xs : List V) (x : V), SqT K H a xs ∧ xs[i]? = some x, fun i H v H' => ∃ T x, v = .ref T ∧ H T = none ∧ H' = upd H T (.tup [.int (i : Nat), x]) ∧ ∀ xs, SqT K H a xs → xs[i]? = some x, fun i H => ∃ xs : List V, SqT K H a xs ∧ xs.length = i⟩
theorem turn_enumT {P : Program} {w : World} {K : PySem.W.Frag} {elts : List Expr} {kk : Nat} {tpos : Pos} (a e it : Addr) (hai : a ≠ it) (hae : e ≠ a) :
    Turn P w K (.Tuple elts kk tpos) (IteT K a) [e, it] e (fun i h => (∃ old, IsEnum h e it ((i : Nat) : Int) old) ∧ h.IsTupleIter it a i ∧ e ≠ it) where
  mem := by simp
  obj := fun i h st b hb => by
    obtain ⟨⟨old, he⟩, ⟨o, ho, hc, hd⟩, _⟩ := st
    have e' : b = e ∨ b = it := by simpa using hb
    rcases e' with z | z
    · rw [z]; exact ⟨_, he, fun v q => nomatch q⟩
    · rw [z]; exact ⟨o, ho, fun v q => by rw [hd] at q; cases q⟩
  keep := fun i h h' st k => let ⟨⟨old, he⟩, hi, hne⟩ := st; ⟨⟨old, k e (by simp) _ he⟩, hi.at fun o q => k it (by simp) o q, hne⟩
  item := by
    intro X hP hw hK hc i pins s σ H E I hf st hg
    subst hP hw hK
    obtain ⟨⟨old, he⟩, hit, hne⟩ := st
    obtain ⟨xs, x, hq, hx⟩ := hg
    obtain ⟨its, rv, p, hz⟩ := I.tuple hq
    obtain ⟨u, hu, ru⟩ := rv.get hx
    have hel : e < s.heap.objs.size := Heap.lt_size he
    have hil : it < s.heap.objs.size := by obtain ⟨_, q, _⟩ := hit; exact Heap.lt_size q
    have pt : s.heap.IsTuple a its.toArray := p
    have hlt : i < its.toArray.size := by
      have := (List.getElem?_eq_some_iff.mp hu).1
      simpa using this
    refine wpAny_pyNext_enum_itemD (Draws.tuple (A := X.A.in1) (I.ok.hd hc) it a hai its.toArray) he ⟨hit, pt⟩ hlt hne (by simp [hne, hae]) fun x' h' tk hPx ho hst' hT hsz hk => ?_
    have hxu : x' = u := by
      have h1 : its.toArray[i]? = some x' := hPx
      have h2 : its[i]? = some x' := by simpa using h1
      rw [hu] at h2
      exact (Option.some.inj h2).symm
    subst hxu
    obtain ⟨hit', _⟩ := hst'
    refine ⟨_, rfl, wpAny_letOwnedTupleGo_enum (s := { s with heap := h', toks := tk + 1 }) ho fun h'' he' sb => ?_⟩
    have hT2 : h''.get? s.heap.objs.size = some { cls := .type "tuple", data := .seq #[.int i tk, x'] } := (sb.2 _ (Nat.ne_of_gt hel)).trans hT
    have new : ObjOk X.prog X.w (upd H s.heap.objs.size (.tup [.int (i : Nat), x])) h'' s.heap.objs.size (.tup [.int (i : Nat), x]) :=
      ⟨by show 2 ≤ sizeLine; decide, [.int i tk, x'], .cons ⟨_, rfl⟩ (.cons ru .nil), ⟨_, hT2, rfl, _, rfl⟩⟩
    have I1 : Inv X pins σ (upd H s.heap.objs.size (.tup [.int (i : Nat), x])) { s with heap := h'', toks := tk + 1 } :=
      I.turnedNew (ch := [e, it]) (fun b ob hb q => (sb.2 b (fun z => hb (by simp [z]))).trans (hk b ob (fun z => hb (by simp [z])) (fun z => hb (by simp [z])) q)) hf (Nat.le_refl _) new
    refine ⟨.ref s.heap.objs.size, _, I1, rfl, ⟨_, x, rfl, I.hok.fresh (Nat.le_refl _), rfl, fun ys hy => by rw [I.tuple_inj hy hq]; exact hx⟩, ⟨⟨x', ?_⟩, hit'.at fun o q => (sb.2 it (Ne.symm hne)).trans q, hne⟩, fun b hb => ?_⟩
    · have e1 : ((i + 1 : Nat) : Int) = (i : Int) + 1 := by omega
      rw [e1]; exact he'
    · have hb' : b < s.heap.objs.size := by
        have e' : b = e ∨ b = it := by simpa using hb
        rcases e' with z | z
        · rw [z]; exact hel
        · rw [z]; exact hil
      rw [upd_ne (Nat.ne_of_lt hb')]
      exact (hf b hb).1
  done := by
    intro X hP hw hK hc i pins s σ H E I hf st hg
    subst hP hw hK
    obtain ⟨⟨old, he⟩, hit, hne⟩ := st
    obtain ⟨xs, hq, hx⟩ := hg
    obtain ⟨its, rv, p, hz⟩ := I.tuple hq
    obtain ⟨f0, f1, f2, f3, f4, f5⟩ := hf it (by simp)
    have hl := rv.length
    have pt : s.heap.IsTuple a its.toArray := p
    have hsz : its.toArray.size = i := by rw [List.size_toArray, ← hl]; exact hx
    have Dt := Draws.tuple (prog := X.prog) (w := X.w) (A := X.A.in1) (I.ok.hd hc) it a hai its.toArray
    rw [hsz] at Dt
    refine wpAny_pyNext_enum_endD Dt he (show s.heap.IsTupleIter it a i ∧ s.heap.IsTuple a its.toArray from ⟨hit, pt⟩) fun h' eb => ⟨rfl, I.turned (t' := s.toks) (fun b o hb q => eb b o hb q) f0 f1 f3 f4 f5⟩
  self := fun A i s Q E st h => let ⟨⟨_, he⟩, _⟩ := st; wpAny_pyIter_enum he h
def iEnumT (K : PySem.W.Frag) (ta : TA) : TI := fun σ H R => ta σ H fun vs H1 => ∃ a xs, vs = [.ref a] ∧ SqT K H1 a xs ∧ R (IteT K a) H1
theorem pi_enumT {X : Cx} {e : Expr} {ta : TA} {p pos tpos : Pos} {elts : List Expr} {kk : Nat} (hg : Gl X "enumerate") (hm : X.mg "enumerate" = none) (ha : PA X [e] ta) (hs : starEach [e] X.env = [(false, eval e X.env)] := by rfl) :
    PI X (.Tuple elts kk tpos) (.Call (.Name "enumerate" p) [e] [] pos) (iEnumT X.K ta) := by
  refine ⟨fun pins s σ H R I h => ?_⟩
  refine Call_ (ld_blt I hg hm boot_enumerate (PyProof.Rows.callWith_type1 (thn (ha.run pos pins s σ H _ I h) fun us s1 ⟨vs, H1, I1, r1, q1⟩ => ?_) hs rfl))
  obtain ⟨a, xs, ex, hq, q⟩ := q1
  subst ex
  cases r1 with
  | cons r rr =>
    cases rr
    cases r
    obtain ⟨its, rv, p', hz⟩ := I1.tuple hq
    have pt : s1.heap.IsTuple a its.toArray := p'
    have hal : a < s1.heap.objs.size := by obtain ⟨o, e1, _⟩ := pt; exact Heap.lt_size e1
    refine call_enumT pt fun h' he hit hsz hk => wpAny_pyIter_enum he ?_
    have I2 : Inv X pins σ H1 { s1 with heap := h' } := I1.kept (t' := s1.toks) hk
    refine ⟨s1.heap.objs.size + 1, [s1.heap.objs.size + 1, s1.heap.objs.size], _, _, H1, rfl, I2, turn_enumT a (s1.heap.objs.size + 1) s1.heap.objs.size (Nat.ne_of_lt hal) (Nat.ne_of_gt (Nat.lt_succ_of_lt hal)), ⟨⟨.none, he⟩, hit, Nat.succ_ne_self _⟩, fun b hb => ?_, q⟩
    have e' : b = s1.heap.objs.size + 1 ∨ b = s1.heap.objs.size := by simpa using hb
    have hle : s1.heap.objs.size ≤ b := by
      rcases e' with z | z
      · rw [z]; exact Nat.le_add_right _ _
      · rw [z]; exact Nat.le_refl _
    exact I1.fpOk hle (I1.hok.fresh hle)
theorem items_enumT {K : PySem.W.Frag} {a : Addr} {vs : List V} {xs : List D} {A1 : List Addr} {H01 : Hp} (he : H01 a = some (.tup vs)) (rr : Reps K H01 vs xs) : Items K (IteT K a) (enm xs) A1 H01 := fun i G' A' σ' H' H0' sl' st' R x s => by
  have hs : SqT K H' a vs := .inl (.inl (R.hs.le _ _ (s _ _ he)))
  have hl := rr.length
  rw [enm_length]
  refine ⟨fun hi => ⟨⟨vs, vs[i]'(by omega), hs, List.getElem?_eq_getElem _⟩, fun v H'' y => ?_⟩, fun hi => ⟨vs, hs, by omega⟩⟩
  obtain ⟨T, x, ev, hT, eH, y⟩ := y
  subst ev eH
  obtain ⟨d, hd, rd⟩ := rr.get' (y vs hs)
  have s0 := same_upd (o := .tup [V.int ((i : Nat) : Int), x]) (R.hs.free0 hT)
  exact ⟨_, _, enm_get hd, R.alloc hT, s0, same_upd hT, .tup upd_same (.cons (.int _) (.cons ((rd.mono s).mono s0) .nil))⟩
theorem iw_enumT {X : Cx} {G : Ent} {e : Expr} {sl : Sls} {st : List Ob} {Θ : IK} {p pos : Pos} {elts : List Expr} {kk : Nat} {tpos : Pos} (hm : X.mg "enumerate" = none) (h : AW X G [e] sl st fun ws st1 => ∃ xs, ws = [.dat (.tup xs)] ∧ Θ (enm xs) st1) (hg : Gl X "enumerate" := by rfl) (hs : starEach [e] X.env = [(false, eval e X.env)] := by rfl) :
    IWJ X G (.Tuple elts kk tpos) (.Call (.Name "enumerate" p) [e] [] pos) sl st Θ := fun A σ H H0 R Rr k =>
  wpI_of (pi_enumT hg hm pa_wp hs) (h A σ H H0 R _ fun ws st1 vs A1 H1 H01 ⟨xs, ew, q⟩ R1 x1 s1 r1 => by
    subst ew
    obtain ⟨v, rfl, r⟩ := rep1 r1
    cases r with
    | tup e rr => exact ⟨_, _, rfl, .inl (.inl (R1.hs.le _ _ e)), k _ _ st1 A1 H1 H01 q R1 x1 s1 (items_enumT e rr)⟩)
end Dn
namespace Dn
open PySem PySem.Spec L2 StX ClX
open PyProof.Rows hiding St
section
variable {X : Cx} {G : Ent} {e a b c o tg iter elt : Expr} {es : List Expr} {sl : Sls} {st : List Ob} {Φ : WK} {Ψ : BK} {pos p : Pos} {scope : Scope} {tb : Bool} {is vs : List Nat} {fin : List D → List Ob → Prop}
theorem lcj_pure (ys : List D) (hz : ys.length < sizeLine) (hi : IWJ X G tg iter sl st fun ws st1 => st1 = st ∧ ws.length = ys.length ∧
      ∀ (i : Nat) (w : W) (y : D), ws[i]? = some w → ys[i]? = some y → ∃ sl2, tset tb is w (wipeL sl vs) = some sl2 ∧ EWb X scope elt sl2 st fun w' st' => w' = .dat y ∧ st' = st) (hf : fin ys st) : LcJ X G tg iter [] elt scope tb is vs sl st fin := fun A σ H H0 R Rr k =>
  hi A σ H H0 R Rr fun J ws st1 A1 H1 H01 ⟨e1, hl, turn⟩ R1 x1 s1 it => k J ws st1 A1 H1 H01 ⟨fun i acc st' => acc = ys.take i ∧ st' = st, ⟨by simp, e1⟩, fun i w acc st' hw ⟨ea, es⟩ => by
    have hiw := (List.getElem?_eq_some_iff.mp hw).1
    have hiy : i < ys.length := by omega
    obtain ⟨sl2, h1, h2⟩ := turn i w ys[i] hw (List.getElem?_eq_getElem hiy)
    refine ⟨sl2, h1, fun G2 s Hb C cl fp => ?_⟩
    subst es
    refine (h2 G2 s Hb C cl fp).imp fun w' st2 ⟨ew, es2⟩ => ⟨ys[i], ew, ?_, ?_, es2⟩
    · rw [ea, List.length_take]
      omega
    · rw [ea, List.take_succ, List.getElem?_eq_getElem hiy]
      rfl, fun acc st' ⟨ea, es⟩ => by
    rw [ea, hl, List.take_length, es]
    exact hf⟩ R1 x1 s1 it
theorem lcj_filter (bs : List Bool) (ys : List D) (hz : ys.length < sizeLine) (hbl : bs.length = ys.length) (hi : IWJ X G tg iter sl st fun ws st1 => st1 = st ∧ ws.length = ys.length ∧
      ∀ (i : Nat) (w : W) (b : Bool) (y : D), ws[i]? = some w → bs[i]? = some b → ys[i]? = some y → ∃ sl2, tset tb is w (wipeL sl vs) = some sl2 ∧ TWb X scope c sl2 st fun b' st' => b' = b ∧ st' = st ∧ (b = true → EWb X scope elt sl2 st fun w' st' => w' = .dat y ∧ st' = st))
    (hf : fin (((bs.zip ys).filter (·.1)).map (·.2)) st) : LcJ X G tg iter [c] elt scope tb is vs sl st fin := fun A σ H H0 R Rr k =>
  hi A σ H H0 R Rr fun J ws st1 A1 H1 H01 ⟨e1, hl, turn⟩ R1 x1 s1 it => k J ws st1 A1 H1 H01 ⟨fun i acc st' => acc = (((bs.zip ys).take i).filter (·.1)).map (·.2) ∧ st' = st, ⟨by simp, e1⟩, fun i w acc st' hw ⟨ea, es⟩ => by
    have hiw := (List.getElem?_eq_some_iff.mp hw).1
    have hiy : i < ys.length := by omega
    have hib : i < bs.length := by omega
    obtain ⟨sl2, h1, h2⟩ := turn i w bs[i] ys[i] hw (List.getElem?_eq_getElem hib) (List.getElem?_eq_getElem hiy)
    have hzi : (bs.zip ys)[i]? = some (bs[i], ys[i]) := by
      rw [List.getElem?_eq_getElem (by simp; omega)]
      simp
    refine ⟨sl2, h1, fun G2 s Hb C cl fp => ?_⟩
    subst es
    refine (h2 G2 s Hb C cl fp).imp fun b' st2 ⟨eb, es2, q⟩ => ?_
    subst eb es2
    cases hb : bs[i] with
    | true =>
      rw [if_pos rfl]
      intro G3 s3 Hb3 C3 cl3 fp3
      refine (q hb G3 s3 Hb3 C3 cl3 fp3).imp fun w' st2 ⟨ew, es2⟩ => ⟨ys[i], ew, ?_, ?_, es2⟩
      · rw [ea, List.length_map]
        have := List.length_filter_le (fun x : Bool × D => x.1) ((bs.zip ys).take i)
        rw [List.length_take, List.length_zip] at this
        omega
      · rw [ea, List.take_succ, hzi]
        simp [hb]
    | false =>
      rw [if_neg Bool.false_ne_true]
      refine ⟨?_, rfl⟩
      rw [ea, List.take_succ, hzi]
      simp [hb], fun acc st' ⟨ea, es⟩ => by
    rw [ea, es, hl, List.take_of_length_le (by rw [List.length_zip]; omega)]
    exact hf⟩ R1 x1 s1 it
theorem getElem?_mapW {xs : List D} {i : Nat} {w : W} (h : (xs.map W.dat)[i]? = some w) : ∃ d, xs[i]? = some d ∧ w = .dat d := by
  rw [List.getElem?_map] at h
  cases e : xs[i]? with
  | none => rw [e] at h; cases h
  | some d => rw [e] at h; exact ⟨d, rfl, (Option.some.inj h).symm⟩
theorem getElem?_rng {lo : Int} {n i : Nat} {w : W} (h : (rng lo n)[i]? = some w) : i < n ∧ w = .dat (.int (lo + i)) := by
  have hi : i < n := by
    have := (List.getElem?_eq_some_iff.mp h).1
    rwa [rng_length] at this
  rw [rng_get hi] at h
  exact ⟨hi, (Option.some.inj h).symm⟩
theorem getElem?_enm {xs : List D} {i : Nat} {w : W} (h : (enm xs)[i]? = some w) : ∃ d, xs[i]? = some d ∧ w = .dat (.tup [.int (i : Int), d]) := by
  have hi : i < xs.length := by
    have := (List.getElem?_eq_some_iff.mp h).1
    rwa [enm_length] at this
  rw [enm_get (List.getElem?_eq_getElem hi)] at h
  exact ⟨xs[i], List.getElem?_eq_getElem hi, (Option.some.inj h).symm⟩
end
theorem szl {n : Nat} (h : n ≤ 1000000) : n < sizeLine := Nat.lt_of_le_of_lt h (by decide)
theorem szl' {n : Nat} (h : n ≤ 1000000) : n ≤ sizeLine := Nat.le_of_lt (szl h)
theorem itm_lst {st : List Ob} {xs : List D} {i : Int} {j : Nat} {d : D} (e : i = (j : Int)) (h : xs[j]? = some d) : Itm st (.dat (.lst xs)) i = some (.dat d) := by
  subst e
  show (atI xs (j : Int)).map W.dat = _
  rw [atI_nat h]
  rfl
theorem itm_tup {st : List Ob} {xs : List D} {i : Int} {j : Nat} {d : D} (e : i = (j : Int)) (h : xs[j]? = some d) : Itm st (.dat (.tup xs)) i = some (.dat d) := by
  subst e
  show (atI xs (j : Int)).map W.dat = _
  rw [atI_nat h]
  rfl
theorem itm_scr {st : List Ob} {xs : List Int} {i : Int} {j : Nat} {d : Int} (e : i = (j : Int)) (h : xs[j]? = some d) : Itm st (.dat (.scr xs)) i = some (.dat (.int d)) := by
  subst e
  show (atI xs (j : Int)).map _ = _
  rw [atI_nat h]
  rfl
theorem itm_ptr {st : List Ob} {xs : List W} {i : Int} {j k : Nat} {w : W} (hk : st[k]? = some (.lst xs)) (e : i = (j : Int)) (h : xs[j]? = some w) : Itm st (.ptr k) i = some w := by
  subst e
  simp only [Itm, hk]
  exact atI_nat h
end Dn
namespace Dn
open PySem PySem.Spec L2 StX ClX
open PyProof.Rows hiding St
section
variable {X : Cx} {G : Ent} {e a b c o : Expr} {es : List Expr} {sl : Sls} {st : List Ob} {Φ : WK} {Ψ : BK} {pos p : Pos}
theorem op_is_nb : OpR X (compareOp .Is) (fun x y H Q => ∃ b, x = .non ∧ y = .bl b ∧ Q (.bl false) H) := by
  intro pins s σ H x y v u Q I rx ry h
  obtain ⟨b, rfl, rfl, q⟩ := h
  cases (show v = Value.none from rx)
  cases (show u = Value.bool b from ry)
  exact wpAny_is_other rfl (fun z => nomatch z) ⟨.bl false, H, I, rfl, q⟩
def optB : Option Bool → D
  | none => .non
  | some b => .bl b
theorem o_isB {ob : Option Bool} {b : Bool} (h : Φ (.dat (.bl (ob == some b))) st) : OW X G (compareOp .Is) sl st (.dat (optB ob)) (.dat (.bl b)) Φ := by
  cases ob with
  | none =>
    refine ow_of op_is_nb fun A σ H H0 R v1 v2 r1 r2 Q k => ?_
    cases r1
    cases r2
    exact ⟨b, rfl, rfl, k _ st _ A H H0 h R (Ext.refl _) (Same.refl _) (.bl _)⟩
  | some a =>
      refine ow_of op_is_bl fun A σ H H0 R v1 v2 r1 r2 Q k => ?_
      cases r1
      cases r2
      have e : (some a == some b) = decide (a = b) := by cases a <;> cases b <;> rfl
      rw [e] at h
      exact ⟨a, b, rfl, rfl, k _ st _ A H H0 h R (Ext.refl _) (Same.refl _) (.bl _)⟩
theorem scV_flat {d : D} {x : V} (h : scV d = some x) : flatV x = true := by cases d <;> simp [scV] at h <;> subst h <;> rfl
def scVs : List D → Option (List V)
  | [] => some []
  | d :: ds => match scV d with
    | none => none
    | some x => (scVs ds).map (x :: ·)
theorem scVs_rep {K : PySem.W.Frag} {H : Hp} : ∀ {ds : List D} {vs us : List V}, Reps K H vs ds → scVs ds = some us → vs = us ∧ us.all flatV = true
  | [], _, _, .nil, h => by cases h; exact ⟨rfl, rfl⟩
  | d :: ds, _, us, .cons r rr, h => by
    simp only [scVs] at h
    cases e : scV d with
    | none => rw [e] at h; cases h
    | some x =>
      rw [e] at h
      obtain ⟨us', h1, h2⟩ := Option.map_eq_some_iff.mp h
      subst h2
      obtain ⟨e1, e2⟩ := scVs_rep rr h1
      rw [scV_rep r e, e1, List.all_cons, scV_flat e, e2]
      exact ⟨rfl, rfl⟩
def SeqD (st : List Ob) (w : W) (ds : List D) : Prop := w = .dat (.lst ds) ∨ w = .dat (.tup ds) ∨ ∃ j, w = .ptr j ∧ st[j]? = some (.lst (ds.map W.dat))
theorem seqD_at {K : PySem.W.Frag} {A : List Addr} {σ : St} {H H0 : Hp} {v : V} {w : W} {ds : List D} (R : RS K G A σ H H0 sl st) (h : SeqD st w ds) (r : RepW K A H0 v w) : ∃ p vs, v = .ref p ∧ (SqL K H p vs ∨ SqT K H p vs) ∧ Reps K H0 vs ds := by
  rcases h with rfl | rfl | ⟨j, rfl, hj⟩
  · cases r with
    | lst e rr => exact ⟨_, _, rfl, .inl (.inl (.inl (R.hs.le _ _ e))), rr⟩
  · cases r with
    | tup e rr => exact ⟨_, _, rfl, .inr (.inl (.inl (R.hs.le _ _ e))), rr⟩
  · obtain ⟨ad, ha, hn, vs, he, rr⟩ := R.at hj
    obtain ⟨a', ha', rfl⟩ := r
    have : a' = ad := Option.some.inj (ha'.symm.trans ha)
    subst this
    exact ⟨_, _, rfl, .inl (.inl (.inl he)), rr.dats⟩
theorem o_in {d : D} {w : W} {ds : List D} {x : V} {xs : List V} (h0 : scV d = some x) (h1 : SeqD st w ds) (h2 : scVs ds = some xs) (h : Φ (.dat (.bl (inV x xs))) st) : OW X G (compareOp .In) sl st (.dat d) w Φ := ow_of op_in_seq fun A σ H H0 R v1 v2 r1 r2 Q k => by
  obtain ⟨p, vs, rfl, hq, rr⟩ := seqD_at R h1 r2
  obtain ⟨e1, e2⟩ := scVs_rep rr h2
  rw [scV_rep r1 h0]
  rw [e1] at hq
  exact ⟨p, xs, rfl, hq, scV_flat h0, e2, k _ st _ A H H0 h R (Ext.refl _) (Same.refl _) (.bl _)⟩
theorem o_notin {d : D} {w : W} {ds : List D} {x : V} {xs : List V} (h0 : scV d = some x) (h1 : SeqD st w ds) (h2 : scVs ds = some xs) (h : Φ (.dat (.bl (!inV x xs))) st) : OW X G (compareOp .NotIn) sl st (.dat d) w Φ := ow_of op_notIn_seq fun A σ H H0 R v1 v2 r1 r2 Q k => by
  obtain ⟨p, vs, rfl, hq, rr⟩ := seqD_at R h1 r2
  obtain ⟨e1, e2⟩ := scVs_rep rr h2
  rw [scV_rep r1 h0]
  rw [e1] at hq
  exact ⟨p, xs, rfl, hq, scV_flat h0, e2, k _ st _ A H H0 h R (Ext.refl _) (Same.refl _) (.bl _)⟩
end
section
variable {X : Cx} {G : Ent} {sl : Sls} {st : List Ob} {s : Stmt} {ss : List Stmt} {E E' : KE}
theorem SW1.imp (h : SW1 X G s sl st E') (h1 : ∀ sl st, E'.nx sl st → E.nx sl st) (h2 : ∀ w st, E'.rt w st → E.rt w st) (h3 : ∀ sl st, E'.bk sl st → E.bk sl st) (h4 : ∀ sl st, E'.ct sl st → E.ct sl st) : SW1 X G s sl st E := fun A σ H H0 R D k =>
  h A σ H H0 R D ⟨fun A1 σ1 H1 H01 sl1 st1 q => k.nx A1 σ1 H1 H01 sl1 st1 (h1 _ _ q), fun A1 σ1 H1 H01 sl1 st1 w v q => k.rt A1 σ1 H1 H01 sl1 st1 w v (h2 _ _ q), fun A1 σ1 H1 H01 sl1 st1 q => k.bk A1 σ1 H1 H01 sl1 st1 (h3 _ _ q), fun A1 σ1 H1 H01 sl1 st1 q => k.ct A1 σ1 H1 H01 sl1 st1 (h4 _ _ q)⟩
theorem sw_cut (M : GK) (h : SW1 X G s sl st { E with nx := M }) (q : ∀ sl st, M sl st → SW X G ss sl st E) : SW X G (s :: ss) sl st E := sw_cons (h.imp (fun sl st hm => q sl st hm) (fun _ _ x => x) (fun _ _ x => x) (fun _ _ x => x))
end
theorem at_end {st : List Ob} {o : Ob} : (st ++ [o])[st.length]? = some o := by simp
theorem set_end {st : List Ob} {o u : Ob} : (st ++ [o]).set st.length u = st ++ [u] := by simp
theorem ixN_m1 {n : Nat} (h : 0 < n) : ixN n (-1) = some (n - 1) := by
  unfold ixN
  rw [if_neg (by decide), if_pos (by omega)]
  congr 1
  omega
theorem atI_m1 {α : Type} {xs : List α} {v : α} (h : xs.getLast? = some v) : atI xs (-1) = some v := by
  have hne : xs ≠ [] := by rintro rfl; cases h
  have hp : 0 < xs.length := List.length_pos_iff.mpr hne
  unfold atI
  rw [ixN_m1 hp]
  show xs[xs.length - 1]? = some v
  rw [← List.getLast?_eq_getElem?]
  exact h
theorem take_succ_of {α : Type} {xs : List α} {i : Nat} {x : α} (h : xs[i]? = some x) : xs.take (i + 1) = xs.take i ++ [x] := by
  rw [List.take_succ, h]
  rfl
end Dn
namespace Dn
open PySem PySem.Spec L2 StX ClX
open PyProof.Rows hiding St
section
variable {X : Cx} {G : Ent} {sl : Sls} {st : List Ob} {Φ : WK} {Kx : XKS} {F : FT} {k j : Nat} {x m : Str} {p pos apos : Pos} {e o : Expr} {es : List Expr}
theorem ew_cmeth {C : Addr} {pl : Sem Bool} (c : CMt X.prog X.w X.K X.mg X.base k C m F) (hr : RoomG j X.A) (hk : k ≤ j) (xk : XOk X G Kx)
    (h : EW X G o sl st fun w st1 => w = .dat (.adr C) ∧ AW X G (e :: es) sl st1 fun ws st2 => F (.dat (.adr C) :: ws) st2 Φ fun cls fs st3 => Kx cls fs sl st3)
    (hst : starEach (e :: es) X.env = (false, eval e X.env) :: starEach es X.env := by rfl) (hpl : (backTo pos (starEach es X.env)).any (·.1) = false := by rfl)
    (ht : eval (.Call (.Attribute o m apos) (e :: es) [] pos) X.env = (do
      let ov ← eval o X.env
      standAt apos.atName
      let (f, first) ← holding [ov] (getMethod ov m pl)
      callWith pos f first (backTo pos (starEach (e :: es) X.env)) (backToKw pos (keywordEach [] X.env))) := by rfl) : EW X G (.Call (.Attribute o m apos) (e :: es) [] pos) sl st Φ := fun A σ H H0 R Q k pins s I => by
  obtain ⟨mc, p, g, cr, cm, Fn⟩ := c
  refine PySem.W.methodCall_KW (pl := pl) (thn (h A σ H H0 R (fun v H1 => ∃ A1 H01 st1, v = .ref C ∧ (AW X G (e :: es) sl st1 fun ws st2 => F (.dat (.adr C) :: ws) st2 Φ fun cls fs st3 => Kx cls fs sl st3) ∧ RS X.K G A1 σ H1 H01 sl st1 ∧ Ext A A1 ∧ Same H0 H01)
    (fun w st1 v A1 H1 H01 ⟨ew, q⟩ R1 x1 s1 r1 => by subst ew; cases r1; exact ⟨A1, H01, st1, rfl, q, R1, x1, s1⟩) pins s I) fun u s1 ⟨v, H1, I1, rx, A1, H01, st1, ev, q, R1, x1, s1'⟩ => ?_) ht
  subst ev
  obtain rfl : u = Value.ref C := rx
  refine getmethcm_ok I1 cr cm fun s2 I2 => ?_
  refine callwith_cm I2 (base_none I1 (Nat.le_refl _)) cm.fi (thn (q A1 σ H1 H01 R1 (fun us H2 => ∃ A2 H02 st2 ws, F (.dat (.adr C) :: ws) st2 Φ (fun cls fs st3 => Kx cls fs sl st3) ∧ RS X.K G A2 σ H2 H02 sl st2 ∧ Ext A1 A2 ∧ Same H01 H02 ∧ RepWs X.K A2 H02 us ws)
    (fun ws st2 us A2 H2 H02 q R2 x2 s2 r2 => ⟨A2, H02, st2, ws, q, R2, x2, s2, r2⟩) pos _ s2 I2) fun us s3 ⟨vs2, H2, I3, r, A2, H02, st2, ws, q2, R2, x2, s2', r2⟩ => ⟨⟨pin_at I3, I3.kIn⟩, ?_⟩) hst hpl
  have z : wpAny (model X.prog X.w) X.A (call (.ref s1.heap.objs.size) us) (EP X ((s1.heap.objs.size, PySem.W.methodObj (.ref g) (.ref C)) :: pins) σ Q) X.xe s3 := by
    refine wpAny_call (PySem.W.method_call (pin_at I3) (codeAny_mono (run_D (us := .ref C :: us) (vs := .ref C :: vs2) (ws := .dat (.adr C) :: ws) (Ret := Φ) Fn (hr.mono hk) xk R2 ⟨.adr _, r2⟩ I3 (.cons rfl r) q2 (k.mv (x1.trans x2) (s1'.trans s2')) fun _ _ _ q => q) fun r s' q => ?_))
    cases r with
    | error e => exact q
    | ok fl => cases fl <;> exact q
  exact thn z fun _ _ y => unpinE y
theorem ew_mid' (M : W → Prop) (h : EW X G e sl st fun w' st' => M w' ∧ st' = st) (q : ∀ w, M w → Φ w st) : EW X G e sl st Φ := h.imp fun k st' ⟨e1, e2⟩ => by rw [e2]; exact q k e1
theorem ew_midS (M : WK) (h : EW X G e sl st M) (q : ∀ w st', M w st' → Φ w st') : EW X G e sl st Φ := h.imp q
theorem tw_midS {Ψ : BK} (M : BK) (h : TW X G e sl st M) (q : ∀ b st', M b st' → Ψ b st') : TW X G e sl st Ψ := h.imp q
theorem ew_errfldL (i : Nat) {f : Str} {C ad : Addr} {oe : Obj} {od : Option Addr} {pn : List (Addr × Obj)} {d : D} (hi : sl[i]? = some (some (.dat (.err ad od (.ref C) [(f, d)])))) (T : FldErr X f C) (hz : Zc (.ref C) od oe) (hv : ∃ vs, oe.data = .fields vs) (h : Φ (.dat d) st)
    (hN : X.N[i]? = some x := by rfl) (hvs : Vis X.env.scope x := by first | exact Or.inl rfl | exact Or.inr (Or.inl rfl) | exact Or.inr (Or.inr rfl))
    (hd : (x == ("__debug__" : Str)) = false := by decide) (hcd : (x == ("__classdict__" : Str)) = false := by decide) (hb : attributeBase (.Name x p) f X.env (eval (.Name x p) X.env) = eval (.Name x p) X.env := by rfl) : EW (X.suite ad ((ad, oe) :: pn)) G (.Attribute (.Name x p) f pos) sl st Φ := fun A σ H H0 R Q k => by
  obtain ⟨v, hs, r⟩ := R.sl.2 i _ hi
  have r' : Rep X.K H0 v (.err ad od (.ref C) [(f, d)]) := r
  cases r' with
  | err hx rf => exact ew_errfld T hz hv (ew_name i hi ⟨rfl, h⟩ hN hvs hd hcd) hb A σ H H0 R Q k
end
end Dn
namespace Dn
open PySem PySem.Spec L2 StX ClX
open PyProof.Rows hiding St
theorem fnDok {P : Program} {w : World} {K : PySem.W.Frag} {mg : Str → Option Value} {base : Heap} {x qual : Str} {st : Stmt} {f : Addr} {fd : FuncData} {N ps : List Str} {k : Nat} {F : FT} (Fn : Fun K x qual st f fd) (S : FnScope N ps (defScope st))
    (hlen : ∀ args st0 Ret Exc, F args st0 Ret Exc → args.length = ps.length)
    (body : ∀ (cdv : Value) (A : Around) (outer : List Env) (s : Shared) (H : Hp) (E : XK) (H0 : Hp) (Al : List Addr) (args : List W) (st0 : List Ob) (Ret : WK) (Exc : XKD),
      RoomG k (cxOf (L2.CX P w) P w K mg base N qual (defScope st) f cdv A outer s H E).A →
      XOk (cxOf (L2.CX P w) P w K mg base N qual (defScope st) f cdv A outer s H E) ⟨H, H0, Al⟩ (KxE st0 Exc) →
      PassesOwn (model P w) (cxOf (L2.CX P w) P w K mg base N qual (defScope st) f cdv A outer s H E).A (cxOf (L2.CX P w) P w K mg base N qual (defScope st) f cdv A outer s H E).env (cxOf (L2.CX P w) P w K mg base N qual (defScope st) f cdv A outer s H E).xe →
      Al.length = st0.length → Clos st0 → F args st0 Ret Exc →
      SW (cxOf (L2.CX P w) P w K mg base N qual (defScope st) f cdv A outer s H E) ⟨H, H0, Al⟩ (defBody st) (startS N args) st0 { nx := fun _ st' => KrE st0 Ret (.dat .non) st', rt := KrE st0 Ret }) :
    FnGo P w K mg base (L2.CX P w) (k + 1) f fd ps (spD K F) := by
  refine FnGo.ofBody Fn S (fun vs H Q E h => ?_) (fun cdv A outer s H vs Q E hr h => ?_)
  · obtain ⟨H0, Al, args, st0, Ret, Exc, hs, rw, hF, _⟩ := h
    rw [rw.length]
    exact hlen _ _ _ _ hF
  · obtain ⟨H0, Al, args, st0, Ret, Exc, hs, rw, hF, hR, hE⟩ := h
    refine ⟨_, pss_wp, ?_⟩
    have fin : ∀ {A' H' H0' st' w v}, KrE st0 Ret w st' → HS K A' H' H0' st' → Fr ⟨H, H0, Al⟩ A' H' H0' → RepW K A' H0' v w → Q v H' := fun {A' H' H0' st' w v} q hs' fr r => by
      obtain ⟨st1, g, rfl, hl, hc, hw, q⟩ := q
      exact hR w st1 v _ H' H0' q (hs'.drop hc) (fr.drop (by show Al.length ≤ _; rw [hs.al]; exact hl)) (r.take hw)
    refine body cdv A outer s H E H0 Al args st0 Ret Exc hr ⟨_, takes_of rfl rfl rfl rfl, fun cls fs d vfs A' σ' H' H0' sl' st' q R xd rf => ?_⟩ (passes_of rfl) hs.al hs.clos hF Al (L2.start N vs) H H0 ⟨rw.lenS, hs, Fr.refl hs⟩ _ ⟨fun A' σ' H' H0' sl' st' q R _ _ => ?_, fun A' σ' H' H0' sl' st' w v q R _ _ r => ?_, fun _ _ _ _ _ _ q => q.elim, fun _ _ _ _ _ _ q => q.elim⟩
    · obtain ⟨st1, g, rfl, hl, hc, q⟩ := q
      exact hE cls fs d vfs st1 _ H' H0' q (R.hs.drop hc) (R.fr.drop (by show Al.length ≤ _; rw [hs.al]; exact hl)) xd rf
    · exact fin q R.hs R.fr (show RepW K A' H0' .non (.dat .non) from .non)
    · exact fin q R.hs R.fr r
def LawF : FT := fun args st Ret _ => ∃ ns : List Int, ns.length ≤ 63 ∧ args = [.dat (.scr ns)] ∧ Ret (.dat (.bl true)) st
theorem law_sp {K : PySem.W.Frag} {H : Hp} {a : Addr} {ns : List Int} (hl : ns.length ≤ 63) (hS : SqL K H a (ns.map V.int)) : spD K LawF [.ref a] H (fun v _ => v = .bl true) fun _ _ _ => False := by
  refine ⟨H, [], [.dat (.scr ns)], [], fun w _ => w = .dat (.bl true), fun _ _ _ => False, ⟨fun _ _ e => e, rfl, List.nodup_nil, fun j a o h => by simp at h⟩, ⟨.scr hS, trivial⟩, ⟨ns, hl, rfl, rfl⟩, fun w st' v A' H' H0' e _ _ r => ?_, fun _ _ _ _ _ _ _ _ e => e.elim⟩
  subst e
  cases r
  rfl
theorem law_start {P : Program} {w : World} {K : PySem.W.Frag} {mg mb : Str → Option Value} {k : Nat} {fa a : Addr} {fd : FuncData} {x : Str} {sp : Sp} {t : Shared} {vs : List Value} {ns : List Int}
    (hin : K.In t.heap) (gl : t.heap.Ns mainGlobals mg) (bl : t.heap.Ns builtinsNs mb) (bb : ∀ y : Str, y ≠ "__name__" → mb y = bootBuiltins y) (nl : t.heap.NoLimit) (ng : t.gens = #[]) (at_a : t.heap.get? a = some { cls := .type "list", data := .seq vs.toArray }) (iv : IntsAre vs ns) (len : ns.length ≤ sizeLine) (room : RoomG k callerA)
    (F : ∀ base : Heap, K.In base → base.Ns mainGlobals mg → FnGo P w K mg base (L2.CX P w) k fa fd [x] sp) (bd : ∀ (s : Shared) (u : Value), BindsTo s fd ⟨[u], []⟩ [(x, u)]) (here : ∀ h : Hp, SqL K h a (ns.map V.int) → sp [.ref a] h (fun v _ => v = .bl true) fun _ _ _ => False) :
    codeAny (model P w) callerA (.call (.ref fa) ⟨[.ref a], []⟩) (fun r t' => r = .ok (.ret (.bool true)) ∧ OldK t.heap t'.heap ∧ t'.os = t.os ∧ AllBare t'.gens) t := by
  have rv := vals_ints iv
  have lv := iv.length
  obtain ⟨h, only, sq⟩ : ∃ h : Hp, (∀ b u, h b = some u → b = a ∧ K.lookup a = none ∧ u = .frz { cls := .type "list", data := .seq vs.toArray } (.lst (ns.map V.int))) ∧ SqL K h a (ns.map V.int) := by
    by_cases own : K.lookup a = none
    · refine ⟨upd (fun _ => none) a (.frz { cls := .type "list", data := .seq vs.toArray } (.lst (ns.map V.int))), fun b u e => ?_, .inl (.inr ⟨_, upd_same⟩)⟩
      by_cases hb : b = a
      · subst hb
        rw [upd_same] at e
        cases e
        exact ⟨rfl, own, rfl⟩
      · rw [upd_ne hb] at e
        cases e
    · obtain ⟨o, e⟩ := Option.ne_none_iff_exists'.mp own
      have e2 := hin a o e
      rw [at_a] at e2
      cases e2
      exact ⟨fun _ => none, (fun b u e => by cases e), .inr ⟨_, vs.toArray, _, e, rfl, rfl, rfl, by rw [List.size_toArray, lv]; exact len, by simpa using rv⟩⟩
  have kept : ∀ {b : Addr} {o : Obj}, t.heap.get? b = some o → h b = none → (hidT t.heap h).get? b = some o := hidT_get
  have hin2 : K.In (hidT t.heap h) := fun b o e => kept (hin b o e) <| Option.eq_none_iff_forall_ne_some.mpr fun u z => by
    obtain ⟨rfl, n, _⟩ := only b u z
    rw [n] at e
    cases e
  have spaces : ∀ {b : Addr} {m : Str → Option Value}, t.heap.Ns b m → (hidT t.heap h).Ns b m := by
    rintro b m ⟨o, es, ep, e, dt, rest⟩
    refine ⟨o, es, ep, kept e (Option.eq_none_iff_forall_ne_some.mpr fun u z => ?_), dt, rest⟩
    obtain ⟨rfl, _⟩ := only b u z
    rw [at_a] at e
    cases e
    exact Data.noConfusion dt
  obtain ⟨mc, l1, l2⟩ := nl
  have ok : HOk P w h t.heap := fun b u z => by
    obtain ⟨rfl, _, rfl⟩ := only b u z
    exact ⟨at_a, by rw [List.length_map]; exact len, vs, _, rv, at_a⟩
  have env : Env0 P w K mg (hidT t.heap h) callerA [] t h := ⟨rfl, ⟨hin2, spaces gl, ⟨mb, spaces bl, bb⟩, ⟨mc, spaces l1, l2⟩⟩, fun b o e => of_hidT e, Nat.le_of_eq (hidT_size _ _), trivial, fun b z => by simp [frs] at z, ok, .of_eq ng⟩
  refine codeAny_mono ((F _ hin2 (spaces gl)).go callerA [] t h ⟨[.ref a], []⟩ [.ref a] [.ref a] _ _ room env (bd t _) (.cons rfl .nil) (here h sq)) ?_
  rintro (e | _ | _ | _ | u) t' z
  · obtain ⟨_, _, _, _, _, _, _, _, _, _, _, _, z⟩ := z
    exact z.elim
  · exact z.elim
  · exact z.elim
  · exact z.elim
  · obtain ⟨v, h', os, bare, un, ok', r', q⟩ := z
    cases (show v = .bl true from q)
    cases (show u = Value.bool true from r')
    refine ⟨rfl, OldK.of_keep fun b o e => ?_, os, bare⟩
    match hb : h b with
    | none => exact un.keep b o e hb (by simp [frs]) (by simp)
    | some u =>
      obtain ⟨rfl, _, rfl⟩ := only b u hb
      have e1 := (ok b _ hb).1
      have e2 := (ok' b _ (un.frzs b _ _ hb)).1
      rw [e1] at e
      cases e
      exact e2
theorem walkD {l : PySem.W.OpenLaw} {q : Program} {loose : List Str} {XP : (Str → Option Value) → Heap → Prop} {YP : World → Heap → Prop} {d : DefRec} {K : Params → PySem.W.Frag} (k : Nat) (hn : l.most = some 63) (hdf : d.params.defaults = []) (hr : RoomG k callerA) (x : Str)
    (hY : ∀ (w : World) (h : Heap), YP w h → (K w.params).In h)
    (F : ∀ (w : World) (mg : Str → Option Value) (fa : Addr) (h : Heap), (K w.params).In h → h.Ns mainGlobals mg → mg d.name = some (.ref fa) →
      ∃ fd : FuncData, (∀ (s : Shared) (u : Value), BindsTo s fd ⟨[u], []⟩ [(x, u)]) ∧ ∀ base : Heap, (K w.params).In base → base.Ns mainGlobals mg → FnGo l.prog w (K w.params) mg base (L2.CX l.prog w) k fa fd [x] (spD (K w.params) LawF)) :
    PySem.W.WalkO q loose XP YP l.row.toRowW d [] (fun f vs => PySem.call f vs) := by
  refine Att.attach_call hn hdf fun w _ t mg mb fa _ _ _ _ a vs ns G Y _ _ _ at_g hobj hints hlen ng => ?_
  have hin := hY w _ Y
  obtain ⟨fd, bd, run⟩ := F w mg fa _ hin G.T.g at_g
  exact law_start hin G.T.g G.T.b G.T.builtins G.T.nolimit ng hobj hints (Nat.le_trans hlen (by decide)) hr run bd fun h sq => law_sp hlen sq
end Dn
namespace Dn
open PySem PySem.Spec L2 StX ClX
open PyProof.Rows hiding St
def CDivL (i j : Int) : Prop := j ≠ 0 ∧ j.natAbs.log2 < 9000
theorem divL_of {i j : Int} (h0 : 0 < j) (h1 : j < 18446744073709551616) : CDivL i j := ⟨by omega, by
  have h2 : j.natAbs < 2 ^ 64 := by omega
  have h3 : j.natAbs.log2 < 64 := (Nat.log2_lt (by omega)).mpr h2
  omega⟩
section
variable {X : Cx} {G : Ent} {e a b c o tg iter elt : Expr} {es : List Expr} {sl : Sls} {st : List Ob} {Φ : WK} {Ψ : BK} {pos p : Pos} {scope : Scope} {tb : Bool} {is vs : List Nat} {fin : List D → List Ob → Prop}
theorem op_fdivL : OpR X (binaryOp .FloorDiv) (rI CDivL fun i j => .int (i.fdiv j)) := opI fun _ _ _ _ _ _ _ hc q => floordiv_int hc.1 q (.inl (PyProof.noPylong_of_log2 hc.2))
theorem o_divL {i j : Int} (hc : CDivL i j) (h : Φ (.dat (.int (i.fdiv j))) st) : OW X G (binaryOp .FloorDiv) sl st (.dat (.int i)) (.dat (.int j)) Φ := ow_I (g' := fun i j => .int (i.fdiv j)) op_fdivL (fun _ _ _ _ => .int _) hc h
theorem reps_of_ints {K : PySem.W.Frag} {H : Hp} : ∀ zs : List Int, Reps K H (zs.map V.int) (zs.map D.int)
  | [] => .nil
  | z :: zs => .cons (.int z) (reps_of_ints zs)
theorem c_sorted {zs : List Int} (h : ∀ ys : List Int, ys.Perm zs → ys.Pairwise (· ≤ ·) → Φ (.dat (.lst (ys.map D.int))) st) : CW X G (.builtin "sorted") sl st [.dat (.lst (zs.map D.int))] Φ := cw_of cr_sortedI fun A σ H H0 R vs rw Q k => by
  obtain ⟨v, rfl, r⟩ := rep1 rw
  cases r with
  | @lst ad us _ eh rr =>
    have e := reps_int rr
    subst e
    refine ⟨ad, zs, rfl, .inl (.inl (R.hs.le _ _ eh)), fun ys l hp hw hl => ?_⟩
    have s0 := same_upd (o := .lst (ys.map V.int)) (R.hs.free0 hl)
    exact k _ st _ A _ _ (h ys hp hw) (R.alloc hl) (Ext.refl _) s0 (.lst upd_same (reps_of_ints ys))
theorem lcj_pureS (ys : List D) (hz : ys.length < sizeLine) (hi : IWJ X G tg iter sl st fun ws st1 => (ws.length = ys.length ∧
      ∀ (i : Nat) (w : W) (y : D), ws[i]? = some w → ys[i]? = some y → ∃ sl2, tset tb is w (wipeL sl vs) = some sl2 ∧ EWb X scope elt sl2 st1 fun w' st' => w' = .dat y ∧ st' = st1) ∧ fin ys st1) : LcJ X G tg iter [] elt scope tb is vs sl st fin := fun A σ H H0 R Rr k =>
  hi A σ H H0 R Rr fun J ws st1 A1 H1 H01 ⟨⟨hl, turn⟩, hf⟩ R1 x1 s1 it => k J ws st1 A1 H1 H01 ⟨fun i acc st' => acc = ys.take i ∧ st' = st1, ⟨by simp, rfl⟩, fun i w acc st' hw ⟨ea, es⟩ => by
    have hiw := (List.getElem?_eq_some_iff.mp hw).1
    have hiy : i < ys.length := by omega
    obtain ⟨sl2, h1, h2⟩ := turn i w ys[i] hw (List.getElem?_eq_getElem hiy)
    refine ⟨sl2, h1, fun G2 s Hb C cl fp => ?_⟩
    subst es
    refine (h2 G2 s Hb C cl fp).imp fun w' st2 ⟨ew, es2⟩ => ⟨ys[i], ew, ?_, ?_, es2⟩
    · rw [ea, List.length_take]
      omega
    · rw [ea, List.take_succ, List.getElem?_eq_getElem hiy]
      rfl, fun acc st' ⟨ea, es⟩ => by
    rw [ea, hl, List.take_length, es]
    exact hf⟩ R1 x1 s1 it
theorem bt_sorted : bootBuiltins "sorted" = some (.builtin "sorted") := by rfl
end
end Dn
namespace Dn
open PySem PySem.Spec L2 StX ClX
open PyProof.Rows hiding St
section
variable {X : Cx} {G : Ent} {sl : Sls} {st : List Ob} {Φ : WK}
def rIsEd (K : PySem.W.Frag) (ad : Addr) (b : Bool) (C S dx : Addr) (vfs : List (Str × V)) : List V → Hp → VK → Prop := fun xs H Q => xs = [.ref ad, .ref S] ∧ H dx = some (.xd vfs) ∧ PySem.W.kitOne K (.ref C) (.ref S) = some b ∧ Q (.bl b) H
theorem call_isEd {ad C S dx : Addr} {b : Bool} {oe : Obj} {pn : List (Addr × Obj)} {vfs : List (Str × V)} (E : L2.ExcC X.K C) (hz : Zc (.ref C) (some dx) oe) (hf : ∃ vs, oe.data = .fields vs) : CallR (X.suite ad ((ad, oe) :: pn)) (.builtin "isinstance") (rIsEd X.K ad b C S dx vfs) := by
  intro pins s σ H xs us Q I r h
  obtain ⟨rfl, hx, e, q⟩ := h
  cases r with
  | cons rx rr =>
    cases rr with
    | cons rt rr =>
      cases rr
      cases rx
      cases rt
      obtain ⟨hget, _⟩ := I.pin (ad, oe) (List.mem_append.mpr (.inl List.mem_cons_self))
      obtain ⟨vs, hv⟩ := hf
      have hx' : ObjOk X.prog X.w H s.heap dx (.xd vfs) := I.hok dx _ hx
      obtain ⟨mA, hns, _⟩ := hx'
      obtain ⟨od, ho, _⟩ := lookIn_ns hns
      have J : PySem.W.InstAt s.heap ad oe C (some od) := ⟨hget, hz.1, by unfold PySem.W.notCls; rw [hv] <;> rfl, by rw [hz.2]; exact ho⟩
      have hcl : (PySem.W.clsIn X.K C).isSome = true := by
        have hd := E.hd
        unfold PySem.W.hasDictIn at hd
        cases hc : PySem.W.clsIn X.K C with
        | none => rw [hc] at hd; cases hd
        | some cd => rfl
      exact PySem.W.kia_one (PySem.W.kitx_exc (od := some od) hcl E.hg E.hk E.hs E.ha E.hn E.ht E.hm) I.kIn J e (fun z => nomatch z) fun tk => ⟨.bl b, H, I.kept (t' := tk) fun _ _ z => z, rfl, q⟩
theorem c_isEd {C S ad : Addr} {od : Option Addr} {b : Bool} {oe : Obj} {pn : List (Addr × Obj)} {f : Str} {d : D} (E : L2.ExcC X.K C) (hz : Zc (.ref C) od oe) (hf : ∃ vs, oe.data = .fields vs) (hk : PySem.W.kitOne X.K (.ref C) (.ref S) = some b) (h : Φ (.dat (.bl b)) st) :
    CW (X.suite ad ((ad, oe) :: pn)) G (.builtin "isinstance") sl st [.dat (.err ad od (.ref C) [(f, d)]), .dat (.adr S)] Φ := fun A σ H H0 R vs rw Q k => by
  obtain ⟨v, u, rfl, r, r'⟩ := rep2 rw
  cases r with
  | @err _ dx _ vfs _ hx rf =>
    cases r'
    exact wpC_of (call_isEd (b := b) (S := S) (vfs := vfs) E hz hf) ⟨rfl, R.hs.le _ _ hx, hk, k _ st _ A H H0 h R (Ext.refl _) (Same.refl _) (.bl b)⟩
theorem o_catM {xs ys : List D} (hz : xs.length + ys.length ≤ sizeLine) (h : Φ (.ptr st.length) (st ++ [.lst ((xs ++ ys).map W.dat)])) : OW X G (binaryOp .Add) sl st (.dat (.lst xs)) (.dat (.lst ys)) Φ := ow_of op_cat fun A σ H H0 R v1 v2 r1 r2 Q k => by
  cases r1 with
  | @lst _ us _ e1 q1 =>
    cases r2 with
    | @lst _ us2 _ e2 q2 =>
      refine ⟨_, _, _, _, rfl, rfl, R.hs.le _ _ e1, R.hs.le _ _ e2, by rw [q1.length, q2.length]; exact hz, fun p hp => ?_⟩
      have e : Ext A (A ++ [p]) := ⟨[p], rfl⟩
      refine k _ _ _ _ _ _ h (R.push hp ⟨R.hs.free0 hp, us ++ us2, upd_same, RepWs.of (q1.append q2)⟩) e (Same.refl _) ⟨p, ?_, rfl⟩
      rw [← R.hs.al, List.getElem?_append_right (Nat.le_refl _)]
      simp
end
end Dn
namespace Dn
open PySem PySem.Spec L2 StX ClX
open PyProof.Rows hiding St
structure OpTxt (K : PySem.W.Frag) (C f : Addr) (nm : Str) : Prop where
  at_ : PySem.W.findIn K (.ref C) nm = some (some (.ref f))
  fn : PySem.W.isFn K (.ref f) = true
def OpM (P : Program) (w : World) (K : PySem.W.Frag) (mg : Str → Option Value) (base : Heap) (k : Nat) (C : Addr) (nm : Str) (F : FT) : Prop :=
  ∃ f : Addr, OpTxt K C f nm ∧ FnG P w K mg base (L2.CX P w) k f (spD K F)
section
variable {X : Cx} {G : Ent} {sl : Sls} {st : List Ob} {Φ : WK} {Kx : XKS} {F : FT} {k j : Nat}
theorem rs_any {K : PySem.W.Frag} {A : List Addr} {σ σ' : St} {H H0 : Hp} (R : RS K G A σ H H0 sl st) : RS K G A σ' H H0 (List.replicate σ'.length none) st :=
  ⟨⟨by simp, fun i w h => by
    rw [List.getElem?_replicate] at h
    split at h <;> cases h⟩, R.hs, R.fr⟩
theorem cmpback {pins : List (Addr × Obj)} {σ : St} {Q : VK} {u : Value} {s : Shared} (h : EP X pins σ Q u s) : PySem.W.CmpBack (EP X pins σ Q) u s := by
  cases u with
  | notImplemented =>
    obtain ⟨v, H', _, rv, _⟩ := h
    cases v <;> first | (obtain ⟨_, z⟩ := rv; cases z) | exact absurd rv (by intro z; cases z)
  | _ => exact h
theorem run_op {pins : List (Addr × Obj)} {A : List Addr} {σ σ' : St} {H H0 : Hp} {s : Shared} {f : Addr} {us : List Value} {vs : List V} {ws : List W} {Q : VK} (Fn : FnG X.prog X.w X.K X.mg X.base (L2.CX X.prog X.w) k f (spD X.K F)) (hr : RoomG k X.A) (xk : XOk X G Kx) (R : RS X.K G A σ H H0 sl st)
    (rw : RepWs X.K A H0 vs ws) (I : Inv X pins σ' H s) (r : Vals vs us) (hF : F ws st Φ (fun cls fs st' => ∀ sl', Kx cls fs sl' st')) (c : Ct X.K G A σ H0 sl Φ Q) : wpAny (model X.prog X.w) X.A (call (.ref f) us) (EP X pins σ' Q) X.xe s := by
  refine wpAny_call (codeAny_mono (run_D (Q := Q) (Ret := Φ) (Exc := fun cls fs st' => ∀ sl', Kx cls fs sl' st') Fn hr xk (rs_any (σ' := σ') R) rw I r hF (fun w st' v A' H' H0' q R' x' s' rr => ?_) fun cls fs st' q => q _) fun r s' q => ?_)
  · exact c w st' v A' H' H0' q ⟨R.sl.mono x' s', R'.hs, R'.fr⟩ x' s' rr
  · cases r with
    | error e => exact q
    | ok fl => cases fl <;> exact q
variable {C : Addr} {fs gs : List (Str × D)}
theorem o_own {op : Operator} (c : OpM X.prog X.w X.K X.mg X.base k C (dunder op.info.snd) F) (sf : PySem.W.selfFirst X.K C = true) (hr : RoomG j X.A) (hk : k ≤ j) (xk : XOk X G Kx)
    (h : F [.dat (.ins C fs), .dat (.ins C gs)] st Φ fun cls es st2 => ∀ sl', Kx cls es sl' st2) : OW X G (binaryOp op) sl st (.dat (.ins C fs)) (.dat (.ins C gs)) Φ := fun A σ H H0 R v1 v2 r1 r2 Q kk pins s σ' v u I rv ru => by
  obtain ⟨f, T, Fn⟩ := c
  cases r1 with
  | @ins a _ dx vs _ e1 q1 =>
  cases r2 with
  | @ins b _ dy us _ e2 q2 =>
  obtain rfl : v = Value.ref a := rv
  obtain rfl : u = Value.ref b := ru
  obtain ⟨ox, od, J, hd⟩ := insC_at I (.inr ⟨dx, vs, R.hs.le _ _ e1⟩ : StX.InsC X H a C)
  obtain ⟨oy, oe, J2, hd2⟩ := insC_at I (.inr ⟨dy, us, R.hs.le _ _ e2⟩ : StX.InsC X H b C)
  obtain ⟨m, fr⟩ := I.fr
  refine PySem.W.binop_K fr I.ok.mod.kin J J2.type sf T.at_ T.fn (wpAny_mono (run_op (vs := [.ref a, .ref b]) (ws := [.dat (.ins C fs), .dat (.ins C gs)]) Fn (hr.mono hk) xk R ⟨.ins e1 q1, .ins e2 q2, trivial⟩ I (.cons rfl (.cons rfl .nil)) h kk) (fun u s' q => cmpback q) fun _ _ q => q)
theorem o_cmpOwn {op : CmpOp} (hop : compareOp op = richCompare op) (c : OpM X.prog X.w X.K X.mg X.base k C (cmpInfo op).2.1 F) (hr : RoomG j X.A) (hk : k ≤ j) (xk : XOk X G Kx)
    (h : F [.dat (.ins C fs), .dat (.ins C gs)] st Φ fun cls es st2 => ∀ sl', Kx cls es sl' st2) : OW X G (compareOp op) sl st (.dat (.ins C fs)) (.dat (.ins C gs)) Φ := fun A σ H H0 R v1 v2 r1 r2 Q kk pins s σ' v u I rv ru => by
  obtain ⟨f, T, Fn⟩ := c
  cases r1 with
  | @ins a _ dx vs _ e1 q1 =>
  cases r2 with
  | @ins b _ dy us _ e2 q2 =>
  obtain rfl : v = Value.ref a := rv
  obtain rfl : u = Value.ref b := ru
  obtain ⟨ox, od, J, hd⟩ := insC_at I (.inr ⟨dx, vs, R.hs.le _ _ e1⟩ : StX.InsC X H a C)
  obtain ⟨oy, oe, J2, hd2⟩ := insC_at I (.inr ⟨dy, us, R.hs.le _ _ e2⟩ : StX.InsC X H b C)
  obtain ⟨m, fr⟩ := I.fr
  rw [hop]
  refine PySem.W.cmp_K (tb := .ref C) (Nat.lt_of_le_of_lt (Nat.le_add_right _ _) hr.units) fr I.ok.mod.kin J J2.type (by unfold PySem.W.notFirst; rw [beq_self_eq_true]; rfl) T.at_ T.fn (wpAny_mono (run_op (vs := [.ref a, .ref b]) (ws := [.dat (.ins C fs), .dat (.ins C gs)]) Fn (hr.mono hk) xk R ⟨.ins e1 q1, .ins e2 q2, trivial⟩ I (.cons rfl (.cons rfl .nil)) h kk) (fun u s' q => cmpback q) fun _ _ q => q)
structure NeTxt (K : PySem.W.Frag) (C : Addr) : Prop where
  ne : PySem.W.findIn K (.ref C) "__ne__" = some (some (.builtin "object.__ne__"))
  cls : ∃ nm q N bs bm hd sn sub ab col dd k0 k1 k2 k3 k5 newId, K.lookup C = some (excClassObj nm q C N bs bm hd sn sub ab col dd k0 k1 k2 k3 k5 newId) ∧ bm.contains (.type "object") = true
theorem ifBoundB {M : Model} {A : Around} {E : Value → Shared → Prop} {s : Shared} {K : PySem.W.Frag} {x C : Addr} {id : String} {ox : Obj} {od : Option Obj} {name : Str} {args : List Value} {Q : Option Value → Shared → Prop} (IX : K.In s.heap) (I : PySem.W.InstAt s.heap x ox C od) (hs : PySem.W.findIn K (.ref C) name = some (some (.builtin id)))
    (hb : ∀ self, bindSpecial (.builtin id) self = pure (.builtin id, [self])) (h : wpAny M A (call (.builtin id) (.ref x :: args)) (fun v => Q (some v)) E s) : wpAny M A (callSpecialIfBound? (.ref x) name args) Q E s := by
  have fin : wpAny M A (call (.builtin id) (.ref x :: args) >>= fun r => pure (some r)) Q E s := wpAny_bind (wpAny_mono h (fun v s' h' => wpAny_pure h') fun _ _ h' => h')
  unfold callSpecialIfBound? bindSpecialIfBound? specialOf
  refine wpAny_holding (wpAny_bind (wpAny_bind (wpAny_bind (PySem.W.Looks.here I.type (PySem.W.Looks.here (PySem.W.looks_findIn IX hs) (wpAny_bind (wpAny_askSetting ?_)))))))
  simp only [hb]
  refine wpAny_ite ?_
  split
  · exact wpAny_bind (wpAny_pure (wpAny_pure fin))
  · exact wpAny_tryCatch (wpAny_bind (wpAny_pure (wpAny_pure fin)))
theorem run_opB {B : Around} {pins : List (Addr × Obj)} {A : List Addr} {σ σ' : St} {H H0 : Hp} {s : Shared} {f : Addr} {us : List Value} {vs : List V} {ws : List W} {Q : VK} (Fn : FnG X.prog X.w X.K X.mg X.base (L2.CX X.prog X.w) k f (spD X.K F)) (hr : RoomG k B) (hf : B.frames = X.A.frames) (xk : XOk X G Kx) (R : RS X.K G A σ H H0 sl st)
    (rw : RepWs X.K A H0 vs ws) (I : Inv X pins σ' H s) (r : Vals vs us) (hF : F ws st Φ (fun cls fs st' => ∀ sl', Kx cls fs sl' st')) (c : Ct X.K G A σ H0 sl Φ Q) : wpAny (model X.prog X.w) B (call (.ref f) us) (EP X pins σ' Q) X.xe s := by
  obtain ⟨Wx, tk, hW⟩ := xk
  have R0 := rs_any (σ' := σ') R
  have e0 := I.env0
  refine wpAny_call (codeAny_mono (Fn B X.stack s H us vs Q (WE Wx σ') hr ⟨hf.trans e0.frames, e0.mod, e0.bs, e0.bsz, e0.funs, e0.frf, e0.hok, e0.bare⟩ r ⟨H0, A, ws, st, Φ, fun cls fs st' => ∀ sl', Kx cls fs sl' st', R.hs, rw, hF, fun w st' v A' H' H0' q hs fr rr => ?_, fun cls fs d vfs st' A' H' H0' q hs fr xd rf => ?_⟩) fun r s' hq => ?_)
  · exact c w st' v A' H' H0' q (R.after hs fr) fr.pre fr.old rr
  · exact hW cls fs d vfs A' σ' H' H0' _ st' (q _) (R0.after hs fr) xd rf
  · cases r with
    | error e => exact passAt tk σ' pins H s e s' I hq
    | ok fl =>
      cases fl with
      | ret u => exact I.after hq
      | next => exact False.elim hq
      | brk => exact False.elim hq
      | cont => exact False.elim hq
theorem o_neOwn (N : NeTxt X.K C) (c : OpM X.prog X.w X.K X.mg X.base k C "__eq__" F) (hr : RoomG j X.A) (hk : k + 1 ≤ j) (xk : XOk X G Kx)
    (h : F [.dat (.ins C fs), .dat (.ins C gs)] st (fun w st' => ∃ b, w = .dat (.bl b) ∧ Φ (.dat (.bl (!b))) st') fun cls es st2 => ∀ sl', Kx cls es sl' st2) : OW X G (compareOp .NotEq) sl st (.dat (.ins C fs)) (.dat (.ins C gs)) Φ := fun A σ H H0 R v1 v2 r1 r2 Q kk pins s σ' v u I rv ru => by
  obtain ⟨f, T, Fn⟩ := c
  obtain ⟨nm, q, N', bs, bm, hd, sn, sub, ab, col, dd, k0, k1, k2, k3, k5, newId, hC, hob⟩ := N.cls
  cases r1 with
  | @ins a _ dx vs _ e1 q1 =>
  cases r2 with
  | @ins b _ dy us _ e2 q2 =>
  obtain rfl : v = Value.ref a := rv
  obtain rfl : u = Value.ref b := ru
  obtain ⟨ox, od, J, hd⟩ := insC_at I (.inr ⟨dx, vs, R.hs.le _ _ e1⟩ : StX.InsC X H a C)
  obtain ⟨oy, oe, J2, hd2⟩ := insC_at I (.inr ⟨dy, us, R.hs.le _ _ e2⟩ : StX.InsC X H b C)
  have hu : X.A.units < cLine := Nat.lt_of_le_of_lt (Nat.le_add_right _ _) hr.units
  have hu1 : X.A.in1.units < cLine := Nat.lt_of_le_of_lt (by show X.A.units + 1 ≤ X.A.units + 64; omega) hr.units
  have hrB : RoomG k X.A.in1 := ⟨⟨hr.hd, by have := hr.dp; show X.A.depth + 3 * k + 5 < _; omega, by have := hr.un; show X.A.units + 1 + 16 * k + 200 < _; omega⟩, hr.gd⟩
  have one : wpAny (model X.prog X.w) X.A (tryCompare (.ref a) (Str.ofString "__ne__") (.ref b)) (fun r s' => ∃ v, r = some v ∧ EP X pins σ' Q v s') X.xe s := by
    unfold tryCompare
    refine wpAny_bind (ifBoundB I.kIn J N.ne (fun self => PySem.F.slot_object_ne.bind self) (wpAny_call (codeAny_call_builtin PySem.F.slot_object_ne.plain PySem.F.cmpEntry_ne ?_)))
    refine wpAny_check_slot_inst PySem.F.cmpKind_ne PySem.F.cmpSplit_ne (PySem.F.cmpArgs_ne _ _) hob J.at_ J.cls (I.kIn _ _ hC) ?_
    unfold Builtin.«object.__ne__» slotArgs
    refine wpAny_bind (wpAny_ite_false rfl (wpAny_ite_false rfl (wpAny_pure (wpAny_bind (wpAny_cRoomFor hu1 (wpAny_bind (PySem.W.ifBound_K I.kIn J T.at_ T.fn ?_)))))))
    refine wpAny_mono (run_opB (vs := [.ref a, .ref b]) (ws := [.dat (.ins C fs), .dat (.ins C gs)]) (Φ := fun w st' => ∃ b, w = .dat (.bl b) ∧ Φ (.dat (.bl (!b))) st') (Q := fun v H' => ∃ b, v = .bl b ∧ Q (.bl (!b)) H') Fn hrB rfl xk R ⟨.ins e1 q1, .ins e2 q2, trivial⟩ I (.cons rfl (.cons rfl .nil)) h ?_) (fun u' s' hq => ?_) fun _ _ q => q
    · intro w st' v A' H' H0' ⟨b', ew, q'⟩ R' x' s' rr
      subst ew
      cases rr
      exact ⟨b', rfl, kk _ st' _ A' H' H0' q' R' x' s' (.bl _)⟩
    · obtain ⟨v, H', I', rv', b', ev, q'⟩ := hq
      subst ev
      cases (show u' = Value.bool b' from rv')
      exact wpAny_bind (wpAny_truthy_bool (wpAny_pure (wpAny_pure ⟨_, rfl, .bl (!b'), H', I', rfl, q'⟩)))
  show wpAny _ _ (richCompare .NotEq (.ref a) (.ref b)) _ _ _
  unfold richCompare
  refine wpAny_holding (wpAny_bind (wpAny_cRoomFor hu ?_))
  refine wpAny_bind (PySem.W.Looks.here J.type (wpAny_bind (PySem.W.Looks.here J2.type ?_)))
  refine wpAny_ite_false (by simp) (wpAny_bind (wpAny_pure ?_))
  refine wpAny_ite_false rfl ?_
  refine wpAny_bind (wpAny_mono one (fun r s' hq => ?_) fun _ _ q => q)
  obtain ⟨v, rfl, q⟩ := hq
  exact wpAny_pure q
end
end Dn
namespace Dn
open PySem PySem.Spec L2 StX ClX
open PyProof.Rows hiding St
section
variable {X : Cx} {G : Ent} {e a b c o tg iter elt tg1 iter1 : Expr} {es : List Expr} {sl : Sls} {st : List Ob} {Φ : WK} {Ψ : BK} {pos p : Pos}
theorem gw_unl {kk : Nat} {ds : List D} {Γ : GK} (hc : X.calm = true) (h : GsW X G es (ds.map W.dat) sl st Γ) (hn : (assignEach es X.env).length = ds.length := by rfl) (hst : (assignEach es X.env).findIdx? (·.1) = none := by rfl) : GW X G (.Tuple es kk pos) (.dat (.lst ds)) sl st Γ := fun A σ H H0 R v r Q k => by
  cases r with
  | lst e rr => exact wpG_of (pg_unl hc pgs_wp hn hst) ⟨_, _, rfl, .inl (.inl (R.hs.le _ _ e)), rr.length, h A σ H H0 R _ (RepWs.of rr) Q k⟩
def BlkI (X : Cx) (scope : Scope) (tg iter : Expr) : TI := fun σ H R => ∀ (s : Shared) (Hb : Hp) (C : Addr) (cl : List (Str × Addr)) (fp : List Addr), wpI (X.blk s Hb scope (compEnvC scope cl C X.env) fp) tg iter σ H R
theorem blkI_pi {scope : Scope} : ∀ (s : Shared) (H : Hp) (C : Addr) (cl : List (Str × Addr)) (fp : List Addr), PI (X.blk s H scope (compEnvC scope cl C X.env) fp) tg iter (BlkI X scope tg iter) := fun s H C cl fp => ⟨fun pins sh σ Hh Q I h => h s H C cl fp pins sh I⟩
def IWb (X : Cx) (scope : Scope) (tg iter : Expr) (sl : Sls) (st : List Ob) (Θ : IK) : Prop := ∀ (G : Ent) (s : Shared) (Hb : Hp) (C : Addr) (cl : List (Str × Addr)) (fp : List Addr), IWJ (X.blk s Hb scope (compEnvC scope cl C X.env) fp) G tg iter sl st Θ
def LcJ2 (X : Cx) (G : Ent) (tg iter tg1 iter1 elt : Expr) (scope : Scope) (tb : Bool) (is : List Nat) (tb1 : Bool) (is1 : List Nat) (vs vs1 : List Nat) (sl : Sls) (st : List Ob) (fin : List D → List Ob → Prop) : Prop :=
  IWJ X G tg iter sl st fun ws st1 => ∃ I : Nat → List D → List Ob → Prop, I 0 [] st1 ∧
    (∀ i w acc st', ws[i]? = some w → I i acc st' → ∃ sl2, tset tb is w (wipeL sl vs) = some sl2 ∧ IWb X scope tg1 iter1 sl2 st' fun ws1 st2 => ∃ I1 : Nat → List D → List Ob → Prop, I1 0 acc st2 ∧
      (∀ j w1 acc1 st3, ws1[j]? = some w1 → I1 j acc1 st3 → ∃ sl3, tset tb1 is1 w1 (wipeL sl2 vs1) = some sl3 ∧ EWb X scope elt sl3 st3 fun w' st4 => ∃ d, w' = .dat d ∧ acc1.length < sizeLine ∧ I1 (j + 1) (acc1 ++ [d]) st4) ∧ (∀ acc1 st3, I1 ws1.length acc1 st3 → I (i + 1) acc1 st3)) ∧
    (∀ acc st', I ws.length acc st' → fin acc st')
theorem lc_run2 {scope : Scope} {tb tb1 : Bool} {is is1 vs vs1 : List Nat} {fin : List D → List Ob → Prop} (his : ∀ i ∈ is, i ∈ vs) (his1 : ∀ i ∈ is1, i ∈ vs1) (h : LcJ2 X G tg iter tg1 iter1 elt scope tb is tb1 is1 vs vs1 sl st fin)
    {A : List Addr} {σ : St} {H H0 : Hp} (R : RS X.K G A σ H H0 sl st) {Q : VK} (k : Ct X.K G A σ H0 sl (fun w st' => ∃ acc, w = .dat (.lst acc) ∧ fin acc st') Q) : tLc2 (wpI X tg iter) (tgt X.K tb is) tYes (BlkI X scope tg1 iter1) (tgt X.K tb1 is1) tYes (BlkE X scope elt) vs vs1 σ H Q := by
  refine h A σ H H0 R _ fun J ws st1 A1 H1 H01 ⟨I, i0, turn, fn⟩ R1 x1 s1 it => ?_
  intro Dl hD
  have h00 := R1.hs.free0 hD
  have hA0 := R1.hs.notin hD
  have hG0 : G.H Dl = none := free_in R1.fr R1.hs hD
  refine ⟨fun i m H => m = ws.length - i ∧ i ≤ ws.length ∧ ∃ A' H0' st' acc us, I i acc st' ∧ RS X.K G A' σ H H0' sl st' ∧ Ext A1 A' ∧ Same H01 H0' ∧ H Dl = some (.lst us) ∧ Reps X.K H0' us acc ∧ H0' Dl = none ∧ Dl ∉ A',
    ⟨ws.length, by simp, Nat.zero_le _, A1, H01, st1, [], [], i0, R1.fresh hD, Ext.refl _, Same.refl _, upd_same, .nil, h00, hA0⟩, ?_⟩
  rintro i m Hc ⟨rfl, hle, A', H0', st', acc, us, q, R', x', s', hDl, racc, h0D, hAD⟩
  have RL : RS X.K ⟨Hc, H0', A'⟩ A' σ Hc H0' sl st' := ⟨R'.sl, R'.hs, Fr.refl R'.hs⟩
  obtain ⟨go, stop⟩ := it i ⟨Hc, H0', A'⟩ A' σ Hc H0' sl st' RL x' s'
  have noD : ∀ {Hx H0x : Hp} {Ax : List Addr} {ux : List V} {Hn H0n : Hp} {An : List Addr}, Hx Dl = some (.lst ux) → H0x Dl = none → Dl ∉ Ax → Fr ⟨Hx, H0x, Ax⟩ An Hn H0n → H0n Dl = none ∧ Dl ∉ An ∧ Hn Dl = some (.lst ux) := fun {Hx H0x Ax ux Hn H0n An} hDl h0D hAD f => by
    refine ⟨?_, fun z => ?_, f.fr Dl _ hDl hAD⟩
    · cases z : H0n Dl with
      | none => rfl
      | some o =>
        rcases f.new Dl o z with ⟨u, e⟩ | e
        · exact absurd (h0D.symm.trans e) (by intro z; cases z)
        · exact absurd (hDl.symm.trans e) (by intro z; cases z)
    · rcases f.loc Dl z with z | z
      · exact hAD z
      · exact absurd (hDl.symm.trans z) (by intro z; cases z)
  by_cases hlt : i < ws.length
  · obtain ⟨g1, g2⟩ := go hlt
    refine .inr ⟨g1, fun H' => ∃ A' H0' st' acc us, I (i + 1) acc st' ∧ RS X.K G A' σ H' H0' sl st' ∧ Ext A1 A' ∧ Same H01 H0' ∧ H' Dl = some (.lst us) ∧ Reps X.K H0' us acc ∧ H0' Dl = none ∧ Dl ∉ A', fun H' h => ⟨ws.length - (i + 1), by omega, rfl, hlt, h⟩, fun x H'' y => ?_⟩
    obtain ⟨w, H0'', hw, R2, s2, s3, rw⟩ := g2 x H'' y
    obtain ⟨sl2, hsl2, hin⟩ := turn i w acc st' hw q
    refine tgt_run (vs := vs) R2.hs.le (R2.sl.wipe vs) his rw hsl2 fun σ2 hσ2 hw2 => ⟨by rw [hw2, wipe_twice], ?_⟩
    have RB : RS X.K ⟨Hc, H0', A'⟩ A' σ2 H'' H0'' sl2 st' := ⟨hσ2, R2.hs, R2.fr⟩
    show BlkI X scope tg1 iter1 σ2 H'' _
    intro sb Hb C cl fp
    refine hin ⟨Hc, H0', A'⟩ sb Hb C cl fp A' σ2 H'' H0'' RB _ fun J1 ws1 st4 A4 H4 H04 ⟨I1, i10, turn1, fn1⟩ R4 x4 s4 it1 => ?_
    obtain ⟨n04, nA4, nH4⟩ := noD hDl h0D hAD R4.fr
    have R4' := R'.after R4.hs R4.fr
    refine ⟨fun j m H => m = ws1.length - j ∧ j ≤ ws1.length ∧ ∃ A5 H05 st5 acc5 us5, I1 j acc5 st5 ∧ RS X.K G A5 σ2 H H05 sl2 st5 ∧ Ext A4 A5 ∧ Same H04 H05 ∧ H Dl = some (.lst us5) ∧ Reps X.K H05 us5 acc5 ∧ H05 Dl = none ∧ Dl ∉ A5,
      ⟨ws1.length, by simp, Nat.zero_le _, A4, H04, st4, acc, us, i10, ⟨R4.sl, R4'.hs, R4'.fr⟩, Ext.refl _, Same.refl _, nH4, racc.mono R4.fr.old, n04, nA4⟩, ?_⟩
    rintro j m1 Hd ⟨rfl, hle1, A5, H05, st5, acc5, us5, q5, R5, x5, s5, hDl5, racc5, h0D5, hAD5⟩
    have RL5 : RS X.K ⟨Hd, H05, A5⟩ A5 σ2 Hd H05 sl2 st5 := ⟨R5.sl, R5.hs, Fr.refl R5.hs⟩
    obtain ⟨go1, stop1⟩ := it1 j ⟨Hd, H05, A5⟩ A5 σ2 Hd H05 sl2 st5 RL5 x5 s5
    by_cases hlt1 : j < ws1.length
    · obtain ⟨g1, g2⟩ := go1 hlt1
      refine .inr ⟨g1, fun H => ∃ A5 H05 st5 acc5 us5, I1 (j + 1) acc5 st5 ∧ RS X.K G A5 σ2 H H05 sl2 st5 ∧ Ext A4 A5 ∧ Same H04 H05 ∧ H Dl = some (.lst us5) ∧ Reps X.K H05 us5 acc5 ∧ H05 Dl = none ∧ Dl ∉ A5, fun H' h => ⟨ws1.length - (j + 1), by omega, rfl, hlt1, h⟩, fun x H6 y => ?_⟩
      obtain ⟨w1, H06, hw1, R6, s6, s6', rw1⟩ := g2 x H6 y
      obtain ⟨sl3, hsl3, lt⟩ := turn1 j w1 acc5 st5 hw1 q5
      refine tgt_run (vs := vs1) R6.hs.le (R6.sl.wipe vs1) his1 rw1 hsl3 fun σ3 hσ3 hw3 => ⟨by rw [hw3, wipe_twice], ?_⟩
      show BlkE X scope elt σ3 H6 _
      intro sb2 Hb2 C2 cl2 fp2
      refine lt ⟨Hd, H05, A5⟩ sb2 Hb2 C2 cl2 fp2 A5 σ3 H6 H06 ⟨hσ3, R6.hs, R6.fr⟩ _ fun w7 st7 v7 A7 H7 H07 ⟨d, ew, hz, q7⟩ R7 x7 s7 r7 => ?_
      subst ew
      obtain ⟨n0, nA, nH⟩ := noD hDl5 h0D5 hAD5 R7.fr
      have R8 : RS X.K G A7 σ2 H7 H07 sl2 st7 := R5.after R7.hs R7.fr
      exact ⟨us5, nH, by rw [racc5.length]; exact hz, A7, H07, st7, acc5 ++ [d], us5 ++ [v7], q7, R8.poke n0 nA hG0, x5.trans R7.fr.pre, s5.trans R7.fr.old, upd_same, (racc5.mono R7.fr.old).append (.cons r7 .nil), n0, nA⟩
    · have e : j = ws1.length := by omega
      refine .inl ⟨stop1 e, A5, H05, st5, acc5, us5, fn1 _ _ (by rw [← e]; exact q5), ⟨R'.sl.mono (R4.fr.pre.trans x5) (R4.fr.old.trans s5), R5.hs, R5.fr⟩, x'.trans (R4.fr.pre.trans x5), s'.trans (R4.fr.old.trans s5), hDl5, racc5, h0D5, hAD5⟩
  · have e : i = ws.length := by omega
    refine .inl ⟨stop e, ?_⟩
    have s0 : Same H0' (upd H0' Dl (.lst us)) := same_upd h0D
    exact k _ st' _ A' Hc _ ⟨acc, rfl, fn acc st' (by rw [← e]; exact q)⟩ (R'.join hDl h0D hAD hG0) (x1.trans x') ((s1.trans s').trans s0) (.lst upd_same (racc.mono s0))
theorem ew_lc2 {own : List (Str × Nat)} {scope : Scope} {tb tb1 : Bool} {is is1 vs1 : List Nat} (hc : X.calm = true) (hN : X.N.Nodup) (ok : BlkOk X.N X.env.scope scope own) (ht : TgOk X tg scope tb is) (ht1 : TgOk X tg1 scope tb1 is1) (his : ∀ i ∈ is, i ∈ own.map (·.2)) (his1 : ∀ i ∈ is1, i ∈ vs1) (hv1 : ∀ i ∈ vs1, i ∈ own.map (·.2))
    (h : LcJ2 X G tg iter tg1 iter1 elt scope tb is tb1 is1 (own.map (·.2)) vs1 sl st fun acc st' => Φ (.dat (.lst acc)) st')
    (hs : ∀ x, foldedSetIterable iter X.env x = pure x := by intro _; rfl) (hs1 : ∀ env x, foldedSetIterable iter1 env x = pure x := by intro _ _; rfl) : EW X G (.ListComp elt [⟨tg, iter, [], 0⟩, ⟨tg1, iter1, [], 0⟩] scope pos) sl st Φ := fun A σ H H0 R Q k =>
  wpE_of (pe_lc2 hc hN pi_wp ok hv1 ht (fun _ _ _ _ _ => pts_nil) blkI_pi ht1 (fun _ _ _ _ _ => pts_nil) blkE_pe hs hs1) (lc_run2 his his1 h R fun w st' v A' H' H0' ⟨acc, ew, q⟩ => by subst ew; exact k _ st' v A' H' H0' q)
end
end Dn
namespace Dn
open PySem PySem.Spec L2 StX ClX
open PyProof.Rows hiding St
section
variable {X : Cx} {G : Ent} {e a b c o : Expr} {es : List Expr} {sl : Sls} {st : List Ob} {Φ : WK} {Ψ : BK} {pos p apos cpos : Pos} {E : KE}
theorem ew_extend (h : EW X G o sl st fun w1 st1 => ∃ j ys, w1 = .ptr j ∧ st1[j]? = some (.lst ys) ∧ EW X G e sl st1 fun w2 st2 => ∃ xs ds, w2 = .dat (.lst ds) ∧ st2[j]? = some (.lst xs) ∧ xs.length + ds.length ≤ sizeLine ∧ Φ (.dat .non) (st2.set j (.lst (xs ++ ds.map W.dat))))
    (hbase : attributeBase o "extend" X.env (eval o X.env) = eval o X.env := by rfl)
    (hfew : ((backTo cpos (starEach (e :: []) X.env)).all (fun x => !x.1) && (backToKw cpos (keywordEach [] X.env)).all (fun x => x.1.isSome)
      && decide ((e :: ([] : List Expr)).length + ([] : List Keyword).length + (if ([] : List Keyword).isEmpty then 0 else 1) < 30)) = true := by rfl)
    (hline : (apos.endLine == cpos.line) = true := by rfl) (hs : starEach (e :: []) X.env = (false, eval e X.env) :: starEach [] X.env := by rfl) (hplain : (backTo cpos (starEach [] X.env)).any (·.1) = false := by rfl) : EW X G (.Call (.Attribute o "extend" apos) [e] [] cpos) sl st Φ := fun A σ H H0 R Q k =>
  wpE_of (pe_bm PySem.F.plainAttrs_list PySem.F.slot_list_extend PySem.F.type_list_extend mt_extend pe_wp (pa_cons pe_wp pa_nil hs) hbase hfew hline hs hplain) (h A σ H H0 R _ fun w1 st1 v1 A1 H1 H01 ⟨j, ys, ew, hy, q⟩ R1 x1 s1 r1 => by
    subst ew
    obtain ⟨ad, ha, h0, vs, he, rr⟩ := R1.at hy
    obtain ⟨a', ha', rfl⟩ := r1
    have : a' = ad := Option.some.inj (ha'.symm.trans ha)
    subst this
    refine ⟨.inl ⟨rfl, vs, .inl (.inl he)⟩, q A1 σ H1 H01 R1 _ fun w2 st2 v2 A2 H2 H02 ⟨xs, ds, ew2, hx, hz, q2⟩ R2 x2 s2 r2 => ?_⟩
    subst ew2
    cases r2 with
    | @lst ad3 us _ e3 q3 =>
      obtain ⟨ad2, ha2, h02, vs2, he2, rr2⟩ := R2.at hx
      have : ad2 = a' := Option.some.inj (ha2.symm.trans (x2.get ha))
      subst this
      refine ⟨_, ad3, vs2, us, rfl, rfl, he2, R2.hs.le _ _ e3, by rw [rr2.length, q3.length]; exact hz, ?_⟩
      exact k _ _ _ A2 _ H02 q2 (R2.write ha2 hx h02 ⟨h02, _, upd_same, rr2.append (RepWs.of q3)⟩) (x1.trans x2) (s1.trans s2) .non)
theorem sw_par3 (i j l : Nat) {x y z : Str} {px py pz pt : Pos} {kt k2 pt2} (hc : X.calm = true) (h : AW X G [a, b, c] sl st fun ws st1 => ∃ w1 w2 w3, ws = [w1, w2, w3] ∧ E.nx (((sl.set i (some w1)).set j (some w2)).set l (some w3)) st1) (hN : X.N.Nodup) (hi : X.N[i]? = some x := by rfl) (hj : X.N[j]? = some y := by rfl) (hl : X.N[l]? = some z := by rfl) (hij : i ≠ j := by decide) (hil : i ≠ l := by decide) (hjl : j ≠ l := by decide)
    (hx : X.env.scope.names.lookup x = some .local := by rfl) (hy : X.env.scope.names.lookup y = some .local := by rfl) (hz : X.env.scope.names.lookup z = some .local := by rfl) (hst : swappedStores [Expr.Tuple [Expr.Name x px, Expr.Name y py, Expr.Name z pz] kt pt] (Expr.Tuple [a, b, c] k2 pt2) X.env = pure (some [x, y, z]) := by rfl) : SW1 X G (.Assign [.Tuple [.Name x px, .Name y py, .Name z pz] kt pt] (.Tuple [a, b, c] k2 pt2) pos) sl st E := fun A σ H H0 R D k =>
  wpS_of (ps_par3 hc hN hi hj hl hij hil hjl hx hy hz pa_wp hst) (h A σ H H0 R _ fun ws st1 vs A1 H1 H01 ⟨w1, w2, w3, ew, q⟩ R1 x1 s1 r1 => by
    subst ew
    match vs, r1 with
    | [v1, v2, v3], r1 => exact ⟨v1, v2, v3, rfl, k.nx A1 _ H1 H01 _ st1 q (((R1.set r1.1 i).set r1.2.1 j).set r1.2.2.1 l) x1 s1⟩)
end
end Dn
namespace Dn
open PySem PySem.Spec L2 StX ClX
open PyProof.Rows hiding St
theorem fillsI_no {M : Model} {K : PySem.W.Frag} {C : Addr} {nm : String} {h : Heap} {cd : ClassData} {add : Bool} (X : K.In h) (hc : PySem.W.clsIn K C = some cd) (hm : cd.mro = [.ref C, .type "object"]) (h1 : PySem.W.findIn K (.ref C) (dunderI nm) = some none) (h2 : PySem.W.findIn K (.type "object") (dunderI nm) = some none) :
    PySem.W.Looks M h (fillsInplaceSlot (.ref C) nm add) false := fun A Q E s k q => by
  have X' : K.In s.heap := PySem.W.Frag.In.keeps X k
  have Lm : PySem.W.Looks M s.heap (mroOf (.ref C)) cd.mro := (PySem.W.Looks.andThen (f := fun cd => pure cd.mro) (PySem.W.looks_clsIn X hc) PySem.W.Looks.now).keeps k
  unfold fillsInplaceSlot
  refine wpAny_bind (PySem.W.Looks.here Lm ?_)
  rw [hm, List.anyM_cons]
  refine wpAny_bind (wpAny_bind (PySem.W.Looks.here (PySem.W.looks_findIn X' h1) (wpAny_pure ?_)))
  rw [List.anyM_cons]
  refine wpAny_bind (wpAny_bind (PySem.W.Looks.here (PySem.W.looks_findIn X' h2) (wpAny_pure ?_)))
  exact wpAny_pure q
theorem bin1_K {A : Around} {E : Value → Shared → Prop} {s : Shared} {K : PySem.W.Frag} {x C f : Addr} {ox : Obj} {od : Option Obj} {prog : Program} {w : World} {nm : String} {b : Value} {cd : ClassData} {rest : List Value} {Q : Value → Shared → Prop} (X : K.In s.heap) (I : PySem.W.InstAt s.heap x ox C od) (hb : PySem.W.Looks (model prog w) s.heap (typeOf b) (.ref C))
    (hc : PySem.W.clsIn K C = some cd) (hm : cd.mro = .ref C :: rest) (hs : PySem.W.findIn K (.ref C) (dunder nm) = some (some (.ref f))) (hf : PySem.W.isFn K (.ref f) = true) (h : wpAny (model prog w) A (call (.ref f) [.ref x, b]) (PySem.W.CmpBack Q) E s) :
    wpAny (model prog w) A (binaryOp1 nm (.ref x) b) (fun r s' => ∃ v, r = some v ∧ Q v s') E s := by
  unfold binaryOp1
  refine wpAny_bind (PySem.W.Looks.here I.type (wpAny_bind (PySem.W.Looks.here hb (wpAny_bind (PySem.W.Looks.here (PySem.W.fills_K X hc hm hs) ?_)))))
  refine wpAny_ite_true (by simp) (wpAny_bind (wpAny_pure ?_))
  refine wpAny_ite_false rfl ?_
  refine wpAny_ite_false rfl ?_
  refine wpAny_ite_false rfl ?_
  refine wpAny_bind (wpAny_pure ?_)
  refine wpAny_ite_false rfl ?_
  refine wpAny_ite_true rfl ?_
  refine wpAny_bind (wpAny_mono (PySem.W.ksp_try X I hs hf h) (fun r s' hq => ?_) fun _ _ q => q)
  obtain ⟨v, rfl, q⟩ := hq
  exact wpAny_pure ⟨v, rfl, q⟩
structure IopTxt (K : PySem.W.Frag) (C : Addr) (nm : String) : Prop where
  cls : ∃ nm q N bs hd sn sub ab col dd k0 k1 k2 k3 k5 newId, K.lookup C = some (excClassObj nm q C N bs [.type "object"] hd sn sub ab col dd k0 k1 k2 k3 k5 newId)
  own : PySem.W.findIn K (.ref C) (dunderI nm) = some none
  obj : PySem.W.findIn K (.type "object") (dunderI nm) = some none
section
variable {X : Cx} {G : Ent} {sl : Sls} {st : List Ob} {Φ : WK} {Kx : XKS} {F : FT} {k j : Nat} {C : Addr} {fs gs : List (Str × D)}
theorem o_iown {op : Operator} (T1 : IopTxt X.K C op.info.snd) (c : OpM X.prog X.w X.K X.mg X.base k C (dunder op.info.snd) F) (hr : RoomG j X.A) (hk : k ≤ j) (xk : XOk X G Kx)
    (h : F [.dat (.ins C fs), .dat (.ins C gs)] st Φ fun cls es st2 => ∀ sl', Kx cls es sl' st2) : OW X G (inplaceOp op) sl st (.dat (.ins C fs)) (.dat (.ins C gs)) Φ := fun A σ H H0 R v1 v2 r1 r2 Q kk pins s σ' v u I rv ru => by
  obtain ⟨f, T, Fn⟩ := c
  obtain ⟨nm, q, N', bs, hdc, sn, sub, ab, col, dd, k0, k1, k2, k3, k5, newId, hC⟩ := T1.cls
  cases r1 with
  | @ins a _ dx vs _ e1 q1 =>
  cases r2 with
  | @ins b _ dy us _ e2 q2 =>
  obtain rfl : v = Value.ref a := rv
  obtain rfl : u = Value.ref b := ru
  obtain ⟨ox, od, J, hd⟩ := insC_at I (.inr ⟨dx, vs, R.hs.le _ _ e1⟩ : StX.InsC X H a C)
  obtain ⟨oy, oe, J2, hd2⟩ := insC_at I (.inr ⟨dy, us, R.hs.le _ _ e2⟩ : StX.InsC X H b C)
  have hcl : PySem.W.clsIn X.K C = some { name := nm, bases := bs, mro := [.ref C, .type "object"], ns := N', qualname := q, hasDict := hdc, slotNames := sn, subclasses := sub, abstract := ab, collection := col } := by
    unfold PySem.W.clsIn
    rw [hC]
  have one := bin1_K (nm := op.info.snd) I.kIn J J2.type hcl rfl T.at_ T.fn (wpAny_mono (run_op (vs := [.ref a, .ref b]) (ws := [.dat (.ins C fs), .dat (.ins C gs)]) Fn (hr.mono hk) xk R ⟨.ins e1 q1, .ins e2 q2, trivial⟩ I (.cons rfl (.cons rfl .nil)) h kk) (fun u s' q => cmpback q) fun _ _ q => q)
  unfold inplaceOp
  refine wpAny_holding (wpAny_bind (PySem.W.Looks.here J.type (wpAny_bind (PySem.W.Looks.here (fillsI_no I.kIn hcl rfl T1.own T1.obj) ?_))))
  refine wpAny_ite_false rfl ?_
  refine wpAny_bind (wpAny_mono one (fun r s' hq => ?_) fun _ _ q => q)
  obtain ⟨v, rfl, q⟩ := hq
  exact wpAny_pure q
end
end Dn
namespace Dn
open PySem PySem.Spec L2 StX ClX
open PyProof.Rows hiding St
section
variable {X : Cx} {G : Ent} {e a b c o tg iter elt : Expr} {es : List Expr} {sl : Sls} {st : List Ob} {Φ : WK} {Ψ : BK} {pos p : Pos} {scope : Scope} {tb : Bool} {is vs : List Nat} {fin : List D → List Ob → Prop}
theorem c_maxL {ns : List Int} (hc : X.calm = true) (hn : 0 < ns.length) (h : ∀ m ∈ ns, (∀ y ∈ ns, y ≤ m) → Φ (.dat (.int m)) st) : CW X G (.builtin "max") sl st [.dat (.lst (ns.map D.int))] Φ := cw_of (cr_max hc) fun A σ H H0 R vs rw Q k => by
  obtain ⟨v, rfl, r⟩ := rep1 rw
  cases r with
  | @lst ad us _ eh rr =>
    have e := reps_int rr
    subst e
    refine ⟨ad, ns, rfl, .inl (.inl (R.hs.le _ _ eh)), hn, fun m hm hle => ?_⟩
    exact k _ st _ A _ _ (h m hm hle) R (Ext.refl _) (Same.refl _) (.int _)
theorem c_minL {ns : List Int} (hc : X.calm = true) (hn : 0 < ns.length) (h : ∀ m ∈ ns, (∀ y ∈ ns, m ≤ y) → Φ (.dat (.int m)) st) : CW X G (.builtin "min") sl st [.dat (.lst (ns.map D.int))] Φ := cw_of (cr_min hc) fun A σ H H0 R vs rw Q k => by
  obtain ⟨v, rfl, r⟩ := rep1 rw
  cases r with
  | @lst ad us _ eh rr =>
    have e := reps_int rr
    subst e
    refine ⟨ad, ns, rfl, .inl (.inl (R.hs.le _ _ eh)), hn, fun m hm hle => ?_⟩
    exact k _ st _ A _ _ (h m hm hle) R (Ext.refl _) (Same.refl _) (.int _)
end
end Dn
namespace Dn
open PySem PySem.Spec L2 StX ClX
open PyProof.Rows hiding St
section
variable {X : Cx} {G : Ent} {e a b c o tg iter elt : Expr} {ss : List Stmt} {sl : Sls} {st : List Ob} {E : KE}
theorem sw_frz (i : Nat) {j : Nat} {xs : List D} (hi : sl[i]? = some (some (.ptr j))) (hj : st[j]? = some (.lst (xs.map W.dat))) (hg : G.A.length ≤ j) (h : SW X G ss (sl.set i (some (.dat (.lst xs)))) (st.set j .gone) E) : SW X G ss sl st E := fun A σ H H0 R D k => by
  obtain ⟨ad, ha, h0, vs, he, rr⟩ := R.at hj
  obtain ⟨v, hv, r⟩ := R.sl.2 i _ hi
  obtain ⟨a', ha', rfl⟩ := r
  have : a' = ad := Option.some.inj (ha'.symm.trans ha)
  subst this
  have gx : G.H a' = none := by
    rcases R.fr.loc a' (List.mem_of_getElem? ha) with z | z
    · exfalso
      obtain ⟨i, hi, e⟩ := List.mem_iff_getElem.mp z
      have h1 := R.fr.pre.get (List.getElem?_eq_getElem hi)
      rw [e] at h1
      have h2 := List.getElem?_eq_some_iff.mp h1
      have h3 := List.getElem?_eq_some_iff.mp ha
      have := (List.getElem_inj R.hs.nd).mp (h2.2.trans h3.2.symm)
      omega
    · exact z
  have s0 : Same H0 (upd H0 a' (.lst vs)) := same_upd h0
  have R' := R.freeze ha hj he h0 gx
  refine h A σ H _ ⟨⟨by rw [List.length_set]; exact R'.sl.1, fun q w hq => ?_⟩, R'.hs, R'.fr⟩ D (k.mv (Ext.refl _) s0)
  by_cases hk : i = q
  · subst hk
    have hl := (List.getElem?_eq_some_iff.mp hi).1
    rw [List.getElem?_set_self hl] at hq
    cases hq
    exact ⟨_, hv, .lst upd_same (rr.dats.mono s0)⟩
  · rw [List.getElem?_set_ne hk] at hq
    exact R'.sl.2 q w hq
end
end Dn
namespace Dn
open PySem PySem.Spec L2 StX ClX
open PyProof.Rows hiding St
section
variable {X : Cx} {G : Ent} {sl : Sls} {st : List Ob} {Φ : WK} {j : Nat}
theorem o_ltT {xs ys : List Int} (hr : RoomG j X.A) (h : Φ (.dat (.bl (HT.lexLt xs ys))) st) : OW X G (compareOp .Lt) sl st (.dat (.tup (xs.map D.int))) (.dat (.tup (ys.map D.int))) Φ := ow_of (op_ltT (Nat.lt_of_le_of_lt (Nat.le_add_right _ _) hr.units)) fun A σ H H0 R v1 v2 r1 r2 Q k => by
  cases r1 with
  | @tup ad us _ eh rr =>
    cases r2 with
    | @tup ad2 us2 _ eh2 rr2 =>
      have e := reps_int rr
      have e2 := reps_int rr2
      subst e e2
      exact ⟨ad, ad2, xs, ys, rfl, rfl, .inl (.inl (R.hs.le _ _ eh)), .inl (.inl (R.hs.le _ _ eh2)), k _ st _ A _ _ h R (Ext.refl _) (Same.refl _) (.bl _)⟩
end
end Dn
namespace Dn
open PySem PySem.Spec L2 StX ClX
open PyProof.Rows hiding St
mutual
theorem toPy_reads {P : Program} {w : World} {K : PySem.W.Frag} {H : Hp} {h : Heap} (ok : HOk P w H h) : ∀ (d : D) (v : V) (u : Value) (p : PyData), Rep K H v d → RelV v u → toPy d = some p → ∃ as, Reads h u p as
  | .non, _, _, _, r, ru, e => by cases r; cases (show _ = Value.none from ru); simp only [toPy, Option.some.injEq] at e; subst e; exact ⟨_, .none⟩
  | .bl b, _, _, _, r, ru, e => by cases r; cases (show _ = Value.bool b from ru); simp only [toPy, Option.some.injEq] at e; subst e; exact ⟨_, .bool b⟩
  | .int b, _, _, _, r, ru, e => by cases r; obtain ⟨t, rfl⟩ := ru; simp only [toPy, Option.some.injEq] at e; subst e; exact ⟨_, .int b t⟩
  | .str b, _, _, _, r, ru, e => by cases r; obtain ⟨t, rfl⟩ := ru; simp only [toPy, Option.some.injEq] at e; subst e; exact ⟨_, .str b t⟩
  | .lst xs, _, _, _, r, ru, e => by
    cases r with
    | @lst a vs _ ea rr =>
      cases (show _ = Value.ref a from ru)
      simp only [toPy] at e
      obtain ⟨ps, h1, h2⟩ := Option.map_eq_some_iff.mp e
      subst h2
      obtain ⟨_, its, n, rv, at_⟩ := ok a _ ea
      obtain ⟨as, z⟩ := toPys_reads ok xs vs its ps rr rv h1
      exact ⟨_, .list at_ rfl rfl z⟩
  | .tup xs, _, _, _, r, ru, e => by
    cases r with
    | @tup a vs _ ea rr =>
      cases (show _ = Value.ref a from ru)
      simp only [toPy] at e
      obtain ⟨ps, h1, h2⟩ := Option.map_eq_some_iff.mp e
      subst h2
      obtain ⟨_, its, rv, o, at_, hc, n, hd⟩ := ok a _ ea
      obtain ⟨as, z⟩ := toPys_reads ok xs vs its ps rr rv h1
      exact ⟨_, .tuple at_ hc hd z⟩
  | .ins _ _, _, _, _, _, _, h => by simp [toPy] at h
  | .scr _, _, _, _, _, _, h => by simp [toPy] at h
  | .adr _, _, _, _, _, _, h => by simp [toPy] at h
  | .ty _, _, _, _, _, _, h => by simp [toPy] at h
  | .err _ _ _ _, _, _, _, _, _, h => by simp [toPy] at h
theorem toPys_reads {P : Program} {w : World} {K : PySem.W.Frag} {H : Hp} {h : Heap} (ok : HOk P w H h) : ∀ (ds : List D) (vs : List V) (us : List Value) (ps : List PyData), Reps K H vs ds → Vals vs us → toPys ds = some ps → ∃ as, ReadsAll h us ps as
  | [], _, _, _, r, ru, e => by cases r; cases ru; simp only [toPys, Option.some.injEq] at e; subst e; exact ⟨_, .nil⟩
  | d :: ds, _, _, _, r, ru, e => by
    cases r with
    | cons r rr =>
      cases ru with
      | cons a b =>
        simp only [toPys] at e
        cases e1 : toPy d with
        | none => rw [e1] at e; cases e
        | some p =>
          rw [e1] at e
          obtain ⟨ps, h1, h2⟩ := Option.map_eq_some_iff.mp e
          subst h2
          obtain ⟨as, z1⟩ := toPy_reads ok d _ _ p r a e1
          obtain ⟨bs, z2⟩ := toPys_reads ok ds _ _ ps rr b h1
          exact ⟨_, .cons z1 z2⟩
end
mutual
theorem toPy_nodict : ∀ (d : D) (p : PyData), toPy d = some p → p.hasDict = false
  | .non, _, e => by simp only [toPy, Option.some.injEq] at e; subst e; rfl
  | .bl _, _, e => by simp only [toPy, Option.some.injEq] at e; subst e; rfl
  | .int _, _, e => by simp only [toPy, Option.some.injEq] at e; subst e; rfl
  | .str _, _, e => by simp only [toPy, Option.some.injEq] at e; subst e; rfl
  | .lst xs, _, e => by
    simp only [toPy] at e
    obtain ⟨ps, h1, h2⟩ := Option.map_eq_some_iff.mp e
    subst h2
    simp only [PyData.hasDict]
    exact toPys_nodict xs ps h1
  | .tup xs, _, e => by
    simp only [toPy] at e
    obtain ⟨ps, h1, h2⟩ := Option.map_eq_some_iff.mp e
    subst h2
    simp only [PyData.hasDict]
    exact toPys_nodict xs ps h1
  | .ins _ _, _, h => by simp [toPy] at h
  | .scr _, _, h => by simp [toPy] at h
  | .adr _, _, h => by simp [toPy] at h
  | .ty _, _, h => by simp [toPy] at h
  | .err _ _ _ _, _, h => by simp [toPy] at h
theorem toPys_nodict : ∀ (ds : List D) (ps : List PyData), toPys ds = some ps → PyData.hasDictAll ps = false
  | [], _, e => by simp only [toPys, Option.some.injEq] at e; subst e; rfl
  | d :: ds, _, e => by
    simp only [toPys] at e
    cases e1 : toPy d with
    | none => rw [e1] at e; cases e
    | some p =>
      rw [e1] at e
      obtain ⟨ps, h1, h2⟩ := Option.map_eq_some_iff.mp e
      subst h2
      simp only [PyData.hasDictAll, toPy_nodict d p e1, toPys_nodict ds ps h1, Bool.or_false]
end
structure Shows (d : D) (p : PyData) : Prop where
  py : toPy d = some p
  ok : p.showable = true
  dp : p.depth ≤ 20
  sz : p.shown.length ≤ sizeLine
section
variable {X : Cx} {G : Ent} {sl : Sls} {st : List Ob} {Φ : WK} {j : Nat}
theorem c_repr {d : D} {p : PyData} (hr : RoomG j X.A) (S : Shows d p) (h : Φ (.dat (.str p.shown)) st) : CW X G (.builtin "repr") sl st [.dat d] Φ := fun A σ H H0 R vs rw Q k pins s σ us I r => by
  obtain ⟨v, rfl, rr⟩ := rep1 rw
  obtain ⟨u, rfl, ru⟩ := L2.vals1 r
  have fin : ∀ (h' : Heap) (t tk : Nat), (∀ b o, s.heap.get? b = some o → h'.get? b = some o) → EP X pins σ Q (.str p.shown t) { s with heap := h', toks := tk } := fun h' t tk kp =>
    ⟨.str p.shown, H, I.kept (t' := tk) kp, ⟨t, rfl⟩, k _ st _ A H H0 h R (Ext.refl _) (Same.refl _) (.str _)⟩
  have rr0 : Rep X.K H v d := Rep.mono rr R.hs.le
  obtain ⟨as, rd⟩ := toPy_reads I.hok d v u p rr0 ru S.py
  have nd := toPy_nodict d p S.py
  cases rd with
  | none => exact PySem.P.repr_of_none (fin _ _ _ fun _ _ e => e)
  | bool b => exact PySem.P.repr_of_bool (fin _ _ _ fun _ _ e => e)
  | int i t => exact PySem.P.repr_of_int (by have := S.ok; simpa [PyData.showable] using this) (fin _ _ _ fun _ _ e => e)
  | str x t => exact PySem.P.repr_of_str (fin _ _ _ fun _ _ e => e) S.sz
  | list h1 h2 h3 h4 => exact repr_of_reads' (.list h1 h2 h3 h4) S.ok (fun z => by rw [nd] at z; cases z) hr.gd (by have := S.dp; have := hr.units; omega) (fun _ _ e => e) fin S.sz
  | tuple h1 h2 h3 h4 => exact repr_of_reads' (.tuple h1 h2 h3 h4) S.ok (fun z => by rw [nd] at z; cases z) hr.gd (by have := S.dp; have := hr.units; omega) (fun _ _ e => e) fin S.sz
  | dict _ _ _ _ _ => cases nd
end
theorem Shows.of {d : D} {p : PyData} (h : toPy d = some p) (h1 : p.showable = true) (h2 : p.depth ≤ 20) (h3 : p.leavesShort 20 = true) (h4 : p.weight ≤ 2 ^ 16) : Shows d p := ⟨h, h1, h2, by
  have z := PyData.shown_le 20 (by decide) p h3
  have e : (2 : Nat) ^ 16 = 65536 := by decide
  rw [sizeLine_eq]
  omega⟩
theorem int_short {i : Int} (h : i.natAbs < 10 ^ 19) : (PyData.int i).leavesShort 20 = true := by
  have e := int_text_length_le10 (k := 19) (by decide) h
  simp only [PyData.leavesShort, PyData.shown]
  refine decide_eq_true ?_
  rw [PySem.ofString_length]
  exact e
theorem int_shows {i : Int} (h : i.natAbs < 10 ^ 19) : (PyData.int i).showable = true := by
  simp only [PyData.showable, decide_eq_true_eq]
  refine log2_small (Nat.lt_trans h ?_)
  exact Nat.lt_of_lt_of_le (show 10 ^ 19 < 2 ^ 64 by decide) (Nat.pow_le_pow_right (by decide) (by decide))
end Dn
namespace Dn
open PySem PySem.Spec L2 StX ClX
open PyProof.Rows hiding St
section
variable {X : Cx} {G : Ent} {sl : Sls} {st : List Ob} {Φ : WK} {Kx : XKS} {F : FT} {k j : Nat} {C : Addr} {fs : List (Str × D)}
theorem c_lenOwn (c : OpM X.prog X.w X.K X.mg X.base k C "__len__" F) (hr : RoomG j X.A) (hk : k + 1 ≤ j) (xk : XOk X G Kx)
    (h : F [.dat (.ins C fs)] st (fun w st' => ∃ n : Int, w = .dat (.int n) ∧ 0 ≤ n ∧ n < 2 ^ 63 ∧ Φ (.dat (.int n)) st') fun cls es st2 => ∀ sl', Kx cls es sl' st2) : CW X G (.builtin "len") sl st [.dat (.ins C fs)] Φ := fun A σ H H0 R vs rw Q kk pins s σ' us I r => by
  obtain ⟨f, T, Fn⟩ := c
  obtain ⟨v, rfl, r1⟩ := rep1 rw
  obtain ⟨u, rfl, ru⟩ := L2.vals1 r
  have r1' : Rep X.K H0 v (.ins C fs) := r1
  cases r1' with
  | @ins a _ dx vs _ e1 q1 =>
  obtain rfl : u = Value.ref a := ru
  obtain ⟨ox, od, J, hd⟩ := insC_at I (.inr ⟨dx, vs, R.hs.le _ _ e1⟩ : StX.InsC X H a C)
  have room : RoomG k X.A.in1 := (hr.mono hk).in1
  refine PySem.Calls.call_function_entry kind_len plain_len entry_len (args_len1 _) ?_
  unfold Builtin.«len»
  refine wpAny_bind (m := oneArg "len" _) (wpAny_pure ?_)
  refine wpAny_bind (m := callSpecial? (.ref a) (PySem.Str.ofString "__len__")) ?_
  unfold callSpecial? specialOf
  refine wpAny_bind (wpAny_bind (PySem.W.Looks.here J.type (PySem.W.Looks.here (PySem.W.looks_findIn I.kIn T.at_) ?_)))
  refine wpAny_holding (wpAny_bind ((PySem.W.bind_fn I.kIn _ (beq_iff_eq.mp T.fn)).here ?_))
  have z := run_opB (B := X.A.in1) (vs := [.ref a]) (ws := [.dat (.ins C fs)]) (Φ := fun w st' => ∃ n : Int, w = .dat (.int n) ∧ 0 ≤ n ∧ n < 2 ^ 63 ∧ Φ (.dat (.int n)) st') (Q := fun v H' => ∃ n, v = .int n ∧ 0 ≤ n ∧ n < 2 ^ 63 ∧ Q (.int n) H') Fn room rfl xk R ⟨.ins e1 q1, trivial⟩ I (.cons rfl .nil) h fun w st' v A' H' H0' ⟨n, ew, h0, h1, q'⟩ R' x' s' rr => by
    subst ew
    cases rr
    exact ⟨n, rfl, h0, h1, kk _ st' _ A' H' H0' q' R' x' s' (.int _)⟩
  refine wpAny_bind (wpAny_mono z (fun u' s' hq => ?_) fun _ _ q => q)
  obtain ⟨v, H', I', rv', n, ev, h0, h1, q'⟩ := hq
  subst ev
  obtain ⟨t, rfl⟩ := rv'
  refine wpAny_pure ?_
  refine wpAny_bind (wpAny_holding (wpAny_pure ?_))
  refine wpAny_bind (wpAny_letGo ?_)
  show wpAny _ _ (if n < 0 then _ else _) _ _ _
  rw [if_neg (by omega)]
  show wpAny _ _ (if n ≥ 2 ^ 63 then _ else _) _ _ _
  rw [if_neg (by omega)]
  exact wpAny_bind (wpAny_mkInt (wpAny_pure ⟨_, rfl, .int n, H', I'.tok _, ⟨_, rfl⟩, q'⟩))
end
end Dn
namespace Dn
open PySem PySem.Spec L2 StX ClX
open PyProof.Rows hiding St
theorem zip_filter {α β : Type} (f : α → Bool) (g : α → β) : ∀ xs : List α, (((xs.map f).zip (xs.map g)).filter (·.1)).map (·.2) = (xs.filter f).map g
  | [] => rfl
  | x :: xs => by
    have ih := zip_filter f g xs
    rw [List.map_cons, List.map_cons, List.zip_cons_cons, List.filter_cons, List.filter_cons]
    cases h : f x with
    | true => simp [ih]
    | false => simpa using ih
section
variable {X : Cx} {G : Ent} {tg iter elt c : Expr} {sl : Sls} {st : List Ob} {scope : Scope} {tb : Bool} {is vs : List Nat} {fin : List D → List Ob → Prop}
theorem lcj_mapF {α : Type} (xs : List α) (r : α → D) (f : α → Bool) (g : α → D) (hz : xs.length < sizeLine) (hi : IWJ X G tg iter sl st fun ws st1 => st1 = st ∧ ws = (xs.map r).map W.dat)
    (turn : ∀ x ∈ xs, ∃ sl2, tset tb is (.dat (r x)) (wipeL sl vs) = some sl2 ∧ TWb X scope c sl2 st fun b st' => b = f x ∧ st' = st ∧ (f x = true → EWb X scope elt sl2 st fun w st' => w = .dat (g x) ∧ st' = st)) (hf : fin ((xs.filter f).map g) st) : LcJ X G tg iter [c] elt scope tb is vs sl st fin := by
  refine lcj_filter (xs.map f) (xs.map g) (by rw [List.length_map]; exact hz) (by rw [List.length_map, List.length_map]) ?_ (by rw [zip_filter]; exact hf)
  intro A σ H H0 R Rr k
  refine hi A σ H H0 R Rr fun J ws st1 A1 H1 H01 ⟨e1, e2⟩ => k J ws st1 A1 H1 H01 ⟨e1, ?_, fun i w b y hw hb hy => ?_⟩
  · rw [e2]
    simp
  · rw [e2] at hw
    rw [List.map_map, List.getElem?_map] at hw
    rw [List.getElem?_map] at hb hy
    obtain ⟨x, hx, rfl⟩ := Option.map_eq_some_iff.mp hw
    rw [hx] at hb hy
    cases hb
    cases hy
    obtain ⟨sl2, h1, h2⟩ := turn x (List.mem_of_getElem? hx)
    exact ⟨sl2, h1, h2⟩
theorem lcj_map {α : Type} (xs : List α) (r : α → D) (g : α → D) (hz : xs.length < sizeLine) (hi : IWJ X G tg iter sl st fun ws st1 => st1 = st ∧ ws = (xs.map r).map W.dat)
    (turn : ∀ x ∈ xs, ∃ sl2, tset tb is (.dat (r x)) (wipeL sl vs) = some sl2 ∧ EWb X scope elt sl2 st fun w st' => w = .dat (g x) ∧ st' = st) (hf : fin (xs.map g) st) : LcJ X G tg iter [] elt scope tb is vs sl st fin := by
  refine lcj_pure (xs.map g) (by rw [List.length_map]; exact hz) ?_ hf
  intro A σ H H0 R Rr k
  refine hi A σ H H0 R Rr fun J ws st1 A1 H1 H01 ⟨e1, e2⟩ => k J ws st1 A1 H1 H01 ⟨e1, ?_, fun i w y hw hy => ?_⟩
  · rw [e2]
    simp
  · rw [e2] at hw
    rw [List.map_map, List.getElem?_map] at hw
    rw [List.getElem?_map] at hy
    obtain ⟨x, hx, rfl⟩ := Option.map_eq_some_iff.mp hw
    rw [hx] at hy
    cases hy
    exact turn x (List.mem_of_getElem? hx)
theorem rng_map (lo : Int) (n : Nat) : rng lo n = ((List.range n).map fun (i : Nat) => D.int (lo + (i : Int))).map W.dat := by
  unfold rng
  rw [List.map_map]
  rfl
end
end Dn
namespace Dn
open PySem PySem.Spec L2 StX ClX
open PyProof.Rows hiding St
theorem pmk_bare {X : Cx} {C : Addr} {bmB : List Value} {B newId initId : String} {x : Str} {p pos : Pos} (F : ExcBaseFacts B newId initId bmB) (q : PySem.W.excIn X.K C bmB newId = true) (gC : X.mg x = some (.ref C)) (kC : PySem.W.keepIn X.K (.ref C) = true) (r : Raises X (.ref C)) (hg : Gl X x)
    (hdb : (x == ("__debug__" : Str)) = false := by decide) : PMk X (.Call (.Name x p) [] [] pos) (fun _ H Q => Q (.ref C) none H) := by
  intro pins s σ H Q I h
  refine wpAny_Call_Name_kw (ld_glob I hg gC ?_ hdb)
  refine PySem.W.callWith_K0 I.kIn kC ?_
  obtain ⟨_, _, _, _, _, _, _, _, _, _, _, _, _, _, _, _, _, at_C, ns, ni, T⟩ := exc_obj I.kIn q
  exact wpAny_call_exc_subT F T at_C ns ni (fun h' e made => mk_of I made r h (I.hok.gone made.new)) (Nat.zero_le _)
structure BareTxt (K : PySem.W.Frag) (mg : Str → Option Value) (x : Str) (C : Addr) : Prop where
  gC : mg x = some (.ref C)
  kC : PySem.W.keepIn K (.ref C) = true
  ex : PySem.W.excIn K C [.type "ValueError", .type "Exception", .type "BaseException", .type "object"] "ValueError.__new__" = true
  sb : PySem.W.subIn K (.ref C) (.type "BaseException") = some true
  ty : PySem.W.typeIn K (.ref C) = some (.type "type")
section
variable {X : Cx} {G : Ent} {sl : Sls} {st : List Ob} {Φ : WK} {Kx : XKS} {E : KE} {x : Str} {p pos pos2 : Pos}
theorem sw_raise0 {C : Addr} (T : BareTxt X.K X.mg x C) (xk : XOk X G Kx) (h : Kx (.ref C) [] sl st) (hc : X.calm = true := by rfl) (hg : Gl X x := by rfl) (hdb : (x == ("__debug__" : Str)) = false := by decide) :
    SW1 X G (.Raise (some (.Call (.Name x p) [] [] pos)) none pos2) sl st E := fun A σ H H0 R D kk => by
  obtain ⟨Wx, tk, hW⟩ := xk
  exact wpS_of (ps_raise hc tk (pmk_bare PySem.F.excBase_ValueError T.ex T.gC T.kC (raises_own T.sb T.ty) hg hdb)) (hW _ _ _ [] A σ H H0 sl st h R (.inl ⟨rfl, rfl⟩) .nil)
theorem c_isBare {n : String} {ad C : Addr} {b : Bool} {oe : Obj} {pn : List (Addr × Obj)} (T : L2.ExcC X.K C) (hz : Zc (.ref C) none oe) (hf : ∃ vs, oe.data = .fields vs) (hk : PySem.W.kitOne X.K (.ref C) (.type n) = some b) (h : Φ (.dat (.bl b)) st) :
    CW (X.suite ad ((ad, oe) :: pn)) G (.builtin "isinstance") sl st [.dat (.err ad none (.ref C) []), .dat (.ty n)] Φ := fun A σ H H0 R vs rw Q k => by
  obtain ⟨v, u, rfl, r, r'⟩ := rep2 rw
  cases r
  cases r'
  exact wpC_of (call_isE T hz hf) ⟨.ty n, .type n, b, rfl, fun u e => e, hk, k _ st _ A H H0 h R (Ext.refl _) (Same.refl _) (.bl b)⟩
end
end Dn
namespace Dn
open PySem PySem.Spec L2 StX ClX
open PyProof.Rows hiding St
section
variable {X : Cx} {G : Ent} {e a b c o : Expr} {es : List Expr} {sl : Sls} {st : List Ob} {Φ : WK} {Ψ : BK} {pos p apos cpos : Pos} {Kx : XKS} {F : FT} {k j : Nat} {x : Str}
theorem bt_VE : bootBuiltins "ValueError" = some (.type "ValueError") := by rfl
def rIsEdT (K : PySem.W.Frag) (ad : Addr) (b : Bool) (C dx : Addr) (n : String) (vfs : List (Str × V)) : List V → Hp → VK → Prop := fun xs H Q => xs = [.ref ad, .ty n] ∧ H dx = some (.xd vfs) ∧ PySem.W.kitOne K (.ref C) (.type n) = some b ∧ Q (.bl b) H
theorem call_isEdT {ad C dx : Addr} {n : String} {b : Bool} {oe : Obj} {pn : List (Addr × Obj)} {vfs : List (Str × V)} (E : L2.ExcC X.K C) (hz : Zc (.ref C) (some dx) oe) (hf : ∃ vs, oe.data = .fields vs) : CallR (X.suite ad ((ad, oe) :: pn)) (.builtin "isinstance") (rIsEdT X.K ad b C dx n vfs) := by
  intro pins s σ H xs us Q I r h
  obtain ⟨rfl, hx, e, q⟩ := h
  cases r with
  | cons rx rr =>
    cases rr with
    | cons rt rr =>
      cases rr
      cases rx
      cases rt
      obtain ⟨hget, _⟩ := I.pin (ad, oe) (List.mem_append.mpr (.inl List.mem_cons_self))
      obtain ⟨vs, hv⟩ := hf
      have hx' : ObjOk X.prog X.w H s.heap dx (.xd vfs) := I.hok dx _ hx
      obtain ⟨mA, hns, _⟩ := hx'
      obtain ⟨od, ho, _⟩ := lookIn_ns hns
      have J : PySem.W.InstAt s.heap ad oe C (some od) := ⟨hget, hz.1, by unfold PySem.W.notCls; rw [hv] <;> rfl, by rw [hz.2]; exact ho⟩
      have hcl : (PySem.W.clsIn X.K C).isSome = true := by
        have hd := E.hd
        unfold PySem.W.hasDictIn at hd
        cases hc : PySem.W.clsIn X.K C with
        | none => rw [hc] at hd; cases hd
        | some cd => rfl
      exact PySem.W.kia_one (PySem.W.kitx_exc (od := some od) hcl E.hg E.hk E.hs E.ha E.hn E.ht E.hm) I.kIn J e (fun z => nomatch z) fun tk => ⟨.bl b, H, I.kept (t' := tk) fun _ _ z => z, rfl, q⟩
theorem c_isBare' {n : String} {ad C : Addr} {od : Option Addr} {b : Bool} {oe : Obj} {pn : List (Addr × Obj)} (T : L2.ExcC X.K C) (hz : Zc (.ref C) od oe) (hf : ∃ vs, oe.data = .fields vs) (hk : PySem.W.kitOne X.K (.ref C) (.type n) = some b) (h : Φ (.dat (.bl b)) st) :
    CW (X.suite ad ((ad, oe) :: pn)) G (.builtin "isinstance") sl st [.dat (.err ad od (.ref C) []), .dat (.ty n)] Φ := by
  cases od with
  | none => exact c_isBare T hz hf hk h
  | some dx =>
    intro A σ H H0 R vs rw Q k
    obtain ⟨v, u, rfl, r, r'⟩ := rep2 rw
    cases r with
    | err hx rf =>
    cases r'
    exact wpC_of (call_isEdT T hz hf) ⟨rfl, R.hs.le _ _ hx, hk, k _ st _ A H H0 h R (Ext.refl _) (Same.refl _) (.bl b)⟩
theorem eqV_int (a b : Int) : eqV (.int a) (.int b) = decide (a = b) := by
  show (a == b) = decide (a = b)
  by_cases q : a = b <;> simp [q]
theorem ew_index (h : EW X G o sl st fun w1 st1 => ∃ zs : List Int, w1 = .dat (.lst (zs.map D.int)) ∧ EW X G e sl st1 fun w2 st2 => ∃ (z : Int) (j : Nat), w2 = .dat (.int z) ∧ zs[j]? = some z ∧ (∀ m, m < j → zs[m]? ≠ some z) ∧ Φ (.dat (.int (j : Int))) st2)
    (hbase : attributeBase o "index" X.env (eval o X.env) = eval o X.env := by rfl)
    (hfew : ((backTo cpos (starEach (e :: []) X.env)).all (fun x => !x.1) && (backToKw cpos (keywordEach [] X.env)).all (fun x => x.1.isSome)
      && decide ((e :: ([] : List Expr)).length + ([] : List Keyword).length + (if ([] : List Keyword).isEmpty then 0 else 1) < 30)) = true := by rfl)
    (hline : (apos.endLine == cpos.line) = true := by rfl) (hs : starEach (e :: []) X.env = (false, eval e X.env) :: starEach [] X.env := by rfl) (hplain : (backTo cpos (starEach [] X.env)).any (·.1) = false := by rfl) : EW X G (.Call (.Attribute o "index" apos) [e] [] cpos) sl st Φ := fun A σ H H0 R Q k =>
  wpE_of (pe_bm PySem.F.plainAttrs_list PySem.F.slot_list_index PySem.F.type_list_index mt_index pe_wp (pa_cons pe_wp pa_nil hs) hbase hfew hline hs hplain) (h A σ H H0 R _ fun w1 st1 v1 A1 H1 H01 ⟨zs, ew, q⟩ R1 x1 s1 r1 => by
    subst ew
    cases r1 with
    | @lst ad us _ e1 q1 =>
      have eu := reps_int q1
      subst eu
      refine ⟨.inl ⟨rfl, _, .inl (.inl (R1.hs.le _ _ e1))⟩, q A1 σ H1 H01 R1 _ fun w2 st2 v2 A2 H2 H02 ⟨z, j, ew2, hj, hn, q2⟩ R2 x2 s2 r2 => ?_⟩
      subst ew2
      cases r2
      refine ⟨ad, zs.map V.int, .int z, j, .int z, rfl, rfl, .inl (.inl (R2.hs.le _ _ (s2 _ _ e1))), rfl, ?_, by rw [List.getElem?_map, hj]; rfl, by rw [eqV_int]; simp, fun m z' hm hz' => ?_, k _ _ _ A2 H2 H02 q2 R2 (x1.trans x2) (s1.trans s2) (.int _)⟩
      · rw [List.all_map]
        exact List.all_eq_true.mpr fun _ _ => rfl
      · rw [List.getElem?_map] at hz'
        obtain ⟨y, hy, rfl⟩ := Option.map_eq_some_iff.mp hz'
        rw [eqV_int]
        exact decide_eq_false fun q => hn m hm (by rw [hy, q]))
theorem ew_callFL {f : Addr} (i : Nat) (hi : sl[i]? = some (some (.dat (.adr f)))) (kp : PySem.W.keepIn X.K (.ref f) = true) (Fn : FnG X.prog X.w X.K X.mg X.base (L2.CX X.prog X.w) k f (spD X.K F)) (hr : RoomG j X.A) (hk : k ≤ j) (xk : XOk X G Kx) (h : AW X G (e :: es) sl st fun ws st1 => F ws st1 Φ fun cls fs st2 => Kx cls fs sl st2)
    (hN : X.N[i]? = some x := by rfl) (hv : Vis X.env.scope x := by first | exact Or.inl rfl | exact Or.inr (Or.inl rfl) | exact Or.inr (Or.inr rfl)) (hdb : (x == ("__debug__" : Str)) = false := by decide) (hcd : (x == ("__classdict__" : Str)) = false := by decide)
    (he : starEach (e :: es) X.env = (false, eval e X.env) :: starEach es X.env := by rfl) (hpl : (backTo pos (starEach es X.env)).any (·.1) = false := by rfl) : EW X G (.Call (.Name x p) (e :: es) [] pos) sl st Φ := fun A σ H H0 R Q k pins s I => by
  obtain ⟨v, hs, rv⟩ := R.sl.2 i _ hi
  cases rv
  refine wpAny_Call_Name_kw (thn ((pe_var (pos := p) hN hv hdb hcd).run pins s σ H (fun v H1 => v = .ref f ∧ H1 = H) I ⟨.ref f, hs, rfl, rfl⟩) fun u s0 ⟨v, H1, I0, r1, q1⟩ => ?_)
  obtain ⟨rfl, rfl⟩ := q1
  cases r1
  refine PySem.W.callWith_K (h₀ := X.base) I.ok.mod.kin kp (thn (h A σ _ H0 R (fun vs H1 => ∃ A1 H01 st1 ws, F ws st1 Φ (fun cls fs st2 => Kx cls fs sl st2) ∧ RS X.K G A1 σ H1 H01 sl st1 ∧ Ext A A1 ∧ Same H0 H01 ∧ RepWs X.K A1 H01 vs ws)
    (fun ws st1 vs A1 H1 H01 q R1 x1 s1 r1 => ⟨A1, H01, st1, ws, q, R1, x1, s1, r1⟩) pos pins s0 I0) fun us s1 ⟨vs, H1, I1, r, A1, H01, st1, ws, q, R1, x1, s1', r1⟩ => ⟨I1.kIn, ?_⟩) he hpl
  exact run_call Fn (hr.mono hk) xk R1 r1 I1 r q (k.mv x1 s1')
end
end Dn
namespace Dn
open PySem PySem.Spec L2 StX ClX
open PyProof.Rows hiding St
section
variable {X : Cx} {G : Ent} {e a b c o : Expr} {es : List Expr} {sl : Sls} {st : List Ob} {Φ : WK} {Ψ : BK} {pos p apos cpos : Pos}
theorem RepWs.init {K : PySem.W.Frag} {A : List Addr} {H : Hp} : ∀ {vs : List V} {ws : List W}, RepWs K A H vs ws → RepWs K A H vs.dropLast ws.dropLast
  | [], [], _ => trivial
  | [_], [_], _ => trivial
  | _ :: y :: vs, _ :: z :: ws, h => ⟨h.1, RepWs.init (vs := y :: vs) (ws := z :: ws) h.2⟩
  | [_], _ :: _ :: _, h => h.2.elim
  | _ :: _ :: _, [_], h => h.2.elim
theorem ew_pop (h : EW X G o sl st fun w1 st1 => ∃ j xs y, w1 = .ptr j ∧ st1[j]? = some (.lst xs) ∧ xs[xs.length - 1]? = some y ∧ Φ y (st1.set j (.lst xs.dropLast)))
    (hbase : attributeBase o "pop" X.env (eval o X.env) = eval o X.env := by rfl) (hline : (apos.endLine == cpos.line) = true := by rfl) : EW X G (.Call (.Attribute o "pop" apos) [] [] cpos) sl st Φ := fun A σ H H0 R Q k =>
  wpE_of (pe_bm0 PySem.F.plainAttrs_list PySem.F.slot_list_pop PySem.F.type_list_pop mt_pop pe_wp hbase hline) (h A σ H H0 R _ fun w1 st1 v1 A1 H1 H01 ⟨j, xs, y, ew, hx, hy, q⟩ R1 x1 s1 r1 => by
    subst ew
    obtain ⟨ad, ha, h0, vs, he, rr⟩ := R1.at hx
    obtain ⟨a', ha', rfl⟩ := r1
    have : a' = ad := Option.some.inj (ha'.symm.trans ha)
    subst this
    obtain ⟨v, hv, rv⟩ := rr.get hy
    refine ⟨.inl ⟨rfl, vs, .inl (.inl he)⟩, a', vs, v, rfl, rfl, he, by rw [rr.length]; exact hv, ?_⟩
    exact k _ _ _ A1 _ H01 q (R1.write ha hx h0 ⟨h0, _, upd_same, rr.init⟩) x1 s1 rv)
end
end Dn
namespace Kf
open PySem PySem.Spec L2 StX ClX Dn
open PyProof.Rows hiding St
def top (i : Nat) : Stmt := PySem.Challenge.pw_scaleways_k35_tables_that_come_to_rest.main.body.getD i (.Pass ⟨0, 0, 0, 0⟩)
abbrev s_is_number : Stmt := top 3
abbrev n_is_number : List Str := ["value"]
abbrev p_is_number : List Str := ["value"]
theorem sc_is_number : FnScope n_is_number p_is_number (defScope s_is_number) := ⟨rfl, rfl, rfl, by decide +kernel, rfl, by decide +kernel, by decide +kernel⟩
abbrev s_is_value : Stmt := top 4
abbrev n_is_value : List Str := ["value", "top"]
abbrev p_is_value : List Str := ["value", "top"]
theorem sc_is_value : FnScope n_is_value p_is_value (defScope s_is_value) := ⟨rfl, rfl, rfl, by decide +kernel, rfl, by decide +kernel, by decide +kernel⟩
abbrev s_is_sequence : Stmt := top 5
abbrev n_is_sequence : List Str := ["value"]
abbrev p_is_sequence : List Str := ["value"]
theorem sc_is_sequence : FnScope n_is_sequence p_is_sequence (defScope s_is_sequence) := ⟨rfl, rfl, rfl, by decide +kernel, rfl, by decide +kernel, by decide +kernel⟩
abbrev s_is_table : Stmt := top 36
abbrev n_is_table : List Str := ["value", "target", "x", "result"]
abbrev p_is_table : List Str := ["value", "target"]
theorem sc_is_table : FnScope n_is_table p_is_table (defScope s_is_table) := ⟨rfl, rfl, rfl, by decide +kernel, rfl, by decide +kernel, by decide +kernel⟩
abbrev s_value_at : Stmt := top 16
abbrev n_value_at : List Str := ["pieces", "x", "first", "last", "middle", "start", "value", "rises"]
abbrev p_value_at : List Str := ["pieces", "x"]
theorem sc_value_at : FnScope n_value_at p_value_at (defScope s_value_at) := ⟨rfl, rfl, rfl, by decide +kernel, rfl, by decide +kernel, by decide +kernel⟩
abbrev s_value_on : Stmt := top 18
abbrev n_value_on : List Str := ["stretch", "x", "low", "_", "value", "rises"]
abbrev p_value_on : List Str := ["stretch", "x"]
theorem sc_value_on : FnScope n_value_on p_value_on (defScope s_value_on) := ⟨rfl, rfl, rfl, by decide +kernel, rfl, by decide +kernel, by decide +kernel⟩
abbrev s_last_value : Stmt := top 19
abbrev n_last_value : List Str := ["stretch"]
abbrev p_last_value : List Str := ["stretch"]
theorem sc_last_value : FnScope n_last_value p_last_value (defScope s_last_value) := ⟨rfl, rfl, rfl, by decide +kernel, rfl, by decide +kernel, by decide +kernel⟩
abbrev s_stays_within : Stmt := top 21
abbrev n_stays_within : List Str := ["rows", "target", "last", "row"]
abbrev p_stays_within : List Str := ["rows", "target"]
theorem sc_stays_within : FnScope n_stays_within p_stays_within (defScope s_stays_within) := ⟨rfl, rfl, rfl, by decide +kernel, rfl, by decide +kernel, by decide +kernel⟩
abbrev s_normal : Stmt := top 22
abbrev n_normal : List Str := ["rows", "pieces", "last", "slope", "row", "step", "low", "high", "value", "rises"]
abbrev p_normal : List Str := ["rows"]
theorem sc_normal : FnScope n_normal p_normal (defScope s_normal) := ⟨rfl, rfl, rfl, by decide +kernel, rfl, by decide +kernel, by decide +kernel⟩
abbrev s_stretches : Stmt := top 17
abbrev n_stretches : List Str := ["pieces", "top", "bounds", "piece", "at"]
abbrev p_stretches : List Str := ["pieces", "top"]
theorem sc_stretches : FnScope n_stretches p_stretches (defScope s_stretches) := ⟨rfl, rfl, rfl, by decide +kernel, rfl, by decide +kernel, by decide +kernel⟩
abbrev s_is_piece : Stmt := top 34
abbrev n_is_piece : List Str := ["value"]
abbrev p_is_piece : List Str := ["value"]
theorem sc_is_piece : FnScope n_is_piece p_is_piece (defScope s_is_piece) := ⟨rfl, rfl, rfl, by decide +kernel, rfl, by decide +kernel, by decide +kernel⟩
abbrev s_are_pieces : Stmt := top 35
abbrev n_are_pieces : List Str := ["value", "top", "starts", "piece", "at"]
abbrev p_are_pieces : List Str := ["value", "top"]
theorem sc_are_pieces : FnScope n_are_pieces p_are_pieces (defScope s_are_pieces) := ⟨rfl, rfl, rfl, by decide +kernel, rfl, by decide +kernel, by decide +kernel⟩
abbrev s_lesser : Stmt := top 14
abbrev n_lesser : List Str := ["a", "b"]
abbrev p_lesser : List Str := ["a", "b"]
theorem sc_lesser : FnScope n_lesser p_lesser (defScope s_lesser) := ⟨rfl, rfl, rfl, by decide +kernel, rfl, by decide +kernel, by decide +kernel⟩
abbrev s_greater : Stmt := top 15
abbrev n_greater : List Str := ["a", "b"]
abbrev p_greater : List Str := ["a", "b"]
theorem sc_greater : FnScope n_greater p_greater (defScope s_greater) := ⟨rfl, rfl, rfl, by decide +kernel, rfl, by decide +kernel, by decide +kernel⟩
abbrev s_passage_of : Stmt := top 41
abbrev n_passage_of : List Str := ["top", "target", "rows", "low", "_", "value", "rises"]
abbrev p_passage_of : List Str := ["top", "target", "rows"]
theorem sc_passage_of : FnScope n_passage_of p_passage_of (defScope s_passage_of) := ⟨rfl, rfl, rfl, by decide +kernel, rfl, by decide +kernel, by decide +kernel⟩
abbrev s_rows_of : Stmt := top 42
abbrev n_rows_of : List Str := ["p"]
abbrev p_rows_of : List Str := ["p"]
theorem sc_rows_of : FnScope n_rows_of p_rows_of (defScope s_rows_of) := ⟨rfl, rfl, rfl, by decide +kernel, rfl, by decide +kernel, by decide +kernel⟩
abbrev s_check_steady : Stmt := top 47
abbrev n_check_steady : List Str := ["p"]
abbrev p_check_steady : List Str := ["p"]
theorem sc_check_steady : FnScope n_check_steady p_check_steady (defScope s_check_steady) := ⟨rfl, rfl, rfl, by decide +kernel, rfl, by decide +kernel, by decide +kernel⟩
abbrev s_sign : Stmt := top 48
abbrev n_sign : List Str := ["number"]
abbrev p_sign : List Str := ["number"]
theorem sc_sign : FnScope n_sign p_sign (defScope s_sign) := ⟨rfl, rfl, rfl, by decide +kernel, rfl, by decide +kernel, by decide +kernel⟩
abbrev s_drifts_on : Stmt := top 49
abbrev n_drifts_on : List Str := ["stretch", "parts", "low", "high", "value", "rises", "part"]
abbrev p_drifts_on : List Str := ["stretch"]
theorem sc_drifts_on : FnScope n_drifts_on p_drifts_on (defScope s_drifts_on) := ⟨rfl, rfl, rfl, by decide +kernel, rfl, by decide +kernel, by decide +kernel⟩
abbrev s_drifts : Stmt := top 50
abbrev n_drifts : List Str := ["p", "row", "part"]
abbrev p_drifts : List Str := ["p"]
theorem sc_drifts : FnScope n_drifts p_drifts (defScope s_drifts) := ⟨rfl, rfl, rfl, by decide +kernel, rfl, by decide +kernel, by decide +kernel⟩
abbrev s_fixed : Stmt := top 51
abbrev n_fixed : List Str := ["p", "pairs", "low", "high", "side", "first"]
abbrev p_fixed : List Str := ["p"]
theorem sc_fixed : FnScope n_fixed p_fixed (defScope s_fixed) := ⟨rfl, rfl, rfl, by decide +kernel, rfl, by decide +kernel, by decide +kernel⟩
abbrev s_rest : Stmt := top 52
abbrev n_rest : List Str := ["p", "still", "rows", "at", "low", "high", "side"]
abbrev p_rest : List Str := ["p"]
theorem sc_rest : FnScope n_rest p_rest (defScope s_rest) := ⟨rfl, rfl, rfl, by decide +kernel, rfl, by decide +kernel, by decide +kernel⟩
abbrev s_rounds_on : Stmt := top 53
abbrev n_rounds_on : List Str := ["stretch", "x", "step", "room", "low", "high", "_", "rises"]
abbrev p_rounds_on : List Str := ["stretch", "x"]
theorem sc_rounds_on : FnScope n_rounds_on p_rounds_on (defScope s_rounds_on) := ⟨rfl, rfl, rfl, by decide +kernel, rfl, by decide +kernel, by decide +kernel⟩
abbrev s_rounds_from : Stmt := top 54
abbrev n_rounds_from : List Str := ["rows", "x", "many", "at", "turns"]
abbrev p_rounds_from : List Str := ["rows", "x"]
theorem sc_rounds_from : FnScope n_rounds_from p_rounds_from (defScope s_rounds_from) := ⟨rfl, rfl, rfl, by decide +kernel, rfl, by decide +kernel, by decide +kernel⟩
abbrev s_rounds : Stmt := top 55
abbrev n_rounds : List Str := ["p", "x"]
abbrev p_rounds : List Str := ["p", "x"]
theorem sc_rounds : FnScope n_rounds p_rounds (defScope s_rounds) := ⟨rfl, rfl, rfl, by decide +kernel, rfl, by decide +kernel, by decide +kernel⟩
abbrev s_least_with : Stmt := top 56
abbrev n_least_with : List Str := ["rows", "low", "high", "many", "middle"]
abbrev p_least_with : List Str := ["rows", "low", "high", "many"]
theorem sc_least_with : FnScope n_least_with p_least_with (defScope s_least_with) := ⟨rfl, rfl, rfl, by decide +kernel, rfl, by decide +kernel, by decide +kernel⟩
abbrev s_slowest : Stmt := top 57
abbrev n_slowest : List Str := ["p", "rows", "part", "most", "low", "high", "side", "many"]
abbrev p_slowest : List Str := ["p"]
theorem sc_slowest : FnScope n_slowest p_slowest (defScope s_slowest) := ⟨rfl, rfl, rfl, by decide +kernel, rfl, by decide +kernel, by decide +kernel⟩
abbrev s__law_seed : Stmt := top 59
abbrev n__law_seed : List Str := ["_law_script", "_law_k", "_law_cell"]
abbrev p__law_seed : List Str := ["_law_script", "_law_k"]
theorem sc__law_seed : FnScope n__law_seed p__law_seed (defScope s__law_seed) := ⟨rfl, rfl, rfl, by decide +kernel, rfl, by decide +kernel, by decide +kernel⟩
abbrev s__law_choose : Stmt := top 60
abbrev n__law_choose : List Str := ["_law_box", "_law_many", "_law_raw", "_law_digit"]
abbrev p__law_choose : List Str := ["_law_box", "_law_many"]
theorem sc__law_choose : FnScope n__law_choose p__law_choose (defScope s__law_choose) := ⟨rfl, rfl, rfl, by decide +kernel, rfl, by decide +kernel, by decide +kernel⟩
abbrev s__law_one_of : Stmt := top 61
abbrev n__law_one_of : List Str := ["_law_box", "_law_some"]
abbrev p__law_one_of : List Str := ["_law_box", "_law_some"]
theorem sc__law_one_of : FnScope n__law_one_of p__law_one_of (defScope s__law_one_of) := ⟨rfl, rfl, rfl, by decide +kernel, rfl, by decide +kernel, by decide +kernel⟩
abbrev s__law_table : Stmt := top 62
abbrev n__law_table : List Str := ["_law_box", "_law_top", "_law_target", "_law_x", "_law_form", "_law_found", "_law_last", "_law_step"]
abbrev p__law_table : List Str := ["_law_box", "_law_top", "_law_target"]
theorem sc__law_table : FnScope n__law_table p__law_table (defScope s__law_table) := ⟨rfl, rfl, rfl, by decide +kernel, rfl, by decide +kernel, by decide +kernel⟩
abbrev s__law_passage : Stmt := top 63
abbrev n__law_passage : List Str := ["_law_table_here", "_law_target"]
abbrev p__law_passage : List Str := ["_law_table_here", "_law_target"]
theorem sc__law_passage : FnScope n__law_passage p__law_passage (defScope s__law_passage) := ⟨rfl, rfl, rfl, by decide +kernel, rfl, by decide +kernel, by decide +kernel⟩
abbrev s__law_results : Stmt := top 64
abbrev n__law_results : List Str := ["_law_passage_here", "_law_x"]
abbrev p__law_results : List Str := ["_law_passage_here"]
theorem sc__law_results : FnScope n__law_results p__law_results (defScope s__law_results) := ⟨rfl, rfl, rfl, by decide +kernel, rfl, by decide +kernel, by decide +kernel⟩
abbrev s__law_run : Stmt := top 65
abbrev n__law_run : List Str := ["_law_table_here", "_law_x", "_law_many"]
abbrev p__law_run : List Str := ["_law_table_here", "_law_x"]
theorem sc__law_run : FnScope n__law_run p__law_run (defScope s__law_run) := ⟨rfl, rfl, rfl, by decide +kernel, rfl, by decide +kernel, by decide +kernel⟩
abbrev s__law_stretches : Stmt := top 66
abbrev n__law_stretches : List Str := ["_law_table_here", "_law_found", "_law_x", "_law_end"]
abbrev p__law_stretches : List Str := ["_law_table_here"]
theorem sc__law_stretches : FnScope n__law_stretches p__law_stretches (defScope s__law_stretches) := ⟨rfl, rfl, rfl, by decide +kernel, rfl, by decide +kernel, by decide +kernel⟩
abbrev s_law : Stmt := top 67
abbrev n_law : List Str := ["_law_script", "_law_k", "_law_box", "_law_turn", "_law_top", "_law_table_here", "_law_most", "_law_p", "_law_runs", "_law_y", "_law_x", "_law_end", "_law_many"]
abbrev p_law : List Str := ["_law_script"]
theorem sc_law : FnScope n_law p_law (defScope s_law) := ⟨rfl, rfl, rfl, by decide +kernel, rfl, by decide +kernel, by decide +kernel⟩
abbrev s_IP : Stmt := inClass (top 9) 0
abbrev n_IP : List Str := ["self", "word"]
abbrev p_IP : List Str := ["self", "word"]
theorem sc_IP : FnScope n_IP p_IP (defScope s_IP) := ⟨rfl, rfl, rfl, by decide +kernel, rfl, by decide +kernel, by decide +kernel⟩
abbrev s_init : Stmt := inClass (top 45) 0
abbrev n_init : List Str := ["self", "top", "target", "pieces", "rows"]
abbrev p_init : List Str := ["self", "top", "target", "pieces"]
theorem sc_init : FnScope n_init p_init (defScope s_init) := ⟨rfl, rfl, rfl, by decide +kernel, rfl, by decide +kernel, by decide +kernel⟩
abbrev s_table : Stmt := inClass (top 45) 1
abbrev n_table : List Str := ["cls", "values", "target", "x", "value"]
abbrev p_table : List Str := ["cls", "values", "target"]
theorem sc_table : FnScope n_table p_table (defScope s_table) := ⟨rfl, rfl, rfl, by decide +kernel, rfl, by decide +kernel, by decide +kernel⟩
abbrev s_same : Stmt := inClass (top 45) 2
abbrev n_same : List Str := ["cls", "top"]
abbrev p_same : List Str := ["cls", "top"]
theorem sc_same : FnScope n_same p_same (defScope s_same) := ⟨rfl, rfl, rfl, by decide +kernel, rfl, by decide +kernel, by decide +kernel⟩
abbrev s_call : Stmt := inClass (top 45) 5
abbrev n_call : List Str := ["self", "x"]
abbrev p_call : List Str := ["self", "x"]
theorem sc_call : FnScope n_call p_call (defScope s_call) := ⟨rfl, rfl, rfl, by decide +kernel, rfl, by decide +kernel, by decide +kernel⟩
end Kf
namespace PySem
namespace LowX_ip
open PySem.W PySem.Calls PyProof.Rows PySem.HandSPX
structure LowTxt (K : Frag) (mg : Str → Option Value) (C fI : Addr) : Prop where
  gC : mg "InvalidPassage" = some (.ref C)
  cls : ∃ nm q N bs bm sn sub ab col dd k0 k1 k2 k3 k5, K.lookup C = some (excClassObj nm q C N bs bm true sn sub ab col dd k0 k1 k2 k3 k5 "ValueError.__new__") ∧ refsVE bm = true
  sa : findIn K (.ref C) "__setattr__" = some (some (.builtin "object.__setattr__"))
  ga : findIn K (.ref C) "__getattribute__" = some (some (.builtin "BaseException.__getattribute__"))
  gg : findIn K (.ref C) "__getattr__" = some none
  noN : findIn K (.ref C) "word" = some none
  iC : findIn K (.ref C) "__init__" = some (some (.ref fI))
  tC : typeIn K (.ref fI) = some (.type "function")
  kC : keepIn K (.ref C) = true
  exC : subIn K (.ref C) (.type "BaseException") = some true
  tyC : typeIn K (.ref C) = some (.type "type")
  hdC : hasDictIn K C = true
  te : exmOne K (.ref C) (.ref C) = some true
  fn : ∃ (oc : Value) (od : Option Addr) (doc pm : Value) (an : Option Addr) (cdv ct : Value) (osl : Array (Option Value)),
    K.lookup fI = some ⟨oc, od, .func (fnOf "__init__" "InvalidPassage.__init__" (L2.defArgs Kf.s_IP) (L2.defBody Kf.s_IP) (L2.defScope Kf.s_IP) .none .none doc pm an cdv ct), osl⟩ ∧ codeIn K cdv "InvalidPassage.__init__" = true
theorem one_size (v : Value) : [v].length ≤ sizeLine := by
  rw [sizeLine_eq]
  exact (by decide : 1 ≤ 16777216)
theorem kept_but {K : Frag} {h h' : Heap} {x : Addr} (X : K.In h) (hx : K.lookup x = none) (k : ∀ b o, b ≠ x → h.get? b = some o → h'.get? b = some o) : K.In h' := fun a o e =>
  k a o (fun z => by rw [z, hx] at e; cases e) (X a o e)
theorem ldC {M : Model} {s : Shared} {name : Str} {scope : Scope} {L a : Addr} {cd : Value} {m : Str → Option Value} {x : Str} {pos : Pos} {v : Value} {Q : Value → Shared → Prop} {A : Around} {E : Value → Shared → Prop} (hn : s.heap.Ns L m) (hv : m x = some v) (h : Q v s)
    (hk : scope.kind = .function := by rfl) (hl : (envOfC name scope L a cd).kindOf x = some .local := by rfl) (hd : (x == ("__debug__" : Str)) = false := by decide) :
    wpAny M A (eval (.Name x pos) (envOfC name scope L a cd)) Q E s := wpAny_Name (wpAny_loadName_local hk hl hn hv h) hd
structure InitEnd (h h' : Heap) (x C dx t1 : Addr) (v : Value) : Prop where
  keep : ∀ b o, b ≠ x → h.get? b = some o → h'.get? b = some o
  obj : h'.get? x = some { cls := .ref C, dict := some dx, data := .fields #[.ref t1, .none, .none, .none, .bool false, .none] }
  dbig : h.objs.size ≤ dx
  dne : dx ≠ x
  ns : h'.Ns1 dx (fun y => if y = "word" then some v else none)
structure OwnMade (h h' : Heap) (e C d : Addr) (v : Value) : Prop where
  keep : ∀ b o, h.get? b = some o → h'.get? b = some o
  new : h.objs.size ≤ e
  obj : ∃ oe vs, h'.get? e = some oe ∧ oe.cls = .ref C ∧ oe.dict = some d ∧ oe.data = .fields vs ∧ vs[1]? = some .none
  dbig : h.objs.size ≤ d
  dne : d ≠ e
  ns : h'.Ns1 d (fun y => if y = "word" then some v else none)
section
variable {prog : Program} {w : World} {A : Around} {E : Value → Shared → Prop} {R : Result → Shared → Prop} {s : Shared} {K : Frag} {mg : Str → Option Value} {C fI : Addr}
theorem low_init (T : LowTxt K mg C fI) {x t0 : Addr} {v : Value} (X : K.In s.heap) (hlim : s.heap.NoLimit) (hx : s.heap.get? x = some (excO C t0)) (hnx : K.lookup x = none) (hroom : A.depth < recursionLimit)
    (hq : ∀ h' tk dx, InitEnd s.heap h' x C dx t0 v → R (.ok (.ret .none)) { s with heap := h', toks := tk }) :
    codeAny (model prog w) A (.call (.ref fI) ⟨[.ref x, v], []⟩) R s := by
  obtain ⟨oc, od, doc, pm, an, cdv, ct, osl, ho, hcd⟩ := T.fn
  obtain ⟨nm, q, N, bs, bm, sn, sub, ab, col, dd, k0, k1, k2, k3, k5, hC, hbm⟩ := T.cls
  have hcl : clsIn K C = some { name := nm, bases := bs, mro := .ref C :: bm, ns := N, qualname := q, hasDict := true, slotNames := sn, subclasses := sub, abstract := ab, collection := col, hasDel := false } := by unfold clsIn; rw [hC] <;> rfl
  refine Att.call_fn (binds := [("self", .ref x), ("word", v)]) X hlim ho hcd hroom (BindsTo.of_eq (by first | rfl | with_unfolding_all rfl)) (by first | rfl | decide | with_unfolding_all rfl) (fun s₁ IC => ?_) rfl rfl rfl
  obtain ⟨h₁, tk₁, rfl⟩ := IC.toInCall.same
  have k : ∀ b o, s.heap.get? b = some o → h₁.get? b = some o := IC.toInCall.keep
  have hn := IC.toInCall.ns
  have hxL : s.heap.objs.size ≠ x := Nat.ne_of_gt (Heap.lt_size hx)
  have X₁ : K.In h₁ := X.keeps k
  have hx₁ := k _ _ hx
  show wpAny _ _ (execs _ _) _ _ _
  refine wpAny_execs_cons (plainObj_wpAny_Assign_Attribute ?_)
  refine ldC (v := v) hn (by first | rfl | with_unfolding_all rfl | kernel_rfl) (ldC (v := .ref x) hn (by first | rfl | with_unfolding_all rfl | kernel_rfl) ?_)
  refine set_plain X₁ (ox := excO C t0) (od := none) ⟨hx₁, rfl, rfl, trivial⟩ T.sa ?_
  refine exc_osa X₁ hx₁ hcl (show refsVE (.ref C :: bm) = true from hbm) rfl T.noN (fun h₃ tk₃ dx k₃ dn dne hx₃ hn₃ => ?_)
  show wpAny _ _ (execs _ _) _ _ _
  have z : s.heap.objs.size < h₁.objs.size := hn.lt
  exact wpAny_execs_nil (hq h₃ tk₃ dx ⟨fun b o hb e => k₃ b o hb (k b o e), hx₃, Nat.le_of_lt (Nat.lt_of_lt_of_le z dn), dne, hn₃⟩)
theorem low_made (T : LowTxt K mg C fI) {v : Value} (X : K.In s.heap) (hlim : s.heap.NoLimit) (hroom : A.depth + 1 < recursionLimit)
    (hq : ∀ h' tk e d, OwnMade s.heap h' e C d v → R (.ok (.ret (.ref e))) { s with heap := h', toks := tk }) :
    codeAny (model prog w) A (.call (.ref C) ⟨[v], []⟩) R s := by
  obtain ⟨nm, q, N, bs, bm, sn, sub, ab, col, dd, k0, k1, k2, k3, k5, hC, hbm⟩ := T.cls
  obtain ⟨hp, g, dr, tk, os⟩ := s
  have k : ∀ b o, hp.get? b = some o → ((hp.push (kdv_tup [v])).push (excO C hp.objs.size)).get? b = some o := fun b o e => Heap.get?_push_of_some _ (Heap.get?_push_of_some _ e)
  have hget : ((hp.push (kdv_tup [v])).push (excO C hp.objs.size)).get? (hp.objs.size + 1) = some (excO C hp.objs.size) := by heap_get
  have hnx : K.lookup (hp.objs.size + 1) = none := by
    cases e : K.lookup (hp.objs.size + 1) with
    | none => rfl
    | some o =>
      have z : hp.get? (hp.objs.size + 1) = some o := X _ _ e
      exact absurd (Nat.lt_of_succ_lt (Heap.lt_size z)) (Nat.lt_irrefl _)
  refine call_own F.excBase_ValueError (fun X => refsVE_contains X bm hbm) (X _ _ hC) (looks_findIn X T.iC) (fun self => bind_fn X self T.tC) (one_size v) ?_
  refine low_init (s := ⟨(hp.push (kdv_tup [v])).push (excO C hp.objs.size), g, dr, tk, os⟩) T (X.keeps k) (hlim.keeps k) hget hnx ?_ fun h' tk' dx ⟨k', hx, dn, dne, hns⟩ => ?_
  · show A.depth + 1 < recursionLimit
    exact hroom
  · have old : ∀ b o, hp.get? b = some o → h'.get? b = some o := fun b o e => k' b o (Nat.ne_of_lt (Nat.lt_succ_of_lt (Heap.lt_size e))) (k b o e)
    have z : hp.objs.size + 1 + 1 ≤ dx := by
      first
        | (simpa only [Heap.size_push] using dn)
        | exact dn
        | (have q := dn; rw [Heap.size_push, Heap.size_push] at q; exact q)
    exact ⟨rfl, hq h' tk' (hp.objs.size + 1) dx ⟨old, Nat.le_succ _, ⟨_, _, hx, rfl, rfl, rfl, rfl⟩, Nat.le_trans (Nat.le_trans (Nat.le_succ _) (Nat.le_succ _)) z, dne, hns⟩⟩
end
end LowX_ip
end PySem
namespace L2
open PySem PySem.Spec PyProof.Rows
theorem relO_low_ip {v : V} {v' : Value} (r : RelV v v') (f : Str) : RelO (List.lookup f [(("word" : Str), v)]) (if f = "word" then some v' else none) := by
  by_cases hw : f = "word"
  · subst hw
    rw [if_pos rfl]
    have q : List.lookup ("word" : Str) [(("word" : Str), v)] = some v := by simp [List.lookup]
    rw [q]
    exact r
  · rw [if_neg hw]
    have qw : (f == ("word" : Str)) = false := by simpa using hw
    have q2 : List.lookup f [(("word" : Str), v)] = none := by simp [List.lookup, qw]
    rw [q2]
    trivial
section
variable {X : Cx} {C fI : Addr}
def tMkLow_ip (C : Addr) (ta : TA) : St → Hp → XK → Prop := fun σ H Q => ta σ H fun vs H1 => ∃ v, vs = [v] ∧ ∀ d, H1 d = none → Q (.ref C) (some d) (upd H1 d (.xd [(("word" : Str), v)]))
theorem pmk_low_ip {a : Expr} {ta : TA} {p pos : Pos} {k : Nat} (T : PySem.LowX_ip.LowTxt X.K X.mg C fI) (hr : Room k X.A) (ha : PA X [a] ta) (hg : Gl X "InvalidPassage" := by rfl)
    (he : starEach (a :: []) X.env = (false, eval a X.env) :: starEach [] X.env := by rfl) (hpl : (backTo pos (starEach [] X.env)).any (·.1) = false := by rfl) :
    PMk X (.Call (.Name "InvalidPassage" p) [a] [] pos) (tMkLow_ip C ta) := by
  intro pins s σ H Q I h
  refine wpAny_Call_Name_kw (ld_glob I hg T.gC ?_)
  refine PySem.W.callWith_K (h₀ := X.base) I.ok.mod.kin T.kC (thn (ha.run pos pins s σ H _ I h) fun us s1 hh => ?_) he hpl
  obtain ⟨vs, H1, I1, r1, v, ev, q1⟩ := hh
  subst ev
  refine ⟨I1.kIn, ?_⟩
  cases r1 with
  | cons rv rn =>
    rename_i v' us'
    cases rn
    show wpAny _ _ (call (.ref C) [v']) _ _ _
    have hlim := I1.nolimit
    obtain ⟨hp, g, dr, tk, os⟩ := s1
    refine wpAny_call (PySem.LowX_ip.low_made T I1.kIn hlim (by have := hr.dp; omega) fun h' tk' e d M => ?_)
    show MkP X pins σ Q (.ref e) ⟨h', g, dr, tk', os⟩
    obtain ⟨oe, fv, hoe, hc, hd, hdat, h1⟩ := M.obj
    have hns := M.ns
    obtain ⟨G', g1, g2⟩ := restrict h' fun b => decide (b ≠ e)
    have gk : ∀ b, b ≠ e → G'.get? b = h'.get? b := fun b hb => g1 b (decide_eq_true hb)
    have ge : G'.get? e = none := g2 e (by simp)
    have old : ∀ b o, hp.get? b = some o → G'.get? b = some o := fun b o q => (gk b (Nat.ne_of_lt (Nat.lt_of_lt_of_le (Heap.lt_size q) M.new))).trans (M.keep b o q)
    have ob : ObjOk X.prog X.w (upd H1 d (.xd [(("word" : Str), v)])) G' d (.xd [(("word" : Str), v)]) :=
      ⟨_, hns.at (fun o q => (gk d M.dne).trans q), fun f => relO_low_ip rv f⟩
    have J : Inv X pins σ (upd H1 d (.xd [(("word" : Str), v)])) ⟨G', g, dr, tk', os⟩ := I1.laid (t' := tk') old M.dbig ob
    refine ⟨e, oe, fv, ⟨G', g, dr, tk', os⟩, _, .ref C, some d, rfl, J, fun b o q => ?_, ge, hoe, ⟨hc, hd⟩, hdat, h1, ?_, rfl, I1.bare, raises_own T.exC T.tyC, q1 d (I1.hok.fresh M.dbig)⟩
    · by_cases hb : b = e
      · have q' : G'.get? b = some o := q
        rw [hb, ge] at q'; cases q'
      · exact (gk b hb).symm.trans q
    · rw [upd_ne (Ne.symm M.dne)]
      exact I1.hok.fresh M.new
def tRaiseLow_ip (C : Addr) (W : WX) (ta : TA) : TS := fun _ σ H => tMkLow_ip C ta σ H fun cls d H' => W cls d σ H'
theorem ps_raiseLow_ip {a : Expr} {ta : TA} {W : WX} {p pos pos2 : Pos} {k : Nat} (hc : X.calm = true) (T : PySem.LowX_ip.LowTxt X.K X.mg C fI) (hr : Room k X.A) (tk : Takes X W) (ha : PA X [a] ta) (hg : Gl X "InvalidPassage" := by rfl)
    (he : starEach (a :: []) X.env = (false, eval a X.env) :: starEach [] X.env := by rfl) (hpl : (backTo pos (starEach [] X.env)).any (·.1) = false := by rfl) :
    PS X (.Raise (some (.Call (.Name "InvalidPassage" p) [a] [] pos)) none pos2) (tRaiseLow_ip C W ta) := ps_raise hc tk (pmk_low_ip T hr ha hg he hpl)
def tByLow_ip (C : Addr) (a : Addr) (cls : Value) (d : Option Addr) (te : TE) : TE := fun σ H Q => te σ H fun x H1 => x = .ref a ∧ cls = .ref C ∧ ∃ (dd : Addr) (v : V), d = some dd ∧ H1 dd = some (.xd [(("word" : Str), v)]) ∧ Q v H1
theorem pe_byLow_ip {a : Addr} {oe : Obj} {cls : Value} {d : Option Addr} {pn : List (Addr × Obj)} {e : Expr} {te : TE} {pos : Pos} (T : PySem.LowX_ip.LowTxt X.K X.mg C fI) (hz : Zc cls d oe) (hf : ∃ vs, oe.data = .fields vs) (he : PE (X.suite a ((a, oe) :: pn)) e te)
    (hb : attributeBase e "word" X.env (eval e X.env) = eval e X.env := by rfl) :
    PE (X.suite a ((a, oe) :: pn)) (.Attribute e "word" pos) (tByLow_ip C a cls d te) := by
  refine ⟨fun pins s σ H Q I h => ?_⟩
  refine attr_of hb (thn (he.run pins s σ H _ I h) fun u s1 hh => ?_)
  obtain ⟨x, H1, I1, rx, ex, ec, dd, v, ed, ea, q⟩ := hh
  subst ex
  obtain rfl : u = Value.ref a := rx
  subst ec
  subst ed
  obtain ⟨ha, _⟩ := I1.pin (a, oe) (List.mem_append_left _ List.mem_cons_self)
  obtain ⟨vs, hd⟩ := hf
  have hx : ObjOk X.prog X.w H1 s1.heap dd (.xd [(("word" : Str), v)]) := I1.hok dd _ ea
  obtain ⟨mA, hns, hr⟩ := hx
  obtain ⟨od, ho, hl⟩ := lookIn_ns hns
  have l : List.lookup ("word" : Str) [(("word" : Str), v)] = some v := by simp [List.lookup]
  obtain ⟨u, hu, ru⟩ := RelO.some_of (v := v) (o := mA "word") (by rw [← l]; exact hr "word")
  have J : PySem.W.InstAt s1.heap a oe C (some od) := ⟨ha, hz.1, by unfold PySem.W.notCls; rw [hd] <;> rfl, by rw [hz.2]; exact ho⟩
  exact HandSPX.exc_get I1.kIn J T.ga T.gg T.exC (PySem.W.findObj_own T.hdC T.noN rfl (by rw [hl, hu])) (handed_of ru) ⟨v, H1, I1.tok _, ru, q⟩
end
end L2
namespace Kf
open PySem PySem.Spec L2 StX ClX Dn
open PyProof.Rows hiding St
structure Bl (mg : Str → Option Value) : Prop where
  isinstance : mg "isinstance" = none
  int : mg "int" = none
  bool : mg "bool" = none
  str : mg "str" = none
  list : mg "list" = none
  tuple : mg "tuple" = none
  len : mg "len" = none
  all : mg "all" = none
  range : mg "range" = none
  enumerate : mg "enumerate" = none
  min : mg "min" = none
  max : mg "max" = none
  abs : mg "abs" = none
def isNum : D → Bool
  | .int i => decide (0 ≤ i)
  | _ => false
def isVal (d : D) (t : Int) : Bool := match d with
  | .int i => decide (0 ≤ i) && decide (i ≤ t)
  | _ => false
def isSeq : D → Bool
  | .lst _ => true
  | .tup _ => true
  | _ => false
variable {P : Program} {w : World} {K : PySem.W.Frag} {mg : Str → Option Value} {base : Heap}
abbrev Pc := Int × Int × Bool
abbrev Row := Int × Int × Int × Bool
abbrev pcD (p : Pc) : D := .tup [.int p.1, .int p.2.1, .bl p.2.2]
abbrev rowD (r : Row) : D := .tup [.int r.1, .int r.2.1, .int r.2.2.1, .bl r.2.2.2]
def onRow (r : Row) (x : Int) : Int := if r.2.2.2 = true then r.2.2.1 + (x - r.1) else r.2.2.1
def lastRow (r : Row) : Int := onRow r r.2.1
def F_value_on : FT := fun args st Ret _ => ∃ r x, args = [.dat (rowD r), .dat (.int x)] ∧ Ret (.dat (.int (onRow r x))) st
theorem ok_value_on {f : Addr} {fd : FuncData} (Fn : Fun K "value_on" "value_on" s_value_on f fd) (b : Binds K fd p_value_on []) : FnG P w K mg base (L2.CX P w) 1 f (spD K F_value_on) := by
  refine fnD Fn sc_value_on b (fun args st0 Ret Exc h => ?_) ?_
  · obtain ⟨r, x, rfl, _⟩ := h
    rfl
  intro cdv A outer s H E H0 Al args st0 Ret Exc hr xk hp hal hcl hF
  obtain ⟨⟨lo, hi, v, ri⟩, x, rfl, q⟩ := hF
  have q2 : KrE st0 Ret (.dat (.int (onRow (lo, hi, v, ri) x))) st0 := krE_of hcl q
  refine sw_cons ?_
  refine sw_asg ?_
  refine ew_name 0 rfl ?_
  refine gw_tup rfl ?_
  refine gs_cons ?_
  refine gw_name 2 ?_ sc_value_on.nd
  refine gs_cons ?_
  refine gw_name 3 ?_ sc_value_on.nd
  refine gs_cons ?_
  refine gw_name 4 ?_ sc_value_on.nd
  refine gs_cons ?_
  refine gw_name 5 ?_ sc_value_on.nd
  refine gs_nil ?_
  refine sw_cons ?_
  refine sw_ret ?_
  refine ew_if ?_
  refine tw_val ?_
  refine ew_name 5 rfl ?_
  refine ⟨_, rfl, ?_⟩
  refine ifB (fun h => ?_) (fun h => ?_)
  · refine ew_bin ?_
    refine ew_name 4 rfl ?_
    refine ew_bin ?_
    refine ew_name 1 rfl ?_
    refine ew_name 2 rfl ?_
    refine o_sub ?_
    refine o_add ?_
    unfold onRow at q2
    rw [if_pos h] at q2
    exact q2
  · refine ew_name 4 rfl ?_
    unfold onRow at q2
    rw [if_neg (by rw [h]; exact Bool.false_ne_true)] at q2
    exact q2
def F_last_value : FT := fun args st Ret _ => ∃ r, args = [.dat (rowD r)] ∧ Ret (.dat (.int (lastRow r))) st
theorem ok_last_value {f : Addr} {fd : FuncData} (C_value_on : Cal P w K mg base 1 "value_on" F_value_on) (Fn : Fun K "last_value" "last_value" s_last_value f fd) (b : Binds K fd p_last_value []) : FnG P w K mg base (L2.CX P w) 2 f (spD K F_last_value) := by
  refine fnD Fn sc_last_value b (fun args st0 Ret Exc h => ?_) ?_
  · obtain ⟨r, rfl, _⟩ := h
    rfl
  intro cdv A outer s H E H0 Al args st0 Ret Exc hr xk hp hal hcl hF
  obtain ⟨r, rfl, q⟩ := hF
  have q2 : KrE st0 Ret (.dat (.int (lastRow r))) st0 := krE_of hcl q
  refine sw_cons ?_
  refine sw_ret ?_
  refine ew_call C_value_on hr (by decide) xk ?_
  refine aw_cons ?_
  refine ew_name 0 rfl ?_
  refine aw_cons ?_
  refine ew_ix ?_
  refine ew_name 0 rfl ?_
  refine ew_int ?_
  refine ⟨_, _, rfl, itm_tup (j := 1) rfl rfl, ?_⟩
  refine aw_nil ?_
  exact ⟨r, _, rfl, q2⟩
def stays (target : Int) : Int → List Row → Bool
  | last, [] => decide (last ≤ target)
  | last, r :: rs => if r.2.2.1 < last then false else stays target (lastRow r) rs
def F_stays_within : FT := fun args st Ret _ => ∃ (rs : List Row) (t : Int), args = [.dat (.lst (rs.map rowD)), .dat (.int t)] ∧ Ret (.dat (.bl (stays t 0 rs))) st
theorem ok_stays_within {f : Addr} {fd : FuncData} (C_last_value : Cal P w K mg base 2 "last_value" F_last_value) (Fn : Fun K "stays_within" "stays_within" s_stays_within f fd) (b : Binds K fd p_stays_within []) : FnG P w K mg base (L2.CX P w) 3 f (spD K F_stays_within) := by
  refine fnD Fn sc_stays_within b (fun args st0 Ret Exc h => ?_) ?_
  · obtain ⟨rs, t, rfl, _⟩ := h
    rfl
  intro cdv A outer s H E H0 Al args st0 Ret Exc hr xk hp hal hcl hF
  obtain ⟨rs, t, rfl, q⟩ := hF
  have q2 : KrE st0 Ret (.dat (.bl (stays t 0 rs))) st0 := krE_of hcl q
  refine sw_cons ?_
  refine sw_set 2 ?_ sc_stays_within.nd
  refine ew_int ?_
  refine sw_cons ?_
  refine sw_for hp rfl ?_
  refine iw_list ?_
  refine ew_name 0 rfl ?_
  refine ⟨_, rfl, ?_⟩
  refine ⟨fun i sl st => st = st0 ∧ ∃ last ow, sl = [some (.dat (.lst (rs.map rowD))), some (.dat (.int t)), some (.dat (.int last)), ow] ∧ stays t 0 rs = stays t last (rs.drop i), ?_, fun i w sl st hw hI => ?_, fun sl st hI => ?_⟩
  · exact ⟨rfl, 0, none, rfl, rfl⟩
  · obtain ⟨rfl, last, ow, rfl, e⟩ := hI
    obtain ⟨d, hd, rfl⟩ := getElem?_mapW hw
    rw [List.getElem?_map] at hd
    obtain ⟨r, hr0, rfl⟩ := Option.map_eq_some_iff.mp hd
    have hi := (List.getElem?_eq_some_iff.mp hr0)
    have ed : rs.drop i = r :: rs.drop (i + 1) := by rw [← hi.2]; exact List.drop_eq_getElem_cons hi.1
    refine gw_name 3 ?_ sc_stays_within.nd
    refine sw_cons ?_
    refine sw_if ?_
    refine tw_cmp (nomark _) ?_
    refine ew_ix ?_
    refine ew_name 3 rfl ?_
    refine ew_int ?_
    refine ⟨_, _, rfl, itm_tup (j := 2) rfl rfl, ?_⟩
    refine ew_name 2 rfl ?_
    refine o_lt ?_
    refine ⟨_, rfl, ?_⟩
    refine ifD (fun h => ?_) (fun h => ?_)
    · refine sw_cons ?_
      refine sw_ret ?_
      refine ew_bl ?_
      rw [e, ed] at q2
      unfold stays at q2
      rw [if_pos h] at q2
      exact q2
    · refine sw_nil ?_
      refine sw_cons ?_
      refine sw_set 2 ?_ sc_stays_within.nd
      refine ew_call C_last_value hr (by decide) xk ?_
      refine aw_cons ?_
      refine ew_name 3 rfl ?_
      refine aw_nil ?_
      refine ⟨r, rfl, ?_⟩
      refine sw_nil ?_
      refine ⟨rfl, lastRow r, some (.dat (rowD r)), rfl, ?_⟩
      rw [e, ed]
      conv => lhs; unfold stays
      rw [if_neg h]
  · obtain ⟨rfl, last, ow, rfl, e⟩ := hI
    refine sw_cons ?_
    refine sw_ret ?_
    refine ew_cmp (nomark _) ?_
    refine ew_name 2 rfl ?_
    refine ew_name 1 rfl ?_
    refine o_le ?_
    rw [e, List.length_map, List.length_map, List.drop_length] at q2
    exact q2
def pieceAt (ps : List Pc) (x : Int) : Nat → Nat → Nat → Nat
  | 0, first, _ => first
  | n + 1, first, last => if first < last then (if (ps.getD ((first + last + 1) / 2) (0, 0, false)).1 ≤ x then pieceAt ps x n ((first + last + 1) / 2) last else pieceAt ps x n first ((first + last + 1) / 2 - 1)) else first
def valAt (ps : List Pc) (x : Int) : Int :=
  let p := ps.getD (pieceAt ps x ps.length 0 (ps.length - 1)) (0, 0, false)
  if p.2.2 = true then p.2.1 + (x - p.1) else p.2.1
def PcsD (d : D) (ps : List Pc) : Prop := d = .lst (ps.map pcD) ∨ d = .tup (ps.map pcD)
theorem PcsD.len {d : D} {ps : List Pc} (h : PcsD d ps) (st : List Ob) : Len st (.dat d) = some ps.length := by
  rcases h with rfl | rfl <;> simp [Len]
theorem PcsD.itm {d : D} {ps : List Pc} (h : PcsD d ps) (st : List Ob) {i : Int} {j : Nat} {p : Pc} (e : i = (j : Int)) (hp : ps[j]? = some p) : Itm st (.dat d) i = some (.dat (pcD p)) := by
  have hm : (ps.map pcD)[j]? = some (pcD p) := by rw [List.getElem?_map, hp]; rfl
  rcases h with rfl | rfl
  · exact itm_lst e hm
  · exact itm_tup e hm
theorem pieceAt_lt (ps : List Pc) (x : Int) : ∀ (n first last : Nat), first ≤ last → last < ps.length → pieceAt ps x n first last < ps.length
  | 0, first, last, h, h2 => by unfold pieceAt; omega
  | n + 1, first, last, h, h2 => by
    unfold pieceAt
    split
    · split
      · exact pieceAt_lt ps x n _ _ (by omega) h2
      · exact pieceAt_lt ps x n _ _ (by omega) (by omega)
    · omega
theorem pieceAt_done (ps : List Pc) (x : Int) (n a : Nat) : pieceAt ps x n a a = a := by
  cases n with
  | zero => rfl
  | succ n => unfold pieceAt; rw [if_neg (Nat.lt_irrefl _)]
def F_value_at : FT := fun args st Ret _ => ∃ d ps x, args = [.dat d, .dat (.int x)] ∧ PcsD d ps ∧ ps ≠ [] ∧ ps.length ≤ 1000 ∧ Ret (.dat (.int (valAt ps x))) st
theorem ok_value_at {f : Addr} {fd : FuncData} (B : Bl mg) (Fn : Fun K "value_at" "value_at" s_value_at f fd) (b : Binds K fd p_value_at []) : FnG P w K mg base (L2.CX P w) 1 f (spD K F_value_at) := by
  refine fnD Fn sc_value_at b (fun args st0 Ret Exc h => ?_) ?_
  · obtain ⟨d, ps, x, rfl, _⟩ := h
    rfl
  intro cdv A outer s H E H0 Al args st0 Ret Exc hr xk hp hal hcl hF
  obtain ⟨d, ps, x, rfl, hd, hne, hlen, q⟩ := hF
  have hpos : 0 < ps.length := List.length_pos_iff.mpr hne
  have q2 : KrE st0 Ret (.dat (.int (valAt ps x))) st0 := krE_of hcl q
  refine sw_cons ?_
  refine sw_set 2 ?_ sc_value_at.nd
  refine ew_int ?_
  refine sw_cons ?_
  refine sw_set 3 ?_ sc_value_at.nd
  refine ew_bin ?_
  refine ew_blt bt_len B.len ?_
  refine aw_cons ?_
  refine ew_name 0 rfl ?_
  refine aw_nil ?_
  refine c_len (hd.len _) ?_
  refine ew_int ?_
  refine o_sub ?_
  refine sw_cons ?_
  refine sw_while hp (fun m sl st => st = st0 ∧ ∃ (fi la : Nat) (om : Option W), sl = [some (.dat d), some (.dat (.int x)), some (.dat (.int (fi : Int))), some (.dat (.int (la : Int))), om, none, none, none] ∧ fi ≤ la ∧ la < ps.length ∧ m = la - fi ∧ ∃ n, m ≤ n ∧ pieceAt ps x ps.length 0 (ps.length - 1) = pieceAt ps x n fi la) (ps.length - 1) ?_ (fun m sl st hI => ?_)
  · refine ⟨rfl, 0, ps.length - 1, none, ?_, by omega, by omega, by omega, ps.length, by omega, rfl⟩
    have : ((ps.length : Nat) : Int) - 1 = ((ps.length - 1 : Nat) : Int) := by omega
    rw [this]
    rfl
  · obtain ⟨rfl, fi, la, om, rfl, h1, h2, h3, n, hn, e⟩ := hI
    refine tw_cmp (nomark _) ?_
    refine ew_name 2 rfl ?_
    refine ew_name 3 rfl ?_
    refine o_lt ?_
    refine ⟨_, rfl, ?_⟩
    refine ifD (fun h => ?_) (fun h => ?_)
    · have hlt : fi < la := by omega
      obtain ⟨n', rfl⟩ : ∃ n', n = n' + 1 := ⟨n - 1, by omega⟩
      have hm : (fi + la + 1) / 2 < ps.length := by omega
      have em : ((fi : Int) + (la : Int) + 1).fdiv 2 = (((fi + la + 1) / 2 : Nat) : Int) := by
        rw [Int.fdiv_eq_ediv_of_nonneg _ (by decide)]
        omega
      refine sw_cons ?_
      refine sw_set 4 ?_ sc_value_at.nd
      refine ew_bin ?_
      refine ew_bin ?_
      refine ew_bin ?_
      refine ew_name 2 rfl ?_
      refine ew_name 3 rfl ?_
      refine o_add ?_
      refine ew_int ?_
      refine o_add ?_
      refine ew_int ?_
      refine o_div ⟨by decide, by decide⟩ ?_
      rw [em]
      obtain ⟨p, hp'⟩ : ∃ p, ps[(fi + la + 1) / 2]? = some p := ⟨_, List.getElem?_eq_getElem hm⟩
      have hgd : ps.getD ((fi + la + 1) / 2) (0, 0, false) = p := by rw [List.getD_eq_getElem?_getD, hp']; rfl
      rw [show pieceAt ps x (n' + 1) fi la = if fi < la then (if (ps.getD ((fi + la + 1) / 2) (0, 0, false)).1 ≤ x then pieceAt ps x n' ((fi + la + 1) / 2) la else pieceAt ps x n' fi ((fi + la + 1) / 2 - 1)) else fi from rfl, if_pos hlt, hgd] at e
      refine sw_cons ?_
      refine sw_if ?_
      refine tw_cmp (nomark _) ?_
      refine ew_ix ?_
      refine ew_ix ?_
      refine ew_name 0 rfl ?_
      refine ew_name 4 rfl ?_
      refine ⟨_, _, rfl, hd.itm _ rfl hp', ?_⟩
      refine ew_int ?_
      refine ⟨_, _, rfl, itm_tup (j := 0) rfl rfl, ?_⟩
      refine ew_name 1 rfl ?_
      refine o_le ?_
      refine ⟨_, rfl, ?_⟩
      refine ifD (fun h' => ?_) (fun h' => ?_)
      · refine sw_cons ?_
        refine sw_set 2 ?_ sc_value_at.nd
        refine ew_name 4 rfl ?_
        refine sw_nil ?_
        refine sw_nil ?_
        rw [if_pos h'] at e
        exact ⟨la - (fi + la + 1) / 2, by omega, rfl, (fi + la + 1) / 2, la, _, rfl, by omega, h2, rfl, n', by omega, e⟩
      · refine sw_cons ?_
        refine sw_set 3 ?_ sc_value_at.nd
        refine ew_bin ?_
        refine ew_name 4 rfl ?_
        refine ew_int ?_
        refine o_sub ?_
        refine sw_nil ?_
        refine sw_nil ?_
        rw [if_neg h'] at e
        have e1 : (((fi + la + 1) / 2 : Nat) : Int) - 1 = (((fi + la + 1) / 2 - 1 : Nat) : Int) := by omega
        refine ⟨(fi + la + 1) / 2 - 1 - fi, by omega, rfl, fi, (fi + la + 1) / 2 - 1, some (.dat (.int (((fi + la + 1) / 2 : Nat) : Int))), ?_, by omega, by omega, rfl, n', by omega, e⟩
        rw [e1]
        rfl
    · have efl : fi = la := by omega
      subst efl
      rw [pieceAt_done] at e
      obtain ⟨p, hp'⟩ : ∃ p, ps[fi]? = some p := ⟨_, List.getElem?_eq_getElem h2⟩
      have hv : valAt ps x = if p.2.2 = true then p.2.1 + (x - p.1) else p.2.1 := by
        unfold valAt
        rw [e, List.getD_eq_getElem?_getD, hp']
        rfl
      obtain ⟨ps1, pv, pr⟩ := p
      refine sw_cons ?_
      refine sw_asg ?_
      refine ew_ix ?_
      refine ew_name 0 rfl ?_
      refine ew_name 2 rfl ?_
      refine ⟨_, _, rfl, hd.itm _ rfl hp', ?_⟩
      refine gw_tup rfl ?_
      refine gs_cons ?_
      refine gw_name 5 ?_ sc_value_at.nd
      refine gs_cons ?_
      refine gw_name 6 ?_ sc_value_at.nd
      refine gs_cons ?_
      refine gw_name 7 ?_ sc_value_at.nd
      refine gs_nil ?_
      refine sw_cons ?_
      refine sw_ret ?_
      refine ew_if ?_
      refine tw_val ?_
      refine ew_name 7 rfl ?_
      refine ⟨_, rfl, ?_⟩
      refine ifB (fun h => ?_) (fun h => ?_)
      · refine ew_bin ?_
        refine ew_name 6 rfl ?_
        refine ew_bin ?_
        refine ew_name 1 rfl ?_
        refine ew_name 5 rfl ?_
        refine o_sub ?_
        refine o_add ?_
        rw [hv, if_pos h] at q2
        exact q2
      · refine ew_name 6 rfl ?_
        rw [hv, if_neg (by show ¬ pr = true; rw [show pr = false from h]; exact Bool.false_ne_true)] at q2
        exact q2
def joins (ps : List Pc) (last : Int) (slope : Option Bool) (v : Int) : Bool := !ps.isEmpty && (decide (0 = v - last) || decide (1 = v - last)) && (slope == none || slope == some (decide (v - last = 1)))
def bend (ps : List Pc) (b : Bool) : List Pc := match ps.getLast? with
  | some q => ps.set (ps.length - 1) (q.1, q.2.1, b)
  | none => ps
abbrev NS := List Pc × Int × Option Bool
def nlow (j : Bool) (s : NS) (r : Row) : Int := if j = true then (if decide (r.2.2.1 - s.2.1 = 1) = r.2.2.2 then r.2.1 + 1 else r.1 + 1) else r.1
def nps (j : Bool) (s : NS) (r : Row) : List Pc := if j = true then bend s.1 (decide (r.2.2.1 - s.2.1 = 1)) else s.1
def nsl (j : Bool) (s : NS) (r : Row) : Option Bool := if j = true then some (decide (r.2.2.1 - s.2.1 = 1)) else s.2.2
def nfin (ps : List Pc) (sl : Option Bool) (lo : Int) (r : Row) : NS :=
  if lo ≤ r.2.1 then (ps ++ [(lo, onRow r lo, (if lo < r.2.1 then some r.2.2.2 else none) == some true)], lastRow r, if lo < r.2.1 then some r.2.2.2 else none) else (ps, lastRow r, sl)
def nstep (s : NS) (r : Row) : NS := nfin (nps (joins s.1 s.2.1 s.2.2 r.2.2.1) s r) (nsl (joins s.1 s.2.1 s.2.2 r.2.2.1) s r) (nlow (joins s.1 s.2.1 s.2.2 r.2.2.1) s r) r
def nrun (rs : List Row) : NS := rs.foldl nstep ([], 0, none)
def normalF (rs : List Row) : List Pc := (nrun rs).1
theorem bend_length (ps : List Pc) (b : Bool) : (bend ps b).length = ps.length := by
  unfold bend
  split <;> simp
theorem nstep_length (s : NS) (r : Row) : (nstep s r).1.length ≤ s.1.length + 1 := by
  unfold nstep nfin nps
  split <;> split <;> simp [bend_length] <;> omega
theorem nrun_length : ∀ (rs : List Row) (s : NS), (rs.foldl nstep s).1.length ≤ s.1.length + rs.length
  | [], s => by simp
  | r :: rs, s => by
    have h1 := nrun_length rs (nstep s r)
    have h2 := nstep_length s r
    rw [List.foldl_cons, List.length_cons]
    omega
theorem nrun_snoc {rs : List Row} {i : Nat} {r : Row} (h : rs[i]? = some r) : nrun (rs.take (i + 1)) = nstep (nrun (rs.take i)) r := by
  unfold nrun
  rw [take_succ_of h, List.foldl_append]
  rfl
def F_normal : FT := fun args st Ret _ => ∃ (rs : List Row), args = [.dat (.lst (rs.map rowD))] ∧ rs.length ≤ 1000 ∧ Ret (.dat (.tup ((normalF rs).map pcD))) st
theorem ok_normal {f : Addr} {fd : FuncData} (B : Bl mg) (C_value_on : Cal P w K mg base 1 "value_on" F_value_on) (C_last_value : Cal P w K mg base 2 "last_value" F_last_value) (Fn : Fun K "normal" "normal" s_normal f fd) (b : Binds K fd p_normal []) : FnG P w K mg base (L2.CX P w) 3 f (spD K F_normal) := by
  refine fnD Fn sc_normal b (fun args st0 Ret Exc h => ?_) ?_
  · obtain ⟨rs, rfl, _⟩ := h
    rfl
  intro cdv A outer s H E H0 Al args st0 Ret Exc hr xk hp hal hcl hF
  obtain ⟨rs, rfl, hlen, q⟩ := hF
  refine sw_cons ?_
  refine sw_set 1 ?_ sc_normal.nd
  refine ew_lstM ?_
  refine aw_nil ?_
  refine ⟨by decide, ?_⟩
  refine sw_cons ?_
  refine sw_set 2 ?_ sc_normal.nd
  refine ew_int ?_
  refine sw_cons ?_
  refine sw_set 3 ?_ sc_normal.nd
  refine ew_non ?_
  refine sw_cons ?_
  refine sw_for hp rfl ?_
  refine iw_list ?_
  refine ew_name 0 rfl ?_
  refine ⟨_, rfl, ?_⟩
  refine ⟨fun i sl st => st = st0 ++ [.lst (((nrun (rs.take i)).1.map pcD).map W.dat)] ∧ ∃ o1 o2 o3 o4 o5 o6, sl = [some (.dat (.lst (rs.map rowD))), some (.ptr st0.length), some (.dat (.int (nrun (rs.take i)).2.1)), some (.dat (optB (nrun (rs.take i)).2.2)), o1, o2, o3, o4, o5, o6], ?_, fun i w sl st hw hI => ?_, fun sl st hI => ?_⟩
  · exact ⟨rfl, none, none, none, none, none, none, rfl⟩
  · obtain ⟨rfl, o1, o2, o3, o4, o5, o6, rfl⟩ := hI
    obtain ⟨d, hd, rfl⟩ := getElem?_mapW hw
    rw [List.getElem?_map] at hd
    obtain ⟨r, hr0, rfl⟩ := Option.map_eq_some_iff.mp hd
    have hi := (List.getElem?_eq_some_iff.mp hr0).1
    have es := nrun_snoc hr0
    have hpl : (nrun (rs.take i)).1.length ≤ 1000 := by
      have := nrun_length (rs.take i) ([], 0, none)
      rw [List.length_take] at this
      show (List.foldl nstep ([], 0, none) (rs.take i)).1.length ≤ 1000
      simp at this
      omega
    generalize hN : nrun (rs.take i) = N at es hpl ⊢
    obtain ⟨ps, last, slope⟩ := N
    obtain ⟨lo, hi', v, ri⟩ := r
    show GW _ _ _ _ _ _ _
    refine gw_name 4 ?_ sc_normal.nd
    refine sw_cons ?_
    refine sw_asg ?_
    refine ew_name 4 rfl ?_
    refine gw_tup rfl ?_
    refine gs_cons ?_
    refine gw_name 6 ?_ sc_normal.nd
    refine gs_cons ?_
    refine gw_name 7 ?_ sc_normal.nd
    refine gs_cons ?_
    refine gw_name 8 ?_ sc_normal.nd
    refine gs_cons ?_
    refine gw_name 9 ?_ sc_normal.nd
    refine gs_nil ?_
    refine sw_cons ?_
    refine sw_set 5 ?_ sc_normal.nd
    refine ew_bin ?_
    refine ew_name 8 rfl ?_
    refine ew_name 2 rfl ?_
    refine o_sub ?_
    refine sw_cut (fun sl st => st = st0 ++ [.lst (((nps (joins ps last slope v) (ps, last, slope) (lo, hi', v, ri)).map pcD).map W.dat)] ∧ ∃ o1 o2, sl = [some (.dat (.lst (rs.map rowD))), some (.ptr st0.length), some (.dat (.int last)), some (.dat (optB (nsl (joins ps last slope v) (ps, last, slope) (lo, hi', v, ri)))), some (.dat (rowD (lo, hi', v, ri))), o1, some (.dat (.int (nlow (joins ps last slope v) (ps, last, slope) (lo, hi', v, ri)))), some (.dat (.int hi')), o2, some (.dat (.bl ri))]) ?_ ?_
    · refine sw_if ?_
      refine tw_mid (joins ps last slope v) ?_ ?_
      · unfold joins
        refine tw_bool ?_
        refine bw_and ?_
        refine tw_val ?_
        refine ew_name 1 rfl ?_
        refine ⟨!ps.isEmpty, by simp [Tru], ?_⟩
        refine ifB (fun h => ?_) (fun h => ?_)
        · rw [h, Bool.true_and]
          refine bw_and ?_
          refine tw_cmp (by rfl) ?_
          refine ew_name 5 rfl ?_
          refine ew_tup ?_
          refine aw_cons ?_
          refine ew_int ?_
          refine aw_cons ?_
          refine ew_int ?_
          refine aw_nil ?_
          refine ⟨_, rfl, (by show 2 ≤ sizeLine; decide), ?_⟩
          refine o_in rfl (.inr (.inl rfl)) rfl ?_
          refine ⟨_, rfl, ?_⟩
          have e1 : inV (.int (v - last)) [.int 0, .int 1] = (decide (0 = v - last) || decide (1 = v - last)) := by
            show ((0 == v - last) || ((1 == v - last) || false)) = _
            rw [Bool.or_false]
            rfl
          rw [e1]
          refine ifB (fun h => ?_) (fun h => ?_)
          · rw [h, Bool.true_and]
            refine bw_and1 ?_
            refine tw_cmp (by rfl) ?_
            refine ew_name 3 rfl ?_
            refine ew_tup ?_
            refine aw_cons ?_
            refine ew_non ?_
            refine aw_cons ?_
            refine ew_cmp (nomark _) ?_
            refine ew_name 5 rfl ?_
            refine ew_int ?_
            refine o_eqI ?_
            refine aw_nil ?_
            refine ⟨_, rfl, (by show 2 ≤ sizeLine; decide), ?_⟩
            refine o_in (x := match slope with | none => .non | some b => .bl b) (by cases slope <;> rfl) (.inr (.inl rfl)) rfl ?_
            refine ⟨_, rfl, ?_, rfl⟩
            cases slope with
            | none => rfl
            | some b =>
              show (false || ((decide (v - last = 1) == b) || false)) = (false || (some b == some (decide (v - last = 1))))
              cases b <;> cases (decide (v - last = 1)) <;> rfl
          · rw [h, Bool.false_and]
            exact ⟨rfl, rfl⟩
        · rw [h, Bool.false_and, Bool.false_and]
          exact ⟨rfl, rfl⟩
      · cases hj : joins ps last slope v with
        | true =>
          rw [if_pos rfl]
          have hne : ps ≠ [] := by
            rintro rfl
            simp [joins] at hj
          obtain ⟨q', hq'⟩ : ∃ q', ps.getLast? = some q' := ⟨_, List.getLast?_eq_some_getLast hne⟩
          have hb : bend ps (decide (v - last = 1)) = ps.set (ps.length - 1) (q'.1, q'.2.1, decide (v - last = 1)) := by unfold bend; rw [hq']
          have hI : ∀ st, st = st0 ++ [Ob.lst ((ps.map pcD).map W.dat)] → Itm st (.ptr st0.length) (-1) = some (.dat (pcD q')) := fun st e => by
            subst e
            simp only [Itm, at_end]
            refine atI_m1 ?_
            rw [List.getLast?_map, List.getLast?_map, hq']
            rfl
          refine sw_cons ?_
          refine sw_set 3 ?_ sc_normal.nd
          refine ew_cmp (nomark _) ?_
          refine ew_name 5 rfl ?_
          refine ew_int ?_
          refine o_eqI ?_
          refine sw_cons ?_
          refine sw_asg ?_
          refine ew_tup ?_
          refine aw_cons ?_
          refine ew_ix ?_
          refine ew_ix ?_
          refine ew_name 1 rfl ?_
          refine ew_neg ?_
          refine ew_int ?_
          refine ⟨_, rfl, ?_⟩
          refine ⟨_, _, rfl, hI _ rfl, ?_⟩
          refine ew_int ?_
          refine ⟨_, _, rfl, itm_tup (j := 0) rfl rfl, ?_⟩
          refine aw_cons ?_
          refine ew_ix ?_
          refine ew_ix ?_
          refine ew_name 1 rfl ?_
          refine ew_neg ?_
          refine ew_int ?_
          refine ⟨_, rfl, ?_⟩
          refine ⟨_, _, rfl, hI _ rfl, ?_⟩
          refine ew_int ?_
          refine ⟨_, _, rfl, itm_tup (j := 1) rfl rfl, ?_⟩
          refine aw_cons ?_
          refine ew_name 3 rfl ?_
          refine aw_nil ?_
          refine ⟨_, rfl, (by show 3 ≤ sizeLine; decide), ?_⟩
          refine gw_sub ?_
          refine ew_name 1 rfl ?_
          refine ew_neg ?_
          refine ew_int ?_
          refine ⟨_, rfl, ?_⟩
          refine ⟨_, _, _, _, rfl, rfl, at_end, ixN_m1 (by rw [List.length_map, List.length_map]; exact List.length_pos_iff.mpr hne), ?_⟩
          rw [set_end]
          refine sw_cons ?_
          refine sw_set 6 ?_ sc_normal.nd
          refine ew_if ?_
          refine tw_cmp (nomark _) ?_
          refine ew_name 3 rfl ?_
          refine ew_name 9 rfl ?_
          refine o_eqB ?_
          refine ⟨_, rfl, ?_⟩
          have fin : ∀ z : Int, z = nlow true (ps, last, slope) (lo, hi', v, ri) → st0 ++ [Ob.lst (((ps.map pcD).map W.dat).set (((ps.map pcD).map W.dat).length - 1) (.dat (.tup [.int q'.1, .int q'.2.1, .bl (decide (v - last = 1))])))] = st0 ++ [.lst (((nps true (ps, last, slope) (lo, hi', v, ri)).map pcD).map W.dat)] := fun z _ => by
            show _ = st0 ++ [.lst (((bend ps (decide (v - last = 1))).map pcD).map W.dat)]
            rw [hb, List.map_set, List.map_set, List.length_map, List.length_map]
          refine ifD (fun h => ?_) (fun h => ?_)
          · refine ew_bin ?_
            refine ew_name 7 rfl ?_
            refine ew_int ?_
            refine o_add ?_
            refine sw_nil ?_
            have ez : hi' + 1 = nlow true (ps, last, slope) (lo, hi', v, ri) := by
              show _ = (if decide (v - last = 1) = ri then hi' + 1 else lo + 1)
              rw [if_pos h]
            refine ⟨fin _ ez, some (.dat (.int (v - last))), some (.dat (.int v)), ?_⟩
            rw [← ez]
            rfl
          · refine ew_bin ?_
            refine ew_name 6 rfl ?_
            refine ew_int ?_
            refine o_add ?_
            refine sw_nil ?_
            have ez : lo + 1 = nlow true (ps, last, slope) (lo, hi', v, ri) := by
              show _ = (if decide (v - last = 1) = ri then hi' + 1 else lo + 1)
              rw [if_neg h]
            refine ⟨fin _ ez, some (.dat (.int (v - last))), some (.dat (.int v)), ?_⟩
            rw [← ez]
            rfl
        | false =>
          rw [if_neg Bool.false_ne_true]
          refine sw_nil ?_
          exact ⟨rfl, _, _, rfl⟩
    · generalize hps : nps (joins ps last slope v) (ps, last, slope) (lo, hi', v, ri) = ps1
      generalize hsl1 : nsl (joins ps last slope v) (ps, last, slope) (lo, hi', v, ri) = sl1
      generalize hlo : nlow (joins ps last slope v) (ps, last, slope) (lo, hi', v, ri) = lo1
      have es' : nrun (rs.take (i + 1)) = nfin ps1 sl1 lo1 (lo, hi', v, ri) := by
        rw [es, ← hps, ← hsl1, ← hlo]
        rfl
      have hpl1 : ps1.length ≤ 1000 := by
        rw [← hps]
        unfold nps
        split
        · rw [bend_length]; exact hpl
        · exact hpl
      rintro sl st ⟨rfl, o1, o2, rfl⟩
      refine sw_cut (fun sl st => st = st0 ++ [.lst (((nfin ps1 sl1 lo1 (lo, hi', v, ri)).1.map pcD).map W.dat)] ∧ ∃ o1 o2 o3, sl = [some (.dat (.lst (rs.map rowD))), some (.ptr st0.length), o3, some (.dat (optB (nfin ps1 sl1 lo1 (lo, hi', v, ri)).2.2)), some (.dat (rowD (lo, hi', v, ri))), o1, some (.dat (.int lo1)), some (.dat (.int hi')), o2, some (.dat (.bl ri))]) ?_ ?_
      · refine sw_if ?_
        refine tw_cmp (nomark _) ?_
        refine ew_name 6 rfl ?_
        refine ew_name 7 rfl ?_
        refine o_le ?_
        refine ⟨_, rfl, ?_⟩
        refine ifD (fun h => ?_) (fun h => ?_)
        · have en : nfin ps1 sl1 lo1 (lo, hi', v, ri) = (ps1 ++ [(lo1, onRow (lo, hi', v, ri) lo1, (if lo1 < hi' then some ri else none) == some true)], lastRow (lo, hi', v, ri), if lo1 < hi' then some ri else none) := if_pos h
          rw [en]
          refine sw_cons ?_
          refine sw_set 3 ?_ sc_normal.nd
          refine ew_mid (.dat (optB (if lo1 < hi' then some ri else none))) ?_ ?_
          · refine ew_if ?_
            refine tw_cmp (nomark _) ?_
            refine ew_name 6 rfl ?_
            refine ew_name 7 rfl ?_
            refine o_lt ?_
            refine ⟨_, rfl, ?_⟩
            refine ifD (fun h => ?_) (fun h => ?_)
            · refine ew_name 9 rfl ?_
              rw [if_pos h]
              exact ⟨rfl, rfl⟩
            · refine ew_non ?_
              rw [if_neg h]
              exact ⟨rfl, rfl⟩
          · refine sw_cons ?_
            refine sw_expr ?_
            refine ew_append ?_
            refine ew_name 1 rfl ?_
            refine ⟨_, _, rfl, at_end, ?_⟩
            refine ew_tup ?_
            refine aw_cons ?_
            refine ew_name 6 rfl ?_
            refine aw_cons ?_
            refine ew_call C_value_on hr (by decide) xk ?_
            refine aw_cons ?_
            refine ew_name 4 rfl ?_
            refine aw_cons ?_
            refine ew_name 6 rfl ?_
            refine aw_nil ?_
            refine ⟨_, _, rfl, ?_⟩
            refine aw_cons ?_
            refine ew_cmp (nomark _) ?_
            refine ew_name 3 rfl ?_
            refine ew_bl ?_
            refine o_isB ?_
            refine aw_nil ?_
            refine ⟨_, rfl, (by show 3 ≤ sizeLine; decide), ?_⟩
            refine ⟨_, at_end, szl (by rw [List.length_map, List.length_map]; omega), ?_⟩
            rw [set_end]
            refine sw_nil ?_
            refine ⟨?_, _, _, _, rfl⟩
            rw [List.map_append, List.map_append]
            rfl
        · have en : nfin ps1 sl1 lo1 (lo, hi', v, ri) = (ps1, lastRow (lo, hi', v, ri), sl1) := if_neg h
          rw [en]
          refine sw_nil ?_
          exact ⟨rfl, _, _, _, rfl⟩
      · rintro sl st ⟨rfl, o1, o2, o3, rfl⟩
        refine sw_cons ?_
        refine sw_set 2 ?_ sc_normal.nd
        refine ew_call C_last_value hr (by decide) xk ?_
        refine aw_cons ?_
        refine ew_name 4 rfl ?_
        refine aw_nil ?_
        refine ⟨_, rfl, ?_⟩
        refine sw_nil ?_
        have el : (nfin ps1 sl1 lo1 (lo, hi', v, ri)).2.1 = lastRow (lo, hi', v, ri) := by
          unfold nfin
          split <;> rfl
        refine ⟨by rw [es'], some (.dat (rowD (lo, hi', v, ri))), o1, some (.dat (.int lo1)), some (.dat (.int hi')), o2, some (.dat (.bl ri)), ?_⟩
        rw [es', el]
        rfl
  · obtain ⟨rfl, o1, o2, o3, o4, o5, o6, rfl⟩ := hI
    rw [List.length_map, List.length_map, List.take_length]
    refine sw_cons ?_
    refine sw_ret ?_
    refine ew_bty bt_tuple B.tuple ?_
    refine aw_cons ?_
    refine ew_name 1 rfl ?_
    refine aw_nil ?_
    refine c_tupleM at_end ?_
    exact krE_app hcl q
def stretchF : List Pc → Int → List Row
  | [], _ => []
  | [p], t => [(p.1, t, p.2.1, p.2.2)]
  | p :: q :: r, t => (p.1, q.1 - 1, p.2.1, p.2.2) :: stretchF (q :: r) t
theorem stretchF_length : ∀ (ps : List Pc) (t : Int), (stretchF ps t).length = ps.length
  | [], _ => rfl
  | [p], t => rfl
  | p :: q :: r, t => by
    unfold stretchF
    rw [List.length_cons, stretchF_length (q :: r) t]
    rfl
def bnds (ps : List Pc) (t : Int) : List Int := ps.map (·.1) ++ [t + 1]
theorem stretchF_get : ∀ (ps : List Pc) (t : Int) (i : Nat) (p : Pc), ps[i]? = some p → ∃ b, (bnds ps t)[i + 1]? = some b ∧ (stretchF ps t)[i]? = some (p.1, b - 1, p.2.1, p.2.2)
  | [p], t, 0, p', h => by
    simp at h
    subst h
    refine ⟨t + 1, rfl, ?_⟩
    show some (p.1, t, p.2.1, p.2.2) = some (p.1, t + 1 - 1, p.2.1, p.2.2)
    rw [Int.add_sub_cancel]
  | [p], t, i + 1, p', h => by simp at h
  | p :: q :: r, t, 0, p', h => by
    simp at h
    subst h
    exact ⟨q.1, rfl, rfl⟩
  | p :: q :: r, t, i + 1, p', h => by
    obtain ⟨b, h1, h2⟩ := stretchF_get (q :: r) t i p' (by simpa using h)
    refine ⟨b, ?_, ?_⟩
    · show (p.1 :: bnds (q :: r) t)[i + 1 + 1]? = some b
      simpa using h1
    · unfold stretchF
      simpa using h2
def F_stretches : FT := fun args st Ret _ => ∃ d ps t, args = [.dat d, .dat (.int t)] ∧ PcsD d ps ∧ ps.length ≤ 1000 ∧ Ret (.dat (.lst ((stretchF ps t).map rowD))) st
theorem ok_stretches {f : Addr} {fd : FuncData} (B : Bl mg) (Fn : Fun K "stretches" "stretches" s_stretches f fd) (b : Binds K fd p_stretches []) : FnG P w K mg base (L2.CX P w) 1 f (spD K F_stretches) := by
  refine fnD Fn sc_stretches b (fun args st0 Ret Exc h => ?_) ?_
  · obtain ⟨d, ps, t, rfl, _⟩ := h
    rfl
  intro cdv A outer s H E H0 Al args st0 Ret Exc hr xk hp hal hcl hF
  obtain ⟨d, ps, t, rfl, hd, hlen, q⟩ := hF
  have q2 := krE_of hcl q
  refine sw_cons ?_
  refine sw_set 2 ?_ sc_stretches.nd
  refine ew_bin ?_
  refine ew_lc (own := [("piece", 3)]) (tb := false) (is := [3]) rfl sc_stretches.nd (blkOk_by (N := n_stretches) (sc := defScope s_stretches) (by decide +kernel)) (fun _ _ _ _ _ => pg_name (i := 3) sc_stretches.nd rfl (Or.inl rfl)) (by decide) ?_
  refine lcj_pure (ps.map fun p => D.int p.1) (szl (by rw [List.length_map]; omega)) ?_ ?_
  · rcases hd with rfl | rfl
    all_goals first | (refine iw_list ?_; refine ew_name 0 rfl ?_; refine ⟨_, rfl, rfl, by rw [List.length_map, List.length_map, List.length_map], fun k w' y hw hy => ⟨_, rfl, ?_⟩⟩) | (refine iw_tup ?_; refine ew_name 0 rfl ?_; refine ⟨_, rfl, rfl, by rw [List.length_map, List.length_map, List.length_map], fun k w' y hw hy => ⟨_, rfl, ?_⟩⟩)
    all_goals
      obtain ⟨x, hxk, rfl⟩ := getElem?_mapW hw
      rw [List.getElem?_map] at hxk hy
      obtain ⟨p, hp1, rfl⟩ := Option.map_eq_some_iff.mp hxk
      rw [hp1] at hy
      have ey : y = .int p.1 := (Option.some.inj hy).symm
      subst ey
      intro G1 sb Hb Cb cl fp
      refine ew_ix ?_
      refine ew_name 3 rfl ?_
      refine ew_int ?_
      exact ⟨_, _, rfl, itm_tup (j := 0) rfl rfl, rfl, rfl⟩
  · refine ew_lst ?_
    refine aw_cons ?_
    refine ew_bin ?_
    refine ew_name 1 rfl ?_
    refine ew_int ?_
    refine o_add ?_
    refine aw_nil ?_
    refine ⟨_, rfl, (by show 1 ≤ sizeLine; decide), ?_⟩
    refine o_cat (szl' (by rw [List.length_map]; show ps.length + 1 ≤ _; omega)) ?_
    have eb : (ps.map fun p => D.int p.1) ++ [D.int (t + 1)] = (bnds ps t).map D.int := by
      unfold bnds
      rw [List.map_append, List.map_map]
      rfl
    show SW _ _ _ _ _ _
    refine sw_cons ?_
    refine sw_ret ?_
    refine ew_lc (own := [("at", 4), ("piece", 3)]) (tb := true) (is := [4, 3]) rfl sc_stretches.nd (blkOk_by (N := n_stretches) (sc := defScope s_stretches) (by decide +kernel)) (fun _ _ _ _ _ => pg_tup rfl (pgs_cons (pg_name (i := 4) sc_stretches.nd rfl (Or.inl rfl)) (pgs_cons (pg_name (i := 3) sc_stretches.nd rfl (Or.inl rfl)) (pgs_nil)))) (by decide) ?_
    refine lcj_pure ((stretchF ps t).map rowD) (szl (by rw [List.length_map, stretchF_length]; omega)) ?_ q2
    · rcases hd with rfl | rfl
      all_goals first | (refine iw_enum B.enumerate ?_; refine aw_cons ?_; refine ew_name 0 rfl ?_; refine aw_nil ?_; refine ⟨_, rfl, rfl, by rw [enm_length, List.length_map, List.length_map, stretchF_length], fun k w' y hw hy => ?_⟩) | (refine iw_enumT B.enumerate ?_; refine aw_cons ?_; refine ew_name 0 rfl ?_; refine aw_nil ?_; refine ⟨_, rfl, rfl, by rw [enm_length, List.length_map, List.length_map, stretchF_length], fun k w' y hw hy => ?_⟩)
      all_goals
        obtain ⟨x, hxk, rfl⟩ := getElem?_enm hw
        refine ⟨_, rfl, ?_⟩
        rw [List.getElem?_map] at hxk hy
        obtain ⟨p, hp1, rfl⟩ := Option.map_eq_some_iff.mp hxk
        obtain ⟨bb, hb1, hb2⟩ := stretchF_get ps t k p hp1
        rw [hb2] at hy
        have ey : y = rowD (p.1, bb - 1, p.2.1, p.2.2) := (Option.some.inj hy).symm
        subst ey
        have hb3 : ((ps.map fun p => D.int p.1) ++ [D.int (t + 1)])[k + 1]? = some (.int bb) := by rw [eb, List.getElem?_map, hb1]; rfl
        intro G1 sb Hb Cb cl fp
        refine ew_tup ?_
        refine aw_cons ?_
        refine ew_ix ?_
        refine ew_name 3 rfl ?_
        refine ew_int ?_
        refine ⟨_, _, rfl, itm_tup (j := 0) rfl rfl, ?_⟩
        refine aw_cons ?_
        refine ew_bin ?_
        refine ew_ix ?_
        refine ew_name 2 rfl ?_
        refine ew_bin ?_
        refine ew_name 4 rfl ?_
        refine ew_int ?_
        refine o_add ?_
        refine ⟨_, _, rfl, itm_lst (j := k + 1) (by omega) hb3, ?_⟩
        refine ew_int ?_
        refine o_sub ?_
        refine aw_cons ?_
        refine ew_ix ?_
        refine ew_name 3 rfl ?_
        refine ew_int ?_
        refine ⟨_, _, rfl, itm_tup (j := 1) rfl rfl, ?_⟩
        refine aw_cons ?_
        refine ew_ix ?_
        refine ew_name 3 rfl ?_
        refine ew_int ?_
        refine ⟨_, _, rfl, itm_tup (j := 2) rfl rfl, ?_⟩
        refine aw_nil ?_
        exact ⟨_, rfl, (by show 4 ≤ sizeLine; decide), rfl, rfl⟩
def F_is_number : FT := fun args st Ret _ => ∃ d t, args = [.dat d] ∧ tyOf d = some t ∧ Ret (.dat (.bl (isNum d))) st
theorem ok_is_number {f : Addr} {fd : FuncData} (B : Bl mg) (Fn : Fun K "is_number" "is_number" s_is_number f fd) (b : Binds K fd p_is_number []) : FnG P w K mg base (L2.CX P w) 1 f (spD K F_is_number) := by
  refine fnD Fn sc_is_number b (fun args st0 Ret Exc h => ?_) ?_
  · obtain ⟨d, t, rfl, _⟩ := h
    rfl
  intro cdv A outer s H E H0 Al args st0 Ret Exc hr xk hp hal hcl hF
  obtain ⟨d, t, rfl, ht, q⟩ := hF
  have q2 : KrE st0 Ret (.dat (.bl (isNum d))) st0 := krE_of hcl q
  refine sw_cons ?_
  refine sw_ret ?_
  refine ew_and ?_
  refine ew_blt bt_isinstance B.isinstance ?_
  refine aw_cons ?_
  refine ew_name 0 rfl ?_
  refine aw_cons ?_
  refine ew_gty bt_int B.int ?_
  refine aw_nil ?_
  refine c_is1 ht (by decide) ?_
  refine ⟨_, rfl, ?_⟩
  have no : isA t "int" = false → isNum d = false := fun h => by
    cases d <;> simp [tyOf] at ht <;> subst ht <;> first | rfl | (exact absurd h (by decide))
  refine ifB (fun h => ?_) (fun h => ?_)
  · refine ew_and ?_
    refine ew_not ?_
    refine ew_blt bt_isinstance B.isinstance ?_
    refine aw_cons ?_
    refine ew_name 0 rfl ?_
    refine aw_cons ?_
    refine ew_gty bt_bool B.bool ?_
    refine aw_nil ?_
    refine c_is1 ht (by decide) ?_
    refine ⟨_, rfl, ?_⟩
    refine ⟨_, rfl, ?_⟩
    refine ifN (fun h1 => ?_) (fun h1 => ?_)
    · obtain ⟨i, rfl⟩ : ∃ i, d = .int i := by
        cases d <;> simp [tyOf] at ht <;> subst ht <;> first | exact ⟨_, rfl⟩ | (exact absurd h (by decide)) | (exact absurd h1 (by decide))
      refine ew_one ?_
      refine ew_cmp (nomark _) ?_
      refine ew_name 0 rfl ?_
      refine ew_int ?_
      refine o_ge ?_
      exact q2
    · have : isNum d = false := by
        cases d <;> simp [tyOf] at ht <;> subst ht <;> first | rfl | (exact absurd h1 (by decide))
      rw [this] at q2
      exact q2
  · rw [no h] at q2
    exact q2
def F_is_value : FT := fun args st Ret _ => ∃ d t i, args = [.dat d, .dat (.int i)] ∧ tyOf d = some t ∧ Ret (.dat (.bl (isVal d i))) st
theorem ok_is_value {f : Addr} {fd : FuncData} (C_is_number : Cal P w K mg base 1 "is_number" F_is_number) (Fn : Fun K "is_value" "is_value" s_is_value f fd) (b : Binds K fd p_is_value []) : FnG P w K mg base (L2.CX P w) 2 f (spD K F_is_value) := by
  refine fnD Fn sc_is_value b (fun args st0 Ret Exc h => ?_) ?_
  · obtain ⟨d, t, i, rfl, _⟩ := h
    rfl
  intro cdv A outer s H E H0 Al args st0 Ret Exc hr xk hp hal hcl hF
  obtain ⟨d, t, i, rfl, ht, q⟩ := hF
  have q2 : KrE st0 Ret (.dat (.bl (isVal d i))) st0 := krE_of hcl q
  refine sw_cons ?_
  refine sw_ret ?_
  refine ew_and ?_
  refine ew_call C_is_number hr (by decide) xk ?_
  refine aw_cons ?_
  refine ew_name 0 rfl ?_
  refine aw_nil ?_
  refine ⟨d, t, rfl, ht, ?_⟩
  refine ⟨_, rfl, ?_⟩
  refine ifB (fun h => ?_) (fun h => ?_)
  · obtain ⟨k, rfl⟩ : ∃ i, d = .int i := by
      cases d <;> first | exact ⟨_, rfl⟩ | cases h
    refine ew_one ?_
    refine ew_cmp (nomark _) ?_
    refine ew_name 0 rfl ?_
    refine ew_name 1 rfl ?_
    refine o_le ?_
    have h : decide (0 ≤ k) = true := h
    have e : isVal (.int k) i = decide (k ≤ i) := by show (decide (0 ≤ k) && _) = _; rw [h, Bool.true_and]
    rw [e] at q2
    exact q2
  · have e : isVal d i = false := by
      cases d <;> first | rfl | skip
      rename_i k
      have h : decide (0 ≤ k) = false := h
      show (decide (0 ≤ k) && _) = _
      rw [h, Bool.false_and]
    rw [e] at q2
    exact q2
def F_is_sequence : FT := fun args st Ret _ => ∃ d t, args = [.dat d] ∧ tyOf d = some t ∧ Ret (.dat (.bl (isSeq d))) st
theorem ok_is_sequence {f : Addr} {fd : FuncData} (B : Bl mg) (Fn : Fun K "is_sequence" "is_sequence" s_is_sequence f fd) (b : Binds K fd p_is_sequence []) : FnG P w K mg base (L2.CX P w) 1 f (spD K F_is_sequence) := by
  refine fnD Fn sc_is_sequence b (fun args st0 Ret Exc h => ?_) ?_
  · obtain ⟨d, t, rfl, _⟩ := h
    rfl
  intro cdv A outer s H E H0 Al args st0 Ret Exc hr xk hp hal hcl hF
  obtain ⟨d, t, rfl, ht, q⟩ := hF
  have q2 : KrE st0 Ret (.dat (.bl (isSeq d))) st0 := krE_of hcl q
  refine sw_cons ?_
  refine sw_ret ?_
  refine ew_blt bt_isinstance B.isinstance ?_
  refine aw_cons ?_
  refine ew_name 0 rfl ?_
  refine aw_cons ?_
  refine ew_tup ?_
  refine aw_cons ?_
  refine ew_gty bt_list B.list ?_
  refine aw_cons ?_
  refine ew_gty bt_tuple B.tuple ?_
  refine aw_nil ?_
  refine ⟨_, rfl, by decide, ?_⟩
  refine aw_nil ?_
  refine c_is2 ht (by decide) (by decide) ?_
  have e : (isA t "list" || isA t "tuple") = isSeq d := by
    cases d <;> simp [tyOf] at ht <;> subst ht <;> rfl
  rw [e]
  exact q2
def seqOf : D → Option (List D)
  | .lst xs => some xs
  | .tup xs => some xs
  | _ => none
def intOf : D → Int
  | .int i => i
  | _ => 0
def ascB (xs : List D) : List Bool := (List.range (xs.length - 1)).map fun i => decide (intOf (xs.getD i .non) ≤ intOf (xs.getD (i + 1) .non))
def isTable (d : D) (t : Int) : Bool := match seqOf d with
  | some xs => !xs.isEmpty && (xs.map (isVal · t)).all id && (ascB xs).all id
  | none => false
def F_is_table : FT := fun args st Ret _ => ∃ d t i, args = [.dat d, .dat (.int i)] ∧ tyOf d = some t ∧ (∀ xs, seqOf d = some xs → xs.length ≤ 1000 ∧ ∀ x ∈ xs, ∃ t, tyOf x = some t) ∧ Ret (.dat (.bl (isTable d i))) st
theorem ok_is_table {f : Addr} {fd : FuncData} (B : Bl mg) (C_is_value : Cal P w K mg base 2 "is_value" F_is_value) (C_is_sequence : Cal P w K mg base 1 "is_sequence" F_is_sequence) (Fn : Fun K "is_table" "is_table" s_is_table f fd) (b : Binds K fd p_is_table []) : FnG P w K mg base (L2.CX P w) 3 f (spD K F_is_table) := by
  refine fnD Fn sc_is_table b (fun args st0 Ret Exc h => ?_) ?_
  · obtain ⟨d, t, i, rfl, _⟩ := h
    rfl
  intro cdv A outer s H E H0 Al args st0 Ret Exc hr xk hp hal hcl hF
  obtain ⟨d, t, i, rfl, ht, hx, q⟩ := hF
  have q2 : KrE st0 Ret (.dat (.bl (isTable d i))) st0 := krE_of hcl q
  refine sw_cons ?_
  refine sw_if ?_
  cases hs : seqOf d with
  | none =>
    have e1 : isSeq d = false := by cases d <;> first | rfl | cases hs
    have e2 : isTable d i = false := by unfold isTable; rw [hs]
    refine tw_bool ?_
    refine bw_or ?_
    refine tw_not ?_
    refine tw_val ?_
    refine ew_call C_is_sequence hr (by decide) xk ?_
    refine aw_cons ?_
    refine ew_name 0 rfl ?_
    refine aw_nil ?_
    refine ⟨d, t, rfl, ht, ?_⟩
    refine ⟨_, rfl, ?_⟩
    refine ifT (by rw [e1]; rfl) ?_
    refine ifT rfl ?_
    refine sw_cons ?_
    refine sw_ret ?_
    refine ew_bl ?_
    rw [e2] at q2
    exact q2
  | some xs =>
    obtain ⟨hlen, hty⟩ := hx xs hs
    have e1 : isSeq d = true := by cases d <;> first | rfl | cases hs
    have e0 : isTable d i = (!xs.isEmpty && (xs.map (isVal · i)).all id && (ascB xs).all id) := by unfold isTable; rw [hs]
    have hL : ∀ st, Len st (.dat d) = some xs.length := fun st => by cases d <;> first | (cases hs; rfl) | cases hs
    refine tw_mid xs.isEmpty ?_ ?_
    · refine tw_bool ?_
      refine bw_or ?_
      refine tw_not ?_
      refine tw_val ?_
      refine ew_call C_is_sequence hr (by decide) xk ?_
      refine aw_cons ?_
      refine ew_name 0 rfl ?_
      refine aw_nil ?_
      refine ⟨d, t, rfl, ht, ?_⟩
      refine ⟨_, rfl, ?_⟩
      refine ifF (by rw [e1]; rfl) ?_
      refine bw_or1 ?_
      refine tw_cmp (nomark _) ?_
      refine ew_blt bt_len B.len ?_
      refine aw_cons ?_
      refine ew_name 0 rfl ?_
      refine aw_nil ?_
      refine c_len (hL _) ?_
      refine ew_int ?_
      refine o_eqI ?_
      refine ⟨_, rfl, ?_, rfl⟩
      cases xs <;> simp <;> omega
    · refine ifB (fun h => ?_) (fun h => ?_)
      · refine sw_cons ?_
        refine sw_ret ?_
        refine ew_bl ?_
        rw [e0, h] at q2
        exact q2
      · refine sw_nil ?_
        refine sw_cons ?_
        refine sw_if ?_
        rw [h, Bool.not_false, Bool.true_and] at e0
        have hne : xs ≠ [] := by rintro rfl; cases h
        refine tw_mid (!(xs.map (isVal · i)).all id) ?_ ?_
        · refine tw_not ?_
          refine tw_val ?_
          refine ew_blt bt_all B.all ?_
          refine aw_cons ?_
          refine ew_lc (own := [("result", 3)]) (tb := false) (is := [3]) rfl sc_is_table.nd (blkOk_by (N := n_is_table) (sc := defScope s_is_table) (by decide +kernel)) (fun _ _ _ _ _ => pg_name (i := 3) sc_is_table.nd rfl (Or.inl rfl)) (by decide) ?_
          refine lcj_pure ((xs.map (isVal · i)).map D.bl) (szl (by simp; omega)) ?_ ?_
          · cases d <;> first | (cases hs; done) | cases hs
            all_goals first | (refine iw_list ?_; refine ew_name 0 rfl ?_; refine ⟨_, rfl, rfl, by simp, fun k w' y hw hy => ⟨_, rfl, ?_⟩⟩) | (refine iw_tup ?_; refine ew_name 0 rfl ?_; refine ⟨_, rfl, rfl, by simp, fun k w' y hw hy => ⟨_, rfl, ?_⟩⟩)
            all_goals
              obtain ⟨x, hxk, rfl⟩ := getElem?_mapW hw
              obtain ⟨t', ht'⟩ := hty x (List.mem_of_getElem? hxk)
              have ey : y = .bl (isVal x i) := by
                rw [List.map_map, List.getElem?_map, hxk] at hy
                exact (Option.some.inj hy).symm
              intro G1 sb Hb Cb cl fp
              refine ew_call C_is_value hr (by decide) xok_false ?_
              refine aw_cons ?_
              refine ew_name 3 rfl ?_
              refine aw_cons ?_
              refine ew_name 1 rfl ?_
              refine aw_nil ?_
              exact ⟨x, t', i, rfl, ht', by rw [ey], rfl⟩
          · refine aw_nil ?_
            refine c_all rfl ?_
            exact ⟨_, rfl, rfl, rfl⟩
        · refine ifB (fun h2 => ?_) (fun h2 => ?_)
          · refine sw_cons ?_
            refine sw_ret ?_
            refine ew_bl ?_
            have h2 : (xs.map (isVal · i)).all id = false := by simpa using h2
            rw [e0, h2] at q2
            exact q2
          · refine sw_nil ?_
            have h2 : (xs.map (isVal · i)).all id = true := by simpa using h2
            have hI : ∀ x ∈ xs, ∃ z, x = .int z := fun x hx' => by
              have := List.all_eq_true.mp h2 (isVal x i) (List.mem_map_of_mem hx')
              cases x <;> first | exact ⟨_, rfl⟩ | cases this
            refine sw_cons ?_
            refine sw_ret ?_
            refine ew_blt bt_all B.all ?_
            refine aw_cons ?_
            refine ew_lc (own := [("x", 2)]) (tb := false) (is := [2]) rfl sc_is_table.nd (blkOk_by (N := n_is_table) (sc := defScope s_is_table) (by decide +kernel)) (fun _ _ _ _ _ => pg_name (i := 2) sc_is_table.nd rfl (Or.inl rfl)) (by decide) ?_
            refine lcj_pure ((ascB xs).map D.bl) (szl (by unfold ascB; simp; omega)) ?_ ?_
            · refine iw_range1 B.range ?_
              refine aw_cons ?_
              refine ew_bin ?_
              refine ew_blt bt_len B.len ?_
              refine aw_cons ?_
              refine ew_name 0 rfl ?_
              refine aw_nil ?_
              refine c_len (hL _) ?_
              refine ew_int ?_
              refine o_sub ?_
              refine aw_nil ?_
              refine ⟨_, rfl, by omega, by omega, rfl, ?_, fun k w' y hw hy => ⟨_, rfl, ?_⟩⟩
              · rw [rng_length]
                unfold ascB
                have : 0 < xs.length := List.length_pos_iff.mpr hne
                rw [List.length_map, List.length_map, List.length_range]
                omega
              · obtain ⟨hk, rfl⟩ := getElem?_rng hw
                have hk1 : k + 1 < xs.length := by omega
                have hk0 : k < xs.length := by omega
                obtain ⟨z0, hz0⟩ := hI xs[k] (List.getElem_mem _)
                obtain ⟨z1, hz1⟩ := hI xs[k + 1] (List.getElem_mem _)
                have g0 : xs[k]? = some (.int z0) := by rw [List.getElem?_eq_getElem hk0, hz0]
                have g1 : xs[k + 1]? = some (.int z1) := by rw [List.getElem?_eq_getElem hk1, hz1]
                have ey : y = .bl (decide (z0 ≤ z1)) := by
                  unfold ascB at hy
                  rw [List.map_map, List.getElem?_map, List.getElem?_range (by omega)] at hy
                  have := (Option.some.inj hy).symm
                  rw [this]
                  show D.bl (decide (intOf (xs.getD k .non) ≤ intOf (xs.getD (k + 1) .non))) = _
                  rw [List.getD_eq_getElem?_getD, List.getD_eq_getElem?_getD, g0, g1]
                  rfl
                have it : ∀ (m : Nat) (z : Int) (j : Int), xs[m]? = some (.int z) → j = (m : Int) → ∀ st, Itm st (.dat d) j = some (.dat (.int z)) := fun m z j hm hj st => by
                  cases d <;> first | (cases hs; exact itm_lst hj hm) | (cases hs; exact itm_tup hj hm) | cases hs
                intro G1 sb Hb Cb cl fp
                refine ew_cmp (nomark _) ?_
                refine ew_ix ?_
                refine ew_name 0 rfl ?_
                refine ew_name 2 rfl ?_
                refine ⟨_, _, rfl, it k z0 _ g0 (by omega) _, ?_⟩
                refine ew_ix ?_
                refine ew_name 0 rfl ?_
                refine ew_bin ?_
                refine ew_name 2 rfl ?_
                refine ew_int ?_
                refine o_add ?_
                refine ⟨_, _, rfl, it (k + 1) z1 _ g1 (by omega) _, ?_⟩
                refine o_le ?_
                exact ⟨by rw [ey], rfl⟩
            · refine aw_nil ?_
              refine c_all rfl ?_
              rw [e0, h2, Bool.true_and] at q2
              exact q2
def isPieceD : D → Bool
  | .tup [a, b, .bl _] => isNum a && isNum b
  | _ => false
def Pl1 (d : D) : Prop := (∃ t, tyOf d = some t) ∧ ∀ xs, d = .tup xs → xs.length ≤ 1000 ∧ ∀ x ∈ xs, ∃ t, tyOf x = some t
def F_is_piece : FT := fun args st Ret _ => ∃ d, args = [.dat d] ∧ Pl1 d ∧ Ret (.dat (.bl (isPieceD d))) st
theorem ok_is_piece {f : Addr} {fd : FuncData} (B : Bl mg) (C_is_number : Cal P w K mg base 1 "is_number" F_is_number) (Fn : Fun K "is_piece" "is_piece" s_is_piece f fd) (b : Binds K fd p_is_piece []) : FnG P w K mg base (L2.CX P w) 2 f (spD K F_is_piece) := by
  refine fnD Fn sc_is_piece b (fun args st0 Ret Exc h => ?_) ?_
  · obtain ⟨d, rfl, _⟩ := h
    rfl
  intro cdv A outer s H E H0 Al args st0 Ret Exc hr xk hp hal hcl hF
  obtain ⟨d, rfl, ⟨⟨t, ht⟩, hx⟩, q⟩ := hF
  have q2 : KrE st0 Ret (.dat (.bl (isPieceD d))) st0 := krE_of hcl q
  refine sw_cons ?_
  refine sw_if ?_
  cases hd : isA t "tuple" with
  | false =>
    have e1 : isPieceD d = false := by
      cases d <;> first | rfl | skip
      simp [tyOf] at ht
      subst ht
      cases hd
    refine tw_bool ?_
    refine bw_or ?_
    refine tw_not ?_
    refine tw_val ?_
    refine ew_blt bt_isinstance B.isinstance ?_
    refine aw_cons ?_
    refine ew_name 0 rfl ?_
    refine aw_cons ?_
    refine ew_gty bt_tuple B.tuple ?_
    refine aw_nil ?_
    refine c_is1 ht (by decide) ?_
    refine ⟨_, rfl, ?_⟩
    refine ifT (by rw [hd]; rfl) ?_
    refine ifT rfl ?_
    refine sw_cons ?_
    refine sw_ret ?_
    refine ew_bl ?_
    rw [e1] at q2
    exact q2
  | true =>
    obtain ⟨xs, rfl⟩ : ∃ xs, d = .tup xs := by
      cases d <;> simp [tyOf] at ht <;> subst ht <;> first | exact ⟨_, rfl⟩ | (exact absurd hd (by decide))
    obtain ⟨hlen, hty⟩ := hx xs rfl
    refine tw_mid (!decide ((xs.length : Int) = 3)) ?_ ?_
    · refine tw_bool ?_
      refine bw_or ?_
      refine tw_not ?_
      refine tw_val ?_
      refine ew_blt bt_isinstance B.isinstance ?_
      refine aw_cons ?_
      refine ew_name 0 rfl ?_
      refine aw_cons ?_
      refine ew_gty bt_tuple B.tuple ?_
      refine aw_nil ?_
      refine c_is1 ht (by decide) ?_
      refine ⟨_, rfl, ?_⟩
      refine ifF (by rw [hd]; rfl) ?_
      refine bw_or1 ?_
      refine tw_cmp (nomark _) ?_
      refine ew_blt bt_len B.len ?_
      refine aw_cons ?_
      refine ew_name 0 rfl ?_
      refine aw_nil ?_
      refine c_len rfl ?_
      refine ew_int ?_
      refine o_neI ?_
      exact ⟨_, rfl, rfl, rfl⟩
    · refine ifN' (fun h => ?_) (fun h => ?_)
      · have e1 : isPieceD (.tup xs) = false := by
          match xs, h with
          | [], _ => rfl
          | [_], _ => rfl
          | [_, _], _ => rfl
          | [_, _, _], h => exact absurd rfl h
          | _ :: _ :: _ :: _ :: _, _ => simp [isPieceD]
        refine sw_cons ?_
        refine sw_ret ?_
        refine ew_bl ?_
        rw [e1] at q2
        exact q2
      · obtain ⟨x0, x1, x2, rfl⟩ : ∃ x0 x1 x2, xs = [x0, x1, x2] := by
          match xs, h with
          | [x0, x1, x2], _ => exact ⟨_, _, _, rfl⟩
          | [], h => simp at h
          | [_], h => simp at h
          | [_, _], h => simp at h
          | _ :: _ :: _ :: _ :: r, h => simp at h; omega
        obtain ⟨t0, ht0⟩ := hty x0 (by simp)
        obtain ⟨t1, ht1⟩ := hty x1 (by simp)
        obtain ⟨t2, ht2⟩ := hty x2 (by simp)
        have e1 : isPieceD (.tup [x0, x1, x2]) = (isNum x0 && (isNum x1 && isA t2 "bool")) := by
          cases x2 <;> simp [tyOf] at ht2 <;> subst ht2 <;> (try rw [show isA "bool" "bool" = true from rfl]) <;> (try rw [show isA "NoneType" "bool" = false from rfl]) <;> (try rw [show isA "int" "bool" = false from rfl]) <;> (try rw [show isA "str" "bool" = false from rfl]) <;> (try rw [show isA "list" "bool" = false from rfl]) <;> (try rw [show isA "tuple" "bool" = false from rfl]) <;> simp [isPieceD]
        rw [e1] at q2
        refine sw_nil ?_
        refine sw_cons ?_
        refine sw_ret ?_
        refine ew_and ?_
        refine ew_call C_is_number hr (by decide) xk ?_
        refine aw_cons ?_
        refine ew_ix ?_
        refine ew_name 0 rfl ?_
        refine ew_int ?_
        refine ⟨_, _, rfl, itm_tup (j := 0) rfl rfl, ?_⟩
        refine aw_nil ?_
        refine ⟨_, _, rfl, ht0, ?_⟩
        refine ⟨_, rfl, ?_⟩
        refine ifB (fun h => ?_) (fun h => ?_)
        · refine ew_and ?_
          refine ew_call C_is_number hr (by decide) xk ?_
          refine aw_cons ?_
          refine ew_ix ?_
          refine ew_name 0 rfl ?_
          refine ew_int ?_
          refine ⟨_, _, rfl, itm_tup (j := 1) rfl rfl, ?_⟩
          refine aw_nil ?_
          refine ⟨_, _, rfl, ht1, ?_⟩
          refine ⟨_, rfl, ?_⟩
          rw [h, Bool.true_and] at q2
          refine ifB (fun h => ?_) (fun h => ?_)
          · rw [h, Bool.true_and] at q2
            refine ew_one ?_
            refine ew_blt bt_isinstance B.isinstance ?_
            refine aw_cons ?_
            refine ew_ix ?_
            refine ew_name 0 rfl ?_
            refine ew_int ?_
            refine ⟨_, _, rfl, itm_tup (j := 2) rfl rfl, ?_⟩
            refine aw_cons ?_
            refine ew_gty bt_bool B.bool ?_
            refine aw_nil ?_
            refine c_is1 ht2 (by decide) ?_
            exact q2
          · rw [h, Bool.false_and] at q2
            exact q2
        · rw [h, Bool.false_and] at q2
          exact q2
def startOf : D → Int
  | .tup (.int i :: _) => i
  | _ => 0
def ascS (ss : List Int) : List Bool := (List.range (ss.length - 1)).map fun i => decide (ss.getD i 0 < ss.getD (i + 1) 0)
def arePieces (d : D) (t : Int) : Bool := match seqOf d with
  | some xs => !xs.isEmpty && (xs.map isPieceD).all id && !(!decide ((xs.map startOf).headD 0 = 0) || decide (t < (xs.map startOf).getLastD 0)) && (ascS (xs.map startOf)).all id
  | none => false
theorem isPieceD_eq {d : D} (h : isPieceD d = true) : ∃ p : Pc, d = pcD p ∧ 0 ≤ p.1 ∧ 0 ≤ p.2.1 := by
  unfold isPieceD at h
  split at h
  · rename_i a b c
    rw [Bool.and_eq_true] at h
    obtain ⟨h1, h2⟩ := h
    cases a <;> first | cases h1 | skip
    cases b <;> first | cases h2 | skip
    rename_i i j
    exact ⟨(i, j, c), rfl, of_decide_eq_true h1, of_decide_eq_true h2⟩
  · cases h
theorem startOf_pc (p : Pc) : startOf (pcD p) = p.1 := rfl
theorem all_pieces : ∀ {xs : List D}, (xs.map isPieceD).all id = true → ∃ ps : List Pc, xs = ps.map pcD ∧ ∀ p ∈ ps, 0 ≤ p.1 ∧ 0 ≤ p.2.1
  | [], _ => ⟨[], rfl, fun p hp => by simp at hp⟩
  | x :: xs, h => by
    rw [List.map_cons, List.all_cons, Bool.and_eq_true] at h
    obtain ⟨p, rfl, h1⟩ := isPieceD_eq h.1
    obtain ⟨ps, rfl, h2⟩ := all_pieces h.2
    exact ⟨p :: ps, rfl, fun q hq => by
      rcases List.mem_cons.mp hq with rfl | hq
      · exact h1
      · exact h2 q hq⟩
def F_are_pieces : FT := fun args st Ret _ => ∃ d t, args = [.dat d, .dat (.int t)] ∧ (∃ n, tyOf d = some n) ∧ (∀ xs, seqOf d = some xs → xs.length ≤ 1000 ∧ ∀ x ∈ xs, Pl1 x) ∧ Ret (.dat (.bl (arePieces d t))) st
theorem ok_are_pieces {f : Addr} {fd : FuncData} (B : Bl mg) (C_is_piece : Cal P w K mg base 2 "is_piece" F_is_piece) (C_is_sequence : Cal P w K mg base 1 "is_sequence" F_is_sequence) (Fn : Fun K "are_pieces" "are_pieces" s_are_pieces f fd) (b : Binds K fd p_are_pieces []) : FnG P w K mg base (L2.CX P w) 3 f (spD K F_are_pieces) := by
  refine fnD Fn sc_are_pieces b (fun args st0 Ret Exc h => ?_) ?_
  · obtain ⟨d, t, rfl, _⟩ := h
    rfl
  intro cdv A outer s H E H0 Al args st0 Ret Exc hr xk hp hal hcl hF
  obtain ⟨d, t, rfl, ⟨n, hn⟩, hx, q⟩ := hF
  have q2 : KrE st0 Ret (.dat (.bl (arePieces d t))) st0 := krE_of hcl q
  refine sw_cons ?_
  refine sw_if ?_
  cases hs : seqOf d with
  | none =>
    have e1 : isSeq d = false := by cases d <;> first | rfl | cases hs
    have e2 : arePieces d t = false := by unfold arePieces; rw [hs]
    refine tw_bool ?_
    refine bw_or ?_
    refine tw_not ?_
    refine tw_val ?_
    refine ew_call C_is_sequence hr (by decide) xk ?_
    refine aw_cons ?_
    refine ew_name 0 rfl ?_
    refine aw_nil ?_
    refine ⟨d, n, rfl, hn, ?_⟩
    refine ⟨_, rfl, ?_⟩
    refine ifT (by rw [e1]; rfl) ?_
    refine ifT rfl ?_
    refine sw_cons ?_
    refine sw_ret ?_
    refine ew_bl ?_
    rw [e2] at q2
    exact q2
  | some xs =>
    obtain ⟨hlen, hty⟩ := hx xs hs
    have e1 : isSeq d = true := by cases d <;> first | rfl | cases hs
    have e0 : arePieces d t = (!xs.isEmpty && (xs.map isPieceD).all id && !(!decide ((xs.map startOf).headD 0 = 0) || decide (t < (xs.map startOf).getLastD 0)) && (ascS (xs.map startOf)).all id) := by unfold arePieces; rw [hs]
    have hL : ∀ st, Len st (.dat d) = some xs.length := fun st => by cases d <;> first | (cases hs; rfl) | cases hs
    refine tw_mid xs.isEmpty ?_ ?_
    · refine tw_bool ?_
      refine bw_or ?_
      refine tw_not ?_
      refine tw_val ?_
      refine ew_call C_is_sequence hr (by decide) xk ?_
      refine aw_cons ?_
      refine ew_name 0 rfl ?_
      refine aw_nil ?_
      refine ⟨d, n, rfl, hn, ?_⟩
      refine ⟨_, rfl, ?_⟩
      refine ifF (by rw [e1]; rfl) ?_
      refine bw_or1 ?_
      refine tw_cmp (nomark _) ?_
      refine ew_blt bt_len B.len ?_
      refine aw_cons ?_
      refine ew_name 0 rfl ?_
      refine aw_nil ?_
      refine c_len (hL _) ?_
      refine ew_int ?_
      refine o_eqI ?_
      refine ⟨_, rfl, ?_, rfl⟩
      cases xs <;> simp <;> omega
    · refine ifB (fun h => ?_) (fun h => ?_)
      · refine sw_cons ?_
        refine sw_ret ?_
        refine ew_bl ?_
        rw [e0, h] at q2
        exact q2
      · refine sw_nil ?_
        refine sw_cons ?_
        refine sw_if ?_
        rw [h, Bool.not_false, Bool.true_and] at e0
        have hne : xs ≠ [] := by rintro rfl; cases h
        refine tw_mid (!(xs.map isPieceD).all id) ?_ ?_
        · refine tw_not ?_
          refine tw_val ?_
          refine ew_blt bt_all B.all ?_
          refine aw_cons ?_
          refine ew_lc (own := [("piece", 3)]) (tb := false) (is := [3]) rfl sc_are_pieces.nd (blkOk_by (N := n_are_pieces) (sc := defScope s_are_pieces) (by decide +kernel)) (fun _ _ _ _ _ => pg_name (i := 3) sc_are_pieces.nd rfl (Or.inl rfl)) (by decide) ?_
          refine lcj_pure ((xs.map isPieceD).map D.bl) (szl (by rw [List.length_map, List.length_map]; omega)) ?_ ?_
          · cases d <;> first | (cases hs; done) | cases hs
            all_goals first | (refine iw_list ?_; refine ew_name 0 rfl ?_; refine ⟨_, rfl, rfl, by simp, fun k w' y hw hy => ⟨_, rfl, ?_⟩⟩) | (refine iw_tup ?_; refine ew_name 0 rfl ?_; refine ⟨_, rfl, rfl, by simp, fun k w' y hw hy => ⟨_, rfl, ?_⟩⟩)
            all_goals
              obtain ⟨x, hxk, rfl⟩ := getElem?_mapW hw
              have ey : y = .bl (isPieceD x) := by
                rw [List.map_map, List.getElem?_map, hxk] at hy
                exact (Option.some.inj hy).symm
              intro G1 sb Hb Cb cl fp
              refine ew_call C_is_piece hr (by decide) xok_false ?_
              refine aw_cons ?_
              refine ew_name 3 rfl ?_
              refine aw_nil ?_
              exact ⟨x, rfl, hty x (List.mem_of_getElem? hxk), by rw [ey], rfl⟩
          · refine aw_nil ?_
            refine c_all rfl ?_
            exact ⟨_, rfl, rfl, rfl⟩
        · refine ifB (fun h2 => ?_) (fun h2 => ?_)
          · refine sw_cons ?_
            refine sw_ret ?_
            refine ew_bl ?_
            have h2 : (xs.map isPieceD).all id = false := by simpa using h2
            rw [e0, h2] at q2
            exact q2
          · refine sw_nil ?_
            have h2 : (xs.map isPieceD).all id = true := by simpa using h2
            rw [h2, Bool.true_and] at e0
            obtain ⟨ps, rfl, hps⟩ := all_pieces h2
            have hpn : ps ≠ [] := by rintro rfl; exact hne rfl
            have hpl : ps.length ≤ 1000 := by rw [List.length_map] at hlen; exact hlen
            have hD : PcsD d ps := by cases d <;> first | (cases hs; exact .inl rfl) | (cases hs; exact .inr rfl) | cases hs
            have es : (ps.map pcD).map startOf = ps.map (·.1) := by rw [List.map_map]; rfl
            rw [es] at e0
            refine sw_cons ?_
            refine sw_set 2 ?_ sc_are_pieces.nd
            refine ew_lc (own := [("piece", 3)]) (tb := false) (is := [3]) rfl sc_are_pieces.nd (blkOk_by (N := n_are_pieces) (sc := defScope s_are_pieces) (by decide +kernel)) (fun _ _ _ _ _ => pg_name (i := 3) sc_are_pieces.nd rfl (Or.inl rfl)) (by decide) ?_
            refine lcj_pure ((ps.map (·.1)).map D.int) (szl (by rw [List.length_map, List.length_map]; omega)) ?_ ?_
            · rcases hD with rfl | rfl
              all_goals first | (refine iw_list ?_; refine ew_name 0 rfl ?_; refine ⟨_, rfl, rfl, by rw [List.length_map, List.length_map, List.length_map, List.length_map], fun k w' y hw hy => ⟨_, rfl, ?_⟩⟩) | (refine iw_tup ?_; refine ew_name 0 rfl ?_; refine ⟨_, rfl, rfl, by rw [List.length_map, List.length_map, List.length_map, List.length_map], fun k w' y hw hy => ⟨_, rfl, ?_⟩⟩)
              all_goals
                obtain ⟨x, hxk, rfl⟩ := getElem?_mapW hw
                rw [List.getElem?_map] at hxk
                rw [List.map_map, List.getElem?_map] at hy
                obtain ⟨p, hp1, rfl⟩ := Option.map_eq_some_iff.mp hxk
                rw [hp1] at hy
                have ey : y = .int p.1 := (Option.some.inj hy).symm
                subst ey
                intro G1 sb Hb Cb cl fp
                refine ew_ix ?_
                refine ew_name 3 rfl ?_
                refine ew_int ?_
                exact ⟨_, _, rfl, itm_tup (j := 0) rfl rfl, rfl, rfl⟩
            · generalize hss : ps.map (·.1) = ss at e0 ⊢
              have hsn : ss ≠ [] := by rw [← hss]; intro z; exact hpn (List.map_eq_nil_iff.mp z)
              have hsl : ss.length ≤ 1000 := by rw [← hss, List.length_map]; exact hpl
              obtain ⟨s0, rest, rfl⟩ : ∃ s0 rest, ss = s0 :: rest := List.exists_cons_of_ne_nil hsn
              obtain ⟨sl', hsl'⟩ : ∃ z, (s0 :: rest).getLast? = some z := ⟨_, List.getLast?_eq_some_getLast (by simp)⟩
              have e3 : (s0 :: rest).getLastD 0 = sl' := by rw [List.getLastD_eq_getLast?, hsl']; rfl
              have e4 : ((s0 :: rest).map D.int).getLast? = some (.int sl') := by rw [List.getLast?_map, hsl']; rfl
              rw [e3] at e0
              refine sw_cons ?_
              refine sw_if ?_
              refine tw_mid (!decide (s0 = 0) || decide (t < sl')) ?_ ?_
              · refine tw_bool ?_
                refine bw_or ?_
                refine tw_cmp (nomark _) ?_
                refine ew_ix ?_
                refine ew_name 2 rfl ?_
                refine ew_int ?_
                refine ⟨_, _, rfl, itm_lst (j := 0) rfl rfl, ?_⟩
                refine ew_int ?_
                refine o_neI ?_
                refine ⟨_, rfl, ?_⟩
                refine ifB (fun h => ?_) (fun h => ?_)
                · rw [h]
                  exact ⟨rfl, rfl⟩
                · rw [h, Bool.false_or]
                  refine bw_or1 ?_
                  refine tw_cmp (nomark _) ?_
                  refine ew_ix ?_
                  refine ew_name 2 rfl ?_
                  refine ew_neg ?_
                  refine ew_int ?_
                  refine ⟨_, rfl, ?_⟩
                  refine ⟨_, _, rfl, (by show (atI _ _).map W.dat = _; rw [atI_m1 e4]; rfl), ?_⟩
                  refine ew_name 1 rfl ?_
                  refine o_gt ?_
                  exact ⟨_, rfl, rfl, rfl⟩
              · refine ifB (fun h3 => ?_) (fun h3 => ?_)
                · refine sw_cons ?_
                  refine sw_ret ?_
                  refine ew_bl ?_
                  have : arePieces d t = false := by
                    rw [e0]
                    show (!(!decide (s0 = 0) || decide (t < sl')) && _) = false
                    rw [h3]
                    rfl
                  rw [this] at q2
                  exact q2
                · have e5 : arePieces d t = (ascS (s0 :: rest)).all id := by
                    rw [e0]
                    show (!(!decide (s0 = 0) || decide (t < sl')) && _) = _
                    rw [h3]
                    rfl
                  rw [e5] at q2
                  refine sw_nil ?_
                  refine sw_cons ?_
                  refine sw_ret ?_
                  refine ew_blt bt_all B.all ?_
                  refine aw_cons ?_
                  refine ew_lc (own := [("at", 4)]) (tb := false) (is := [4]) rfl sc_are_pieces.nd (blkOk_by (N := n_are_pieces) (sc := defScope s_are_pieces) (by decide +kernel)) (fun _ _ _ _ _ => pg_name (i := 4) sc_are_pieces.nd rfl (Or.inl rfl)) (by decide) ?_
                  refine lcj_pure ((ascS (s0 :: rest)).map D.bl) (szl (by unfold ascS; rw [List.length_map, List.length_map, List.length_range]; omega)) ?_ ?_
                  · refine iw_range1 B.range ?_
                    refine aw_cons ?_
                    refine ew_bin ?_
                    refine ew_blt bt_len B.len ?_
                    refine aw_cons ?_
                    refine ew_name 2 rfl ?_
                    refine aw_nil ?_
                    refine c_len rfl ?_
                    rw [List.length_map]
                    refine ew_int ?_
                    refine o_sub ?_
                    refine aw_nil ?_
                    refine ⟨_, rfl, by omega, by omega, rfl, ?_, fun k w' y hw hy => ⟨_, rfl, ?_⟩⟩
                    · rw [rng_length]
                      unfold ascS
                      rw [List.length_map, List.length_map, List.length_range]
                      have : 0 < (s0 :: rest).length := Nat.succ_pos _
                      omega
                    · obtain ⟨hk, rfl⟩ := getElem?_rng hw
                      have hk1 : k + 1 < (s0 :: rest).length := by omega
                      have hk0 : k < (s0 :: rest).length := by omega
                      have g0 : (s0 :: rest)[k]? = some (s0 :: rest)[k] := List.getElem?_eq_getElem hk0
                      have g1 : (s0 :: rest)[k + 1]? = some (s0 :: rest)[k + 1] := List.getElem?_eq_getElem hk1
                      have ey : y = .bl (decide ((s0 :: rest)[k] < (s0 :: rest)[k + 1])) := by
                        unfold ascS at hy
                        rw [List.map_map, List.getElem?_map, List.getElem?_range (by omega)] at hy
                        have := (Option.some.inj hy).symm
                        rw [this]
                        show D.bl (decide ((s0 :: rest).getD k 0 < (s0 :: rest).getD (k + 1) 0)) = _
                        rw [List.getD_eq_getElem?_getD, List.getD_eq_getElem?_getD, g0, g1]
                        rfl
                      subst ey
                      intro G1 sb Hb Cb cl fp
                      refine ew_cmp (nomark _) ?_
                      refine ew_ix ?_
                      refine ew_name 2 rfl ?_
                      refine ew_name 4 rfl ?_
                      refine ⟨_, _, rfl, itm_lst (j := k) (by omega) (by rw [List.getElem?_map, g0]; rfl), ?_⟩
                      refine ew_ix ?_
                      refine ew_name 2 rfl ?_
                      refine ew_bin ?_
                      refine ew_name 4 rfl ?_
                      refine ew_int ?_
                      refine o_add ?_
                      refine ⟨_, _, rfl, itm_lst (j := k + 1) (by omega) (by rw [List.getElem?_map, g1]; rfl), ?_⟩
                      refine o_lt ?_
                      exact ⟨rfl, rfl⟩
                  · refine aw_nil ?_
                    refine c_all rfl ?_
                    exact q2
theorem mkErr_ip {X : Cx} {C fI : Addr} (T : PySem.LowX_ip.LowTxt X.K X.mg C fI) : MkErr X "InvalidPassage" "word" C := fun a ta p pos k hr ha hg he hpl => pmk_low_ip T hr.r ha hg he hpl
theorem fldErr_ip {X : Cx} {C fI : Addr} (T : PySem.LowX_ip.LowTxt X.K X.mg C fI) : FldErr X "word" C := fun ad dx oe pn e te pos hz hv he hb => pe_byLow_ip T hz hv he hb
end Kf
namespace Kf
open PySem PySem.Spec L2 StX ClX Dn
open PyProof.Rows hiding St
variable {P : Program} {w : World} {K : PySem.W.Frag} {mg : Str → Option Value} {base : Heap}
def fsP (t g : Int) (ps : List Pc) : List (Str × D) := [("top", .int t), ("target", .int g), ("pieces", .tup (ps.map pcD))]
def psgD (C : Addr) (t g : Int) (ps : List Pc) : D := .ins C (fsP t g ps)
theorem fsP_top (t g : Int) (ps : List Pc) : (fsP t g ps).lookup ("top" : Str) = some (D.int t) := by simp [fsP, List.lookup]
theorem ne_tt : (("target" : Str) == ("top" : Str)) = false := by decide +kernel
theorem ne_pt : (("pieces" : Str) == ("top" : Str)) = false := by decide +kernel
theorem ne_pg : (("pieces" : Str) == ("target" : Str)) = false := by decide +kernel
theorem fsP_target (t g : Int) (ps : List Pc) : (fsP t g ps).lookup ("target" : Str) = some (D.int g) := by simp [fsP, List.lookup, ne_tt]
theorem fsP_pieces (t g : Int) (ps : List Pc) : (fsP t g ps).lookup ("pieces" : Str) = some (D.tup (ps.map pcD)) := by simp [fsP, List.lookup, ne_pt, ne_pg]
structure PTxt (K : PySem.W.Frag) (C : Addr) : Prop where
  cls : Cls K C
  no_top : NoAttr K C "top"
  no_target : NoAttr K C "target"
  no_pieces : NoAttr K C "pieces"
def Pl2 (d : D) : Prop := (∃ n, tyOf d = some n) ∧ ∀ xs, seqOf d = some xs → xs.length ≤ 1000 ∧ ∀ x ∈ xs, Pl1 x
theorem map_pcD_inj : ∀ {ps qs : List Pc}, ps.map pcD = qs.map pcD → ps = qs
  | [], [], _ => rfl
  | [], _ :: _, h => by cases h
  | _ :: _, [], h => by cases h
  | (a, b, c) :: ps, (x, y, z) :: qs, h => by
    rw [List.map_cons, List.map_cons] at h
    injection h with h1 h2
    injection h1 with h1
    injection h1 with e1 h1
    injection h1 with e2 h1
    injection h1 with e3 _
    injection e1 with e1
    injection e2 with e2
    injection e3 with e3
    rw [map_pcD_inj h2]
    simp only at e1 e2 e3
    rw [e1, e2, e3]
def F_init (C CE : Addr) : FT := fun args st Ret Exc => ∃ j dt dg dp, args = [.ptr j, .dat dt, .dat dg, .dat dp] ∧ st[j]? = some (.ins C []) ∧ (∃ n, tyOf dt = some n) ∧ (∃ n, tyOf dg = some n) ∧ Pl2 dp ∧
  (isNum dt = false → Exc (.ref CE) [("word", .str "top")] st) ∧ (isNum dt = true → isNum dg = false → Exc (.ref CE) [("word", .str "target")] st) ∧
  (∀ t g, dt = .int t → dg = .int g → 0 ≤ t → 0 ≤ g → (arePieces dp t = false → Exc (.ref CE) [("word", .str "pieces")] st) ∧
    (arePieces dp t = true → ∀ ps, PcsD dp ps → ps.length ≤ 1000 → (stays g 0 (stretchF ps t) = false → Exc (.ref CE) [("word", .str "pieces")] st) ∧
      (stays g 0 (stretchF ps t) = true → Ret (.dat .non) (st.set j (.ins C ((fsP t g (normalF (stretchF ps t))).map fun q => (q.1, W.dat q.2)))))))
theorem setF_len (f : Str) (x : W) : ∀ fs : List (Str × W), (setF f x fs).length ≤ fs.length + 1
  | [] => Nat.le_refl _
  | (g, y) :: r => by
    unfold setF
    split
    · exact Nat.le_succ _
    · rw [List.length_cons, List.length_cons]
      exact Nat.succ_le_succ (setF_len f x r)
theorem setF3 (t g d : D) : setF "pieces" (.dat d) (setF "target" (.dat g) (setF "top" (.dat t) [])) = ([("top", W.dat t), ("target", W.dat g), ("pieces", W.dat d)] : List (Str × W)) := by
  have e1 : ¬ (("top" : Str) = "target") := by decide +kernel
  have e2 : ¬ (("top" : Str) = "pieces") := by decide +kernel
  have e3 : ¬ (("target" : Str) = "pieces") := by decide +kernel
  simp [setF, e1, e2, e3]
theorem isNum_eq {d : D} (h : isNum d = true) : ∃ i, d = .int i ∧ 0 ≤ i := by
  cases d <;> first | exact ⟨_, rfl, of_decide_eq_true h⟩ | cases h
theorem arePieces_eq {d : D} {t : Int} (h : arePieces d t = true) : ∃ ps, PcsD d ps ∧ ps ≠ [] := by
  unfold arePieces at h
  cases hs : seqOf d with
  | none => rw [hs] at h; cases h
  | some xs =>
    rw [hs] at h
    simp only [Bool.and_eq_true] at h
    obtain ⟨ps, rfl, _⟩ := all_pieces h.1.1.2
    refine ⟨ps, ?_, ?_⟩
    · cases d <;> first | (cases hs; exact .inl rfl) | (cases hs; exact .inr rfl) | cases hs
    · rintro rfl
      exact absurd h.1.1.1 (by decide)
theorem PcsD.seq {d : D} {ps : List Pc} (h : PcsD d ps) : seqOf d = some (ps.map pcD) := by rcases h with rfl | rfl <;> rfl
theorem ok_init {f C CE : Addr} {fd : FuncData} (T : PTxt K C) {fI : Addr} (TE : PySem.LowX_ip.LowTxt K mg CE fI) (C_is_number : Cal P w K mg base 1 "is_number" F_is_number) (C_are_pieces : Cal P w K mg base 3 "are_pieces" F_are_pieces) (C_stretches : Cal P w K mg base 1 "stretches" F_stretches)
    (C_stays_within : Cal P w K mg base 3 "stays_within" F_stays_within) (C_normal : Cal P w K mg base 3 "normal" F_normal) (Fn : Fun K "__init__" "Passage.__init__" s_init f fd) (b : Binds K fd p_init []) : FnG P w K mg base (L2.CX P w) 4 f (spD K (F_init C CE)) := by
  refine fnD Fn sc_init b (fun args st0 Ret Exc h => ?_) ?_
  · obtain ⟨j, dt, dg, dp, rfl, _⟩ := h
    rfl
  intro cdv A outer s H E H0 Al args st0 Ret Exc hr xk hp hal hcl hF
  obtain ⟨j, dt, dg, dp, rfl, hj, ⟨n1, hn1⟩, ⟨n2, hn2⟩, ⟨⟨n3, hn3⟩, hpl⟩, x1, x2, x3⟩ := hF
  have hjl : j < st0.length := (List.getElem?_eq_some_iff.mp hj).1
  refine sw_cons ?_
  refine sw_if ?_
  refine tw_not ?_
  refine tw_val ?_
  refine ew_call C_is_number hr (by decide) xk ?_
  refine aw_cons ?_
  refine ew_name 1 rfl ?_
  refine aw_nil ?_
  refine ⟨dt, n1, rfl, hn1, ?_⟩
  refine ⟨_, rfl, ?_⟩
  refine ifN (fun h1 => ?_) (fun h1 => ?_)
  · refine sw_cons ?_
    refine sw_raise1 (mkErr_ip TE) hr xk ?_
    refine ew_str ?_
    exact ⟨_, rfl, kxE_of hcl (x1 h1)⟩
  · refine sw_nil ?_
    refine sw_cons ?_
    refine sw_if ?_
    refine tw_not ?_
    refine tw_val ?_
    refine ew_call C_is_number hr (by decide) xk ?_
    refine aw_cons ?_
    refine ew_name 2 rfl ?_
    refine aw_nil ?_
    refine ⟨dg, n2, rfl, hn2, ?_⟩
    refine ⟨_, rfl, ?_⟩
    refine ifN (fun h2 => ?_) (fun h2 => ?_)
    · refine sw_cons ?_
      refine sw_raise1 (mkErr_ip TE) hr xk ?_
      refine ew_str ?_
      exact ⟨_, rfl, kxE_of hcl (x2 h1 h2)⟩
    · obtain ⟨t, rfl, ht⟩ := isNum_eq h1
      obtain ⟨g, rfl, hg⟩ := isNum_eq h2
      obtain ⟨y1, y2⟩ := x3 t g rfl rfl ht hg
      refine sw_nil ?_
      refine sw_cons ?_
      refine sw_if ?_
      refine tw_not ?_
      refine tw_val ?_
      refine ew_call C_are_pieces hr (by decide) xk ?_
      refine aw_cons ?_
      refine ew_name 3 rfl ?_
      refine aw_cons ?_
      refine ew_name 1 rfl ?_
      refine aw_nil ?_
      refine ⟨dp, t, rfl, ⟨n3, hn3⟩, hpl, ?_⟩
      refine ⟨_, rfl, ?_⟩
      refine ifN (fun h3 => ?_) (fun h3 => ?_)
      · refine sw_cons ?_
        refine sw_raise1 (mkErr_ip TE) hr xk ?_
        refine ew_str ?_
        exact ⟨_, rfl, kxE_of hcl (y1 h3)⟩
      · obtain ⟨ps, hps, hne⟩ := arePieces_eq h3
        have hlen : ps.length ≤ 1000 := by
          have := (hpl _ hps.seq).1
          rwa [List.length_map] at this
        obtain ⟨z1, z2⟩ := y2 h3 ps hps hlen
        refine sw_nil ?_
        refine sw_cons ?_
        refine sw_set 4 ?_ sc_init.nd
        refine ew_call C_stretches hr (by decide) xk ?_
        refine aw_cons ?_
        refine ew_name 3 rfl ?_
        refine aw_cons ?_
        refine ew_name 1 rfl ?_
        refine aw_nil ?_
        refine ⟨dp, ps, t, rfl, hps, hlen, ?_⟩
        refine sw_cons ?_
        refine sw_if ?_
        refine tw_not ?_
        refine tw_val ?_
        refine ew_call C_stays_within hr (by decide) xk ?_
        refine aw_cons ?_
        refine ew_name 4 rfl ?_
        refine aw_cons ?_
        refine ew_name 2 rfl ?_
        refine aw_nil ?_
        refine ⟨_, _, rfl, ?_⟩
        refine ⟨_, rfl, ?_⟩
        refine ifN (fun h4 => ?_) (fun h4 => ?_)
        · refine sw_cons ?_
          refine sw_raise1 (mkErr_ip TE) hr xk ?_
          refine ew_str ?_
          exact ⟨_, rfl, kxE_of hcl (z1 h4)⟩
        · have q := z2 h4
          refine sw_nil ?_
          refine sw_cons ?_
          refine sw_fld ?_
          refine ew_name 1 rfl ?_
          refine ew_name 0 rfl ?_
          refine ⟨_, _, _, rfl, hj, T.cls, T.no_top, by decide, ?_⟩
          refine sw_cons ?_
          refine sw_fld ?_
          refine ew_name 2 rfl ?_
          refine ew_name 0 rfl ?_
          refine ⟨_, _, _, rfl, List.getElem?_set_self hjl, T.cls, T.no_target, Nat.lt_of_le_of_lt (setF_len _ _ _) (by decide), ?_⟩
          refine sw_cons ?_
          refine sw_fld ?_
          refine ew_call C_normal hr (by decide) xk ?_
          refine aw_cons ?_
          refine ew_name 4 rfl ?_
          refine aw_nil ?_
          refine ⟨_, rfl, by rw [stretchF_length]; exact hlen, ?_⟩
          refine ew_name 0 rfl ?_
          refine ⟨_, _, _, rfl, List.getElem?_set_self (by rw [List.length_set]; exact hjl), T.cls, T.no_pieces, Nat.lt_of_le_of_lt (setF_len _ _ _) (Nat.lt_of_le_of_lt (Nat.succ_le_succ (setF_len _ _ _)) (by decide)), ?_⟩
          refine sw_nil ?_
          rw [List.set_set, List.set_set, setF3]
          refine ⟨_, [], (List.append_nil _).symm, by rw [List.length_set]; exact Nat.le_refl _, clos_set hcl ?_, trivial, q⟩
          intro p hp'
          simp only [List.mem_cons, List.not_mem_nil, or_false] at hp'
          rcases hp' with rfl | rfl | rfl <;> trivial
theorem F_init_ok {C CE : Addr} {st : List Ob} {t g : Int} {dp : D} {ps : List Pc} {Φ : WK} {Exc : XKD} (hc : Clos st) (ht : 0 ≤ t) (hg : 0 ≤ g) (hp : PcsD dp ps) (hl : ps.length ≤ 1000) (ha : arePieces dp t = true) (hs : stays g 0 (stretchF ps t) = true)
    (h : Φ (.dat (psgD C t g (normalF (stretchF ps t)))) st) : F_init C CE [.ptr st.length, .dat (.int t), .dat (.int g), .dat dp] (st ++ [.ins C []]) (MkK C st.length Φ) Exc := by
  refine ⟨_, _, _, _, rfl, at_end, ⟨_, rfl⟩, ⟨_, rfl⟩, ⟨?_, fun xs hx => ?_⟩, fun z => ?_, fun _ z => ?_, fun t' g' e1 e2 _ _ => ⟨fun z => ?_, fun _ ps' hp' _ => ⟨fun z => ?_, fun _ => ?_⟩⟩⟩
  · rcases hp with rfl | rfl <;> exact ⟨_, rfl⟩
  · rw [hp.seq] at hx
    cases hx
    refine ⟨by rw [List.length_map]; exact hl, fun x hx => ?_⟩
    obtain ⟨p, _, rfl⟩ := List.mem_map.mp hx
    refine ⟨⟨_, rfl⟩, fun xs e => ?_⟩
    cases e
    refine ⟨by show 3 ≤ 1000; decide, fun x hx => ?_⟩
    simp only [List.mem_cons, List.not_mem_nil, or_false] at hx
    rcases hx with rfl | rfl | rfl <;> exact ⟨_, rfl⟩
  · have : decide (0 ≤ t) = false := z
    rw [decide_eq_true ht] at this
    cases this
  · have : decide (0 ≤ g) = false := z
    rw [decide_eq_true hg] at this
    cases this
  · cases e1
    rw [ha] at z
    cases z
  all_goals
    cases e1
    cases e2
    have epp : ps' = ps := by
      have := hp'.seq.symm.trans hp.seq
      have := Option.some.inj this
      exact map_pcD_inj this
    subst epp
  · rw [hs] at z
    cases z
  · rw [set_end]
    exact ⟨rfl, st, _, rfl, rfl, hc, h⟩
end Kf
namespace Kf
open PySem PySem.Spec L2 StX ClX Dn
open PyProof.Rows hiding St
variable {P : Program} {w : World} {K : PySem.W.Frag} {mg : Str → Option Value} {base : Heap}
def tabFrom (k : Int) : List D → List Pc
  | [] => []
  | x :: xs => (k, intOf x, false) :: tabFrom (k + 1) xs
def rowsFrom (k : Int) : List D → List Row
  | [] => []
  | x :: xs => (k, k, intOf x, false) :: rowsFrom (k + 1) xs
theorem tabFrom_length : ∀ (k : Int) (xs : List D), (tabFrom k xs).length = xs.length
  | _, [] => rfl
  | k, x :: xs => by
    show (tabFrom (k + 1) xs).length + 1 = _
    rw [tabFrom_length (k + 1) xs]
    rfl
theorem tabFrom_get : ∀ (k : Int) (xs : List D) (i : Nat) (x : D), xs[i]? = some x → (tabFrom k xs)[i]? = some (k + i, intOf x, false)
  | k, y :: xs, 0, x, h => by
    simp at h
    subst h
    show some (k, intOf y, false) = some (k + ((0 : Nat) : Int), intOf y, false)
    simp
  | k, y :: xs, i + 1, x, h => by
    have h2 := tabFrom_get (k + 1) xs i x (by simpa using h)
    show (tabFrom (k + 1) xs)[i]? = _
    rw [h2]
    have : k + 1 + (i : Int) = k + ((i + 1 : Nat) : Int) := by omega
    rw [this]
theorem stretch_tab : ∀ (k : Int) (xs : List D), stretchF (tabFrom k xs) (k + (xs.length : Int) - 1) = rowsFrom k xs
  | k, [] => rfl
  | k, [x] => by
    show [(k, k + ((0 + 1 : Nat) : Int) - 1, intOf x, false)] = [(k, k, intOf x, false)]
    have : k + ((0 + 1 : Nat) : Int) - 1 = k := by omega
    rw [this]
  | k, x :: y :: xs => by
    have h := stretch_tab (k + 1) (y :: xs)
    have e : k + ((x :: y :: xs).length : Int) - 1 = k + 1 + ((y :: xs).length : Int) - 1 := by
      rw [List.length_cons]
      omega
    rw [e]
    show (k, k + 1 - 1, intOf x, false) :: stretchF (tabFrom (k + 1) (y :: xs)) (k + 1 + ((y :: xs).length : Int) - 1) = (k, k, intOf x, false) :: rowsFrom (k + 1) (y :: xs)
    rw [h, Int.add_sub_cancel]
theorem stays_tab (g : Int) : ∀ (xs : List D) (k last : Int), (∀ x, xs.head? = some x → last ≤ intOf x) → (∀ i x y, xs[i]? = some x → xs[i + 1]? = some y → intOf x ≤ intOf y) → (∀ x ∈ xs, intOf x ≤ g) → last ≤ g → stays g last (rowsFrom k xs) = true
  | [], k, last, _, _, _, h => decide_eq_true h
  | x :: xs, k, last, h1, h2, h3, _ => by
    show (if intOf x < last then false else stays g (lastRow (k, k, intOf x, false)) (rowsFrom (k + 1) xs)) = true
    have := h1 x rfl
    rw [if_neg (by omega)]
    exact stays_tab g xs (k + 1) (intOf x) (fun y hy => by
      cases xs with
      | nil => cases hy
      | cons z r =>
        cases hy
        exact h2 0 x _ rfl rfl) (fun i a b ha hb => h2 (i + 1) a b (by simpa using ha) (by simpa using hb)) (fun y hy => h3 y (List.mem_cons_of_mem _ hy)) (h3 x List.mem_cons_self)
theorem isTable_tells {d : D} {g : Int} {xs : List D} (h : isTable d g = true) (hs : seqOf d = some xs) : xs ≠ [] ∧ (∀ x ∈ xs, ∃ z, x = .int z ∧ 0 ≤ z ∧ z ≤ g) ∧ ∀ (i : Nat) (x y : D), xs[i]? = some x → xs[i + 1]? = some y → intOf x ≤ intOf y := by
  unfold isTable at h
  rw [hs] at h
  simp only [Bool.and_eq_true] at h
  obtain ⟨⟨h1, h2⟩, h3⟩ := h
  refine ⟨?_, fun x hx => ?_, fun i x y hx hy => ?_⟩
  · rintro rfl
    cases h1
  · have := List.all_eq_true.mp h2 (isVal x g) (List.mem_map_of_mem hx)
    obtain ⟨z, rfl⟩ : ∃ z, x = .int z := by
      cases x <;> first | exact ⟨_, rfl⟩ | cases this
    have : (decide (0 ≤ z) && decide (z ≤ g)) = true := this
    rw [Bool.and_eq_true] at this
    exact ⟨z, rfl, of_decide_eq_true this.1, of_decide_eq_true this.2⟩
  · have hi : i + 1 < xs.length := (List.getElem?_eq_some_iff.mp hy).1
    have := List.all_eq_true.mp h3 (decide (intOf (xs.getD i .non) ≤ intOf (xs.getD (i + 1) .non))) (by
      unfold ascB
      exact List.mem_map_of_mem (List.mem_range.mpr (by omega)))
    rw [List.getD_eq_getElem?_getD, List.getD_eq_getElem?_getD, hx, hy] at this
    exact of_decide_eq_true this
theorem tab_starts (xs : List D) : (tabFrom 0 xs).map (·.1) = (List.range xs.length).map fun (i : Nat) => (i : Int) := by
  apply List.ext_getElem?
  intro i
  rw [List.getElem?_map, List.getElem?_map]
  by_cases hi : i < xs.length
  · rw [tabFrom_get 0 xs i xs[i] (List.getElem?_eq_getElem hi), List.getElem?_range hi]
    simp
  · rw [List.getElem?_eq_none (by rw [tabFrom_length]; omega), List.getElem?_eq_none (by rw [List.length_range]; omega)]
    rfl
theorem tab_pieces {xs : List D} {t : Int} (hne : xs ≠ []) (h : ∀ x ∈ xs, ∃ z, x = .int z ∧ 0 ≤ z) (ht : (xs.length : Int) - 1 ≤ t) : arePieces (.lst ((tabFrom 0 xs).map pcD)) t = true := by
  have hp : 0 < xs.length := List.length_pos_iff.mpr hne
  unfold arePieces
  show (!((tabFrom 0 xs).map pcD).isEmpty && (((tabFrom 0 xs).map pcD).map isPieceD).all id && !(!decide ((((tabFrom 0 xs).map pcD).map startOf).headD 0 = 0) || decide (t < (((tabFrom 0 xs).map pcD).map startOf).getLastD 0)) && (ascS (((tabFrom 0 xs).map pcD).map startOf)).all id) = true
  have es : ((tabFrom 0 xs).map pcD).map startOf = (List.range xs.length).map fun (i : Nat) => (i : Int) := by
    rw [← tab_starts, List.map_map]
    rfl
  have e1 : ((tabFrom 0 xs).map pcD).isEmpty = false := by
    cases xs with
    | nil => exact absurd rfl hne
    | cons x r => rfl
  have e2 : (((tabFrom 0 xs).map pcD).map isPieceD).all id = true := by
    rw [List.all_eq_true]
    intro b hb
    rw [List.map_map] at hb
    obtain ⟨p, hp', rfl⟩ := List.mem_map.mp hb
    obtain ⟨i, hi, e⟩ := List.mem_iff_getElem.mp hp'
    rw [tabFrom_length] at hi
    have := tabFrom_get 0 xs i xs[i] (List.getElem?_eq_getElem hi)
    rw [List.getElem?_eq_getElem (by rw [tabFrom_length]; exact hi), e] at this
    have := Option.some.inj this
    subst this
    obtain ⟨z, hz, hz0⟩ := h xs[i] (List.getElem_mem _)
    rw [hz]
    show (decide ((0 : Int) ≤ 0 + (i : Int)) && decide (0 ≤ z)) = true
    rw [decide_eq_true hz0, decide_eq_true (by omega)]
    rfl
  have e3 : ((List.range xs.length).map fun (i : Nat) => (i : Int)).headD 0 = 0 := by
    obtain ⟨n, hn⟩ : ∃ n, xs.length = n + 1 := ⟨xs.length - 1, by omega⟩
    rw [hn, List.range_succ_eq_map]
    rfl
  have e4 : ((List.range xs.length).map fun (i : Nat) => (i : Int)).getLastD 0 = (xs.length : Int) - 1 := by
    obtain ⟨n, hn⟩ : ∃ n, xs.length = n + 1 := ⟨xs.length - 1, by omega⟩
    rw [hn, List.range_succ, List.map_append, List.getLastD_eq_getLast?]
    simp
  have e5 : (ascS ((List.range xs.length).map fun (i : Nat) => (i : Int))).all id = true := by
    rw [List.all_eq_true]
    intro b hb
    unfold ascS at hb
    obtain ⟨i, hi, rfl⟩ := List.mem_map.mp hb
    rw [List.length_map, List.length_range, List.mem_range] at hi
    rw [List.getD_eq_getElem?_getD, List.getD_eq_getElem?_getD, List.getElem?_map, List.getElem?_map, List.getElem?_range (by omega), List.getElem?_range (by omega)]
    exact decide_eq_true (by show (i : Int) < ((i + 1 : Nat) : Int); omega)
  have e6 : decide (t < (xs.length : Int) - 1) = false := decide_eq_false (by omega)
  rw [es, e1, e2, e3, e4, e5, e6]
  rfl
theorem isTable_pos {d : D} {g : Int} {xs : List D} (h : isTable d g = true) (hs : seqOf d = some xs) : stays g 0 (stretchF (tabFrom 0 xs) ((xs.length : Int) - 1)) = true := by
  obtain ⟨hne, h1, h2⟩ := isTable_tells h hs
  have := stretch_tab 0 xs
  rw [Int.zero_add] at this
  rw [this]
  refine stays_tab g xs 0 0 (fun x hx => ?_) h2 (fun x hx => ?_) ?_
  · obtain ⟨z, rfl, hz, _⟩ := h1 x (List.mem_of_head? hx)
    exact hz
  · obtain ⟨z, rfl, _, hz⟩ := h1 x hx
    exact hz
  · obtain ⟨x, r, rfl⟩ := List.exists_cons_of_ne_nil hne
    obtain ⟨z, _, hz, hz2⟩ := h1 x List.mem_cons_self
    omega
def F_table (C CE : Addr) : FT := fun args st Ret Exc => ∃ dv dg, args = [.dat (.adr C), .dat dv, .dat dg] ∧ (∃ n, tyOf dv = some n) ∧ (∀ xs, seqOf dv = some xs → xs.length ≤ 1000 ∧ ∀ x ∈ xs, ∃ t, tyOf x = some t) ∧ (∃ n, tyOf dg = some n) ∧
  (isNum dg = false → Exc (.ref CE) [("word", .str "target")] st) ∧
  (∀ g, dg = .int g → 0 ≤ g → (isTable dv g = false → Exc (.ref CE) [("word", .str "values")] st) ∧
    (isTable dv g = true → ∀ xs, seqOf dv = some xs → Ret (.dat (psgD C ((xs.length : Int) - 1) g (normalF (rowsFrom 0 xs)))) st))
theorem ok_table {f C CE : Addr} {fd : FuncData} (B : Bl mg) {fI : Addr} (TE : PySem.LowX_ip.LowTxt K mg CE fI) (C_is_number : Cal P w K mg base 1 "is_number" F_is_number) (C_is_table : Cal P w K mg base 3 "is_table" F_is_table)
    (M : Mak P w K mg base 4 "Passage" C (F_init C CE)) (Fn : Fun K "table" "Passage.table" s_table f fd) (b : Binds K fd p_table []) : FnG P w K mg base (L2.CX P w) 6 f (spD K (F_table C CE)) := by
  refine fnD Fn sc_table b (fun args st0 Ret Exc h => ?_) ?_
  · obtain ⟨dv, dg, rfl, _⟩ := h
    rfl
  intro cdv A outer s H E H0 Al args st0 Ret Exc hr xk hp hal hcl hF
  obtain ⟨dv, dg, rfl, ⟨n1, hn1⟩, hk, ⟨n2, hn2⟩, x1, x2⟩ := hF
  refine sw_cons ?_
  refine sw_if ?_
  refine tw_not ?_
  refine tw_val ?_
  refine ew_call C_is_number hr (by decide) xk ?_
  refine aw_cons ?_
  refine ew_name 2 rfl ?_
  refine aw_nil ?_
  refine ⟨dg, n2, rfl, hn2, ?_⟩
  refine ⟨_, rfl, ?_⟩
  refine ifN (fun h1 => ?_) (fun h1 => ?_)
  · refine sw_cons ?_
    refine sw_raise1 (mkErr_ip TE) hr xk ?_
    refine ew_str ?_
    exact ⟨_, rfl, kxE_of hcl (x1 h1)⟩
  · obtain ⟨g, rfl, hg⟩ := isNum_eq h1
    obtain ⟨y1, y2⟩ := x2 g rfl hg
    refine sw_nil ?_
    refine sw_cons ?_
    refine sw_if ?_
    refine tw_not ?_
    refine tw_val ?_
    refine ew_call C_is_table hr (by decide) xk ?_
    refine aw_cons ?_
    refine ew_name 1 rfl ?_
    refine aw_cons ?_
    refine ew_name 2 rfl ?_
    refine aw_nil ?_
    refine ⟨dv, n1, g, rfl, hn1, hk, ?_⟩
    refine ⟨_, rfl, ?_⟩
    refine ifN (fun h2 => ?_) (fun h2 => ?_)
    · refine sw_cons ?_
      refine sw_raise1 (mkErr_ip TE) hr xk ?_
      refine ew_str ?_
      exact ⟨_, rfl, kxE_of hcl (y1 h2)⟩
    · obtain ⟨xs, hxs⟩ : ∃ xs, seqOf dv = some xs := by
        unfold isTable at h2
        cases hs : seqOf dv with
        | none => rw [hs] at h2; cases h2
        | some xs => exact ⟨xs, rfl⟩
      have q := y2 h2 xs hxs
      obtain ⟨hlen, _⟩ := hk xs hxs
      obtain ⟨hne, hz, hasc⟩ := isTable_tells h2 hxs
      have hpos : 0 < xs.length := List.length_pos_iff.mpr hne
      have hL : ∀ st, Len st (.dat dv) = some xs.length := fun st => by cases dv <;> first | (cases hxs; rfl) | cases hxs
      refine sw_nil ?_
      refine sw_cons ?_
      refine sw_ret ?_
      refine ew_mkL 0 rfl M hr (by decide) xk ?_
      refine aw_cons ?_
      refine ew_bin ?_
      refine ew_blt bt_len B.len ?_
      refine aw_cons ?_
      refine ew_name 1 rfl ?_
      refine aw_nil ?_
      refine c_len (hL _) ?_
      refine ew_int ?_
      refine o_sub ?_
      refine aw_cons ?_
      refine ew_name 2 rfl ?_
      refine aw_cons ?_
      refine ew_lc (own := [("x", 3), ("value", 4)]) (tb := true) (is := [3, 4]) rfl sc_table.nd (blkOk_by (N := n_table) (sc := defScope s_table) (by decide +kernel)) (fun _ _ _ _ _ => pg_tup rfl (pgs_cons (pg_name (i := 3) sc_table.nd rfl (Or.inl rfl)) (pgs_cons (pg_name (i := 4) sc_table.nd rfl (Or.inl rfl)) (pgs_nil)))) (by decide) ?_
      refine lcj_pure ((tabFrom 0 xs).map pcD) (szl (by rw [List.length_map, tabFrom_length]; omega)) ?_ ?_
      · cases dv <;> first | (cases hxs; done) | cases hxs
        all_goals first | (refine iw_enum B.enumerate ?_; refine aw_cons ?_; refine ew_name 1 rfl ?_; refine aw_nil ?_; refine ⟨_, rfl, rfl, by rw [enm_length, List.length_map, tabFrom_length], fun k w' y hw hy => ?_⟩) | (refine iw_enumT B.enumerate ?_; refine aw_cons ?_; refine ew_name 1 rfl ?_; refine aw_nil ?_; refine ⟨_, rfl, rfl, by rw [enm_length, List.length_map, tabFrom_length], fun k w' y hw hy => ?_⟩)
        all_goals
          obtain ⟨x, hxk, rfl⟩ := getElem?_enm hw
          refine ⟨_, rfl, ?_⟩
          rw [List.getElem?_map, tabFrom_get 0 xs k x hxk] at hy
          have ey : y = pcD (0 + (k : Int), intOf x, false) := (Option.some.inj hy).symm
          subst ey
          obtain ⟨z, rfl, _⟩ := hz x (List.mem_of_getElem? hxk)
          intro G1 sb Hb Cb cl fp
          refine ew_tup ?_
          refine aw_cons ?_
          refine ew_name 3 rfl ?_
          refine aw_cons ?_
          refine ew_name 4 rfl ?_
          refine aw_cons ?_
          refine ew_bl ?_
          refine aw_nil ?_
          refine ⟨_, rfl, (by show 3 ≤ sizeLine; decide), ?_, rfl⟩
          rw [Int.zero_add]
          rfl
      · refine aw_nil ?_
        have est : stretchF (tabFrom 0 xs) ((xs.length : Int) - 1) = rowsFrom 0 xs := by
          have := stretch_tab 0 xs
          rwa [Int.zero_add] at this
        refine F_init_ok hcl (by omega) hg (.inl rfl) (by rw [tabFrom_length]; exact hlen) (tab_pieces hne (fun x hx => let ⟨z, e, h0, _⟩ := hz x hx; ⟨z, e, h0⟩) (Int.le_refl _)) (isTable_pos h2 hxs) ?_
        rw [est]
        exact krE_of hcl q
def F_same (C : Addr) : FT := fun args st Ret _ => ∃ n : Int, args = [.dat (.adr C), .dat (.int n)] ∧ 0 ≤ n ∧ Ret (.dat (psgD C n n [(0, 0, decide (0 < n))])) st
theorem ok_same {f C CE : Addr} {fd : FuncData} (M : Mak P w K mg base 4 "Passage" C (F_init C CE)) (Fn : Fun K "same" "Passage.same" s_same f fd) (b : Binds K fd p_same []) : FnG P w K mg base (L2.CX P w) 6 f (spD K (F_same C)) := by
  refine fnD Fn sc_same b (fun args st0 Ret Exc h => ?_) ?_
  · obtain ⟨n, rfl, _⟩ := h
    rfl
  intro cdv A outer s H E H0 Al args st0 Ret Exc hr xk hp hal hcl hF
  obtain ⟨n, rfl, hn, q⟩ := hF
  refine sw_cons ?_
  refine sw_ret ?_
  refine ew_mkL 0 rfl M hr (by decide) xk ?_
  refine aw_cons ?_
  refine ew_name 1 rfl ?_
  refine aw_cons ?_
  refine ew_name 1 rfl ?_
  refine aw_cons ?_
  refine ew_lst ?_
  refine aw_cons ?_
  refine ew_tup ?_
  refine aw_cons ?_
  refine ew_int ?_
  refine aw_cons ?_
  refine ew_int ?_
  refine aw_cons ?_
  refine ew_bl ?_
  refine aw_nil ?_
  refine ⟨_, rfl, (by show 3 ≤ sizeLine; decide), ?_⟩
  refine aw_nil ?_
  refine ⟨_, rfl, (by show 1 ≤ sizeLine; decide), ?_⟩
  refine aw_nil ?_
  have e1 : normalF (stretchF [((0 : Int), (0 : Int), true)] n) = [(0, 0, decide (0 < n))] := by
    show (nstep ([], 0, none) (0, n, 0, true)).1 = _
    unfold nstep nfin nps nsl nlow joins
    simp only [List.isEmpty_nil, Bool.not_true, Bool.false_and, Bool.false_eq_true, if_false, if_pos hn]
    by_cases h : 0 < n
    · rw [if_pos h, decide_eq_true h]
      rfl
    · rw [if_neg h, decide_eq_false h]
      rfl
  refine F_init_ok (ps := [(0, 0, true)]) hcl hn hn (.inl rfl) (by decide) ?_ ?_ ?_
  · unfold arePieces
    show (true && (true && true) && !(!decide ((0 : Int) = 0) || decide (n < 0)) && true) = true
    have e : decide (n < 0) = false := decide_eq_false (by omega)
    rw [e]
    rfl
  · show (if (0 : Int) < 0 then false else decide (lastRow (0, n, 0, true) ≤ n)) = true
    rw [if_neg (by decide)]
    refine decide_eq_true ?_
    show (0 : Int) + (n - 0) ≤ n
    omega
  · rw [e1]
    exact krE_of hcl q
def F_pcall (C : Addr) : FT := fun args st Ret _ => ∃ t g ps x, args = [.dat (psgD C t g ps), .dat (.int x)] ∧ 0 ≤ x ∧ x ≤ t ∧ ps ≠ [] ∧ ps.length ≤ 1000 ∧ Ret (.dat (.int (valAt ps x))) st
theorem ok_pcall {f C : Addr} {fd : FuncData} (T : PTxt K C) (C_is_value : Cal P w K mg base 2 "is_value" F_is_value) (C_value_at : Cal P w K mg base 1 "value_at" F_value_at) (Fn : Fun K "__call__" "Passage.__call__" s_call f fd) (b : Binds K fd p_call []) : FnG P w K mg base (L2.CX P w) 3 f (spD K (F_pcall C)) := by
  refine fnD Fn sc_call b (fun args st0 Ret Exc h => ?_) ?_
  · obtain ⟨t, g, ps, x, rfl, _⟩ := h
    rfl
  intro cdv A outer s H E H0 Al args st0 Ret Exc hr xk hp hal hcl hF
  obtain ⟨t, g, ps, x, rfl, h0, h1, hne, hlen, q⟩ := hF
  refine sw_cons ?_
  refine sw_if ?_
  refine tw_not ?_
  refine tw_val ?_
  refine ew_call C_is_value hr (by decide) xk ?_
  refine aw_cons ?_
  refine ew_name 1 rfl ?_
  refine aw_cons ?_
  refine ew_fld ?_
  refine ew_name 0 rfl ?_
  refine ⟨_, _, _, rfl, T.cls, T.no_top, fsP_top t g ps, ?_⟩
  refine aw_nil ?_
  refine ⟨_, _, _, rfl, rfl, ?_⟩
  refine ⟨_, rfl, ?_⟩
  have hv : isVal (.int x) t = true := by
    show (decide (0 ≤ x) && decide (x ≤ t)) = true
    rw [decide_eq_true h0, decide_eq_true h1]
    rfl
  refine ifF (by rw [hv]; rfl) ?_
  refine sw_nil ?_
  refine sw_cons ?_
  refine sw_ret ?_
  refine ew_call C_value_at hr (by decide) xk ?_
  refine aw_cons ?_
  refine ew_fld ?_
  refine ew_name 0 rfl ?_
  refine ⟨_, _, _, rfl, T.cls, T.no_pieces, fsP_pieces t g ps, ?_⟩
  refine aw_cons ?_
  refine ew_name 1 rfl ?_
  refine aw_nil ?_
  exact ⟨_, ps, x, rfl, .inr rfl, hne, hlen, krE_of hcl q⟩
end Kf
namespace Kf
open PySem PySem.Spec L2 StX ClX Dn
open PyProof.Rows hiding St
variable {P : Program} {w : World} {K : PySem.W.Frag} {mg : Str → Option Value} {base : Heap}
def bx (a b : Int) : Ob := .lst [.dat (.int a), .dat (.int b)]
def F_choose : FT := fun args st Ret _ => ∃ (j : Nat) (a b many : Int), args = [.ptr j, .dat (.int many)] ∧ st[j]? = some (bx a b) ∧ 0 < many ∧ many < 18446744073709551616 ∧ ∀ r a' b' : Int, 0 ≤ r → r < many → Ret (.dat (.int r)) (st.set j (bx a' b'))
theorem bx_clo {n : Nat} (a b : Int) : Clo n (bx a b) := fun w hw => by
  simp only [List.mem_cons, List.not_mem_nil, or_false] at hw
  rcases hw with rfl | rfl <;> trivial
theorem krE_set {st st' : List Ob} {Ret : WK} {d : D} (hl : st.length = st'.length) (hc : Clos st') (h : Ret (.dat d) st') : KrE st Ret (.dat d) st' := ⟨st', [], by simp, Nat.le_of_eq hl, hc, trivial, h⟩
theorem fmod_rng {i m : Int} (h : 0 < m) : 0 ≤ i.fmod m ∧ i.fmod m < m := ⟨Int.fmod_nonneg_of_pos _ h, Int.fmod_lt_of_pos _ h⟩
theorem ok_choose {f : Addr} {fd : FuncData} (B : Bl mg) (Fn : Fun K "_law_choose" "_law_choose" s__law_choose f fd) (b : Binds K fd p__law_choose []) : FnG P w K mg base (L2.CX P w) 1 f (spD K F_choose) := by
  refine fnD Fn sc__law_choose b (fun args st0 Ret Exc h => ?_) ?_
  · obtain ⟨j, a, b, m, rfl, _⟩ := h
    rfl
  intro cdv A outer s H E H0 Al args st0 Ret Exc hr xk hp hal hcl hF
  obtain ⟨j, a, b, m, rfl, hj, hm0, hm1, q⟩ := hF
  have hjl := (List.getElem?_eq_some_iff.mp hj).1
  have q' : ∀ r a' b' : Int, 0 ≤ r → r < m → KrE st0 Ret (.dat (.int r)) (st0.set j (bx a' b')) := fun r a' b' h1 h2 => krE_set (by rw [List.length_set]) (clos_set hcl (bx_clo _ _)) (q r a' b' h1 h2)
  refine sw_cons ?_
  refine sw_if ?_
  refine tw_cmp (nomark _) ?_
  refine ew_ix ?_
  refine ew_name 0 rfl ?_
  refine ew_int ?_
  refine ⟨_, _, rfl, itm_ptr (j := 0) hj rfl rfl, ?_⟩
  refine ew_int ?_
  refine o_gt ?_
  refine ⟨_, rfl, ?_⟩
  refine ifB (fun h => ?_) (fun h => ?_)
  · refine sw_cons ?_
    refine sw_set 3 ?_ sc__law_choose.nd
    refine ew_bin ?_
    refine ew_bty bt_int B.int ?_
    refine aw_cons ?_
    refine ew_ix ?_
    refine ew_name 0 rfl ?_
    refine ew_int ?_
    refine ⟨_, _, rfl, itm_ptr (j := 0) hj rfl rfl, ?_⟩
    refine aw_nil ?_
    refine c_int ?_
    refine ew_name 1 rfl ?_
    refine o_mod (by omega) ?_
    refine sw_cons ?_
    refine sw_asg ?_
    refine ew_bin ?_
    refine ew_ix ?_
    refine ew_name 0 rfl ?_
    refine ew_int ?_
    refine ⟨_, _, rfl, itm_ptr (j := 0) hj rfl rfl, ?_⟩
    refine ew_name 1 rfl ?_
    refine o_divL (divL_of hm0 hm1) ?_
    refine gw_sub ?_
    refine ew_name 0 rfl ?_
    refine ew_int ?_
    refine ⟨_, _, 0, _, rfl, rfl, hj, rfl, ?_⟩
    refine sw_cons ?_
    refine sw_ret ?_
    refine ew_name 3 rfl ?_
    exact q' _ _ _ (fmod_rng hm0).1 (fmod_rng hm0).2
  · refine sw_nil ?_
    refine sw_cons ?_
    refine sw_set 2 ?_ sc__law_choose.nd
    refine ew_bin ?_
    refine ew_bty bt_int B.int ?_
    refine aw_cons ?_
    refine ew_bin ?_
    refine ew_bin ?_
    refine ew_ix ?_
    refine ew_name 0 rfl ?_
    refine ew_int ?_
    refine ⟨_, _, rfl, itm_ptr (j := 1) hj rfl rfl, ?_⟩
    refine ew_int ?_
    refine o_mul (.inr (by decide)) ?_
    refine ew_int ?_
    refine o_add ?_
    refine aw_nil ?_
    refine c_int ?_
    refine ew_int ?_
    refine o_mod (by decide) ?_
    refine sw_cons ?_
    refine sw_asg ?_
    refine ew_bin ?_
    refine ew_bin ?_
    refine ew_bty bt_int B.int ?_
    refine aw_cons ?_
    refine ew_bin ?_
    refine ew_bin ?_
    refine ew_name 2 rfl ?_
    refine ew_int ?_
    refine o_mul (.inr (by decide)) ?_
    refine ew_int ?_
    refine o_add ?_
    refine aw_nil ?_
    refine c_int ?_
    refine ew_int ?_
    refine o_mod (by decide) ?_
    refine ew_int ?_
    refine o_add ?_
    refine gw_sub ?_
    refine ew_name 0 rfl ?_
    refine ew_int ?_
    refine ⟨_, _, 1, _, rfl, rfl, hj, rfl, ?_⟩
    refine sw_cons ?_
    refine sw_ret ?_
    refine ew_bin ?_
    refine ew_bty bt_int B.int ?_
    refine aw_cons ?_
    refine ew_bin ?_
    refine ew_bin ?_
    refine ew_bin ?_
    refine ew_name 2 rfl ?_
    refine ew_int ?_
    refine o_mul (.inr (by decide)) ?_
    refine ew_ix ?_
    refine ew_name 0 rfl ?_
    refine ew_int ?_
    refine ⟨_, _, rfl, itm_ptr (j := 1) (List.getElem?_set_self hjl) rfl rfl, ?_⟩
    refine o_add ?_
    refine ew_int ?_
    refine o_div ⟨by decide, by decide⟩ ?_
    refine aw_nil ?_
    refine c_int ?_
    refine ew_name 1 rfl ?_
    refine o_mod (by omega) ?_
    exact q' _ _ _ (fmod_rng hm0).1 (fmod_rng hm0).2
def F_one_of : FT := fun args st Ret _ => ∃ (j : Nat) (a b : Int) (xs : List D), args = [.ptr j, .dat (.lst xs)] ∧ st[j]? = some (bx a b) ∧ 0 < xs.length ∧ xs.length ≤ 1000 ∧ ∀ (x : D) (a' b' : Int), x ∈ xs → Ret (.dat x) (st.set j (bx a' b'))
theorem ok_one_of {f : Addr} {fd : FuncData} (B : Bl mg) (C_choose : Cal P w K mg base 1 "_law_choose" F_choose) (Fn : Fun K "_law_one_of" "_law_one_of" s__law_one_of f fd) (b : Binds K fd p__law_one_of []) : FnG P w K mg base (L2.CX P w) 2 f (spD K F_one_of) := by
  refine fnD Fn sc__law_one_of b (fun args st0 Ret Exc h => ?_) ?_
  · obtain ⟨j, a, b, m, rfl, _⟩ := h
    rfl
  intro cdv A outer s H E H0 Al args st0 Ret Exc hr xk hp hal hcl hF
  obtain ⟨j, a, b, xs, rfl, hj, h0, h1, q⟩ := hF
  refine sw_cons ?_
  refine sw_ret ?_
  refine ew_ix ?_
  refine ew_name 1 rfl ?_
  refine ew_call C_choose hr (by decide) xk ?_
  refine aw_cons ?_
  refine ew_name 0 rfl ?_
  refine aw_cons ?_
  refine ew_blt bt_len B.len ?_
  refine aw_cons ?_
  refine ew_name 1 rfl ?_
  refine aw_nil ?_
  refine c_len rfl ?_
  refine aw_nil ?_
  refine ⟨j, a, b, _, rfl, hj, by omega, by omega, fun r a' b' hr0 hr1 => ?_⟩
  have hrl : r.toNat < xs.length := by omega
  refine ⟨_, _, rfl, itm_lst (j := r.toNat) (by omega) (List.getElem?_eq_getElem hrl), ?_⟩
  exact krE_set (by rw [List.length_set]) (clos_set hcl (bx_clo _ _)) (q _ a' b' (List.getElem_mem hrl))
def F_seed : FT := fun args st Ret _ => ∃ (ns : List Int) (k : Int), args = [.dat (.scr ns), .dat (.int k)] ∧ 0 ≤ k ∧ ∀ a b : Int, Ret (.ptr st.length) (st ++ [bx a b])
theorem ok_seed {f : Addr} {fd : FuncData} (B : Bl mg) (Fn : Fun K "_law_seed" "_law_seed" s__law_seed f fd) (b : Binds K fd p__law_seed []) : FnG P w K mg base (L2.CX P w) 1 f (spD K F_seed) := by
  refine fnD Fn sc__law_seed b (fun args st0 Ret Exc h => ?_) ?_
  · obtain ⟨ns, k, rfl, _⟩ := h
    rfl
  intro cdv A outer s H E H0 Al args st0 Ret Exc hr xk hp hal hcl hF
  obtain ⟨ns, k, rfl, hk, q⟩ := hF
  have q' : ∀ a b : Int, KrE st0 Ret (.ptr st0.length) (st0 ++ [.lst [.dat (.int a), .dat (.int b)]]) := fun a b => ⟨st0 ++ [bx a b], [], by simp [bx], by simp, clos_add hcl (bx_clo _ _), by show st0.length < _; simp, q a b⟩
  refine sw_cons ?_
  refine sw_set 2 ?_ sc__law_seed.nd
  refine ew_bin ?_
  refine ew_bin ?_
  refine ew_int ?_
  refine ew_name 1 rfl ?_
  refine o_mul (.inl (by decide)) ?_
  refine ew_int ?_
  refine o_add ?_
  refine sw_cut (fun sl st => st = st0 ∧ ∃ c : Int, sl = [some (.dat (.scr ns)), some (.dat (.int k)), some (.dat (.int c))]) ?_ ?_
  · refine sw_if ?_
    refine tw_cmp (nomark _) ?_
    refine ew_name 1 rfl ?_
    refine ew_blt bt_len B.len ?_
    refine aw_cons ?_
    refine ew_name 0 rfl ?_
    refine aw_nil ?_
    refine c_len rfl ?_
    refine o_lt ?_
    refine ⟨_, rfl, ?_⟩
    refine ifD (fun h => ?_) (fun h => ?_)
    · have hk2 : k.toNat < ns.length := by omega
      refine sw_cons ?_
      refine sw_set 2 ?_ sc__law_seed.nd
      refine ew_blt bt_abs B.abs ?_
      refine aw_cons ?_
      refine ew_ix ?_
      refine ew_name 0 rfl ?_
      refine ew_name 1 rfl ?_
      refine ⟨_, _, rfl, itm_scr (j := k.toNat) (by omega) (List.getElem?_eq_getElem hk2), ?_⟩
      refine aw_nil ?_
      refine c_abs ?_
      refine sw_nil ?_
      exact ⟨rfl, _, rfl⟩
    · refine sw_cons ?_
      refine sw_if ?_
      refine tw_cmp (nomark _) ?_
      refine ew_blt bt_len B.len ?_
      refine aw_cons ?_
      refine ew_name 0 rfl ?_
      refine aw_nil ?_
      refine c_len rfl ?_
      refine ew_int ?_
      refine o_gt ?_
      refine ⟨_, rfl, ?_⟩
      refine ifD (fun h => ?_) (fun h => ?_)
      · have h' : (0 : Int) < (ns.length : Int) := h
        obtain ⟨m0, m1⟩ := fmod_rng (i := k) h'
        have hk2 : (k.fmod (ns.length : Int)).toNat < ns.length := by omega
        refine sw_cons ?_
        refine sw_set 2 ?_ sc__law_seed.nd
        refine ew_bin ?_
        refine ew_name 2 rfl ?_
        refine ew_bin ?_
        refine ew_bin ?_
        refine ew_bty bt_int B.int ?_
        refine aw_cons ?_
        refine ew_blt bt_abs B.abs ?_
        refine aw_cons ?_
        refine ew_ix ?_
        refine ew_name 0 rfl ?_
        refine ew_bin ?_
        refine ew_bty bt_int B.int ?_
        refine aw_cons ?_
        refine ew_name 1 rfl ?_
        refine aw_nil ?_
        refine c_int ?_
        refine ew_blt bt_len B.len ?_
        refine aw_cons ?_
        refine ew_name 0 rfl ?_
        refine aw_nil ?_
        refine c_len rfl ?_
        refine o_mod (by omega) ?_
        refine ⟨_, _, rfl, itm_scr (j := (k.fmod (ns.length : Int)).toNat) (by omega) (List.getElem?_eq_getElem hk2), ?_⟩
        refine aw_nil ?_
        refine c_abs ?_
        refine aw_nil ?_
        refine c_int ?_
        refine ew_int ?_
        refine o_mod (by decide) ?_
        refine ew_int ?_
        refine o_mul (.inr (by decide)) ?_
        refine o_add ?_
        refine sw_nil ?_
        refine sw_nil ?_
        exact ⟨rfl, _, rfl⟩
      · refine sw_nil ?_
        refine sw_nil ?_
        exact ⟨rfl, _, rfl⟩
  · rintro sl st ⟨rfl, c, rfl⟩
    refine sw_cons ?_
    refine sw_ret ?_
    refine ew_lstM ?_
    refine aw_cons ?_
    refine ew_mid' (fun w => ∃ z : Int, w = .dat (.int z)) ?_ ?_
    · refine ew_if ?_
      refine tw_cmp (nomark _) ?_
      refine ew_name 2 rfl ?_
      refine ew_bin ?_
      refine ew_int ?_
      refine ew_int ?_
      refine o_pow ⟨by decide, by decide, by decide⟩ ?_
      refine o_ge ?_
      refine ⟨_, rfl, ?_⟩
      refine ifB (fun h => ?_) (fun h => ?_)
      · refine ew_name 2 rfl ?_
        exact ⟨⟨_, rfl⟩, rfl⟩
      · refine ew_int ?_
        exact ⟨⟨_, rfl⟩, rfl⟩
    rintro _ ⟨z, rfl⟩
    refine aw_cons ?_
    refine ew_bin ?_
    refine ew_bin ?_
    refine ew_bty bt_int B.int ?_
    refine aw_cons ?_
    refine ew_bin ?_
    refine ew_bin ?_
    refine ew_bin ?_
    refine ew_bty bt_int B.int ?_
    refine aw_cons ?_
    refine ew_name 2 rfl ?_
    refine aw_nil ?_
    refine c_int ?_
    refine ew_int ?_
    refine o_mod (by decide) ?_
    refine ew_int ?_
    refine o_mul (.inr (by decide)) ?_
    refine ew_bin ?_
    refine ew_int ?_
    refine ew_name 1 rfl ?_
    refine o_mul (.inl (by decide)) ?_
    refine o_add ?_
    refine aw_nil ?_
    refine c_int ?_
    refine ew_int ?_
    refine o_mod (by decide) ?_
    refine ew_int ?_
    refine o_add ?_
    refine aw_nil ?_
    refine ⟨by show 2 ≤ sizeLine; decide, ?_⟩
    exact q' _ _
end Kf
namespace Kf
open PySem PySem.Spec L2 StX ClX Dn
open PyProof.Rows hiding St
variable {P : Program} {w : World} {K : PySem.W.Frag} {mg : Str → Option Value} {base : Heap}
theorem set_self {st : List Ob} {j : Nat} {o : Ob} (h : st[j]? = some o) : st.set j o = st := by
  obtain ⟨h1, h2⟩ := List.getElem?_eq_some_iff.mp h
  rw [← h2]
  exact List.set_getElem_self h1
theorem set_app {st g : List Ob} {j : Nat} {o : Ob} (h : j < st.length) : (st ++ g).set j o = st.set j o ++ g := List.set_append_left _ _ h
theorem cutL_from {α : Type} (xs : List α) (k : Nat) : cutL xs (some (k : Int)) none = xs.drop k := by
  unfold cutL
  rw [HT.sIx_none, HT.sIx_nat]
  by_cases h : k ≤ xs.length
  · rw [Nat.min_eq_left h, List.take_of_length_le (by rw [List.length_drop]; exact Nat.le_refl _)]
  · rw [Nat.min_eq_right (by omega), List.drop_length, List.drop_eq_nil_of_le (by omega), List.take_nil]
theorem cutL_to {α : Type} (xs : List α) (k : Nat) : cutL xs none (some (k : Int)) = xs.take k := by
  unfold cutL
  rw [HT.sIx_none, HT.sIx_nat, List.drop_zero, Nat.sub_zero]
  by_cases h : k ≤ xs.length
  · rw [Nat.min_eq_left h]
  · rw [Nat.min_eq_right (by omega), List.take_length, List.take_of_length_le (by omega)]
abbrev obW (zs : List Int) : Ob := .lst ((zs.map D.int).map W.dat)
theorem datsInt : ∀ (zs : List Int), datsOf ((zs.map D.int).map W.dat) = some (zs.map D.int)
  | [] => rfl
  | z :: zs => by
    show (datsOf ((zs.map D.int).map W.dat)).map _ = _
    rw [datsInt zs]
    rfl
theorem canLay_ints : ∀ zs : List Int, PyData.canLayAll0 (zs.map PyData.int) = true
  | [] => rfl
  | z :: zs => by
    simp only [List.map_cons, PyData.canLayAll0, PyData.canLay0, canLay_ints zs, Bool.and_self]
theorem depth_ints : ∀ zs : List Int, PyData.depthAll (zs.map PyData.int) = 0
  | [] => rfl
  | z :: zs => by
    simp only [List.map_cons, PyData.depthAll, PyData.depth, depth_ints zs, Nat.max_self]
theorem shaped_ints (zs : List Int) : SeqAt.shaped (.list (zs.map PyData.int)) = true := by
  unfold SeqAt.shaped
  simp [PyData.canLay0, PyData.depth, canLay_ints, depth_ints]
theorem toPys_ints : ∀ zs : List Int, toPys (zs.map D.int) = some (zs.map PyData.int)
  | [] => rfl
  | z :: zs => by
    show (match toPy (.int z) with | none => none | some p => (toPys (zs.map D.int)).map (p :: ·)) = _
    rw [toPys_ints zs]
    rfl
theorem toPy_ints (zs : List Int) : toPy (.lst (zs.map D.int)) = some (.list (zs.map PyData.int)) := by
  show (toPys (zs.map D.int)).map _ = _
  rw [toPys_ints]
  rfl
theorem eqv_nil (ps : List PyData) : PyData.eqv (.list ps) (.list []) = ps.isEmpty := by
  cases ps <;> rfl
theorem set_take_drop {α : Type} {xs : List α} {n : Nat} (h : n < xs.length) (x : α) : xs.take n ++ [x] ++ xs.drop (n + 1) = xs.set n x := by
  rw [List.set_eq_take_append_cons_drop, if_pos h]
  simp
end Kf
namespace Kf
open PySem PySem.Spec L2 StX ClX Dn
open PyProof.Rows hiding St
variable {P : Program} {w : World} {K : PySem.W.Frag} {mg : Str → Option Value} {base : Heap}
def TabZ (g : Int) (zs : List Int) : Prop := (∀ z ∈ zs, 0 ≤ z ∧ z ≤ g) ∧ ∀ (i : Nat) (x y : Int), zs[i]? = some x → zs[i + 1]? = some y → x ≤ y
theorem tabZ_add {g : Int} {zs : List Int} {x : Int} (h : TabZ g zs) (hx : 0 ≤ x ∧ x ≤ g) (hl : ∀ z, zs.getLast? = some z → z ≤ x) : TabZ g (zs ++ [x]) := by
  refine ⟨fun z hz => ?_, fun i a b ha hb => ?_⟩
  · rcases List.mem_append.mp hz with z1 | z1
    · exact h.1 z z1
    · rcases List.mem_singleton.mp z1 with rfl
      exact hx
  · have hi := (List.getElem?_eq_some_iff.mp hb).1
    rw [List.length_append, List.length_singleton] at hi
    by_cases h1 : i + 1 < zs.length
    · rw [List.getElem?_append_left (by omega)] at ha
      rw [List.getElem?_append_left h1] at hb
      exact h.2 i a b ha hb
    · have e : i + 1 = zs.length := by omega
      rw [List.getElem?_append_left (by omega)] at ha
      rw [e, List.getElem?_append_right (Nat.le_refl _), Nat.sub_self] at hb
      have hb : x = b := Option.some.inj hb
      subst hb
      refine hl a ?_
      rw [List.getLast?_eq_getElem?, ← e]
      exact ha
theorem tabZ_last {g : Int} {zs : List Int} (h : TabZ g zs) (hg : 0 ≤ g) (n : Nat) (hn : zs.length = n + 1) : TabZ g (zs.set n g) := by
  refine ⟨fun z hz => ?_, fun i a b ha hb => ?_⟩
  · rcases List.mem_or_eq_of_mem_set hz with z1 | rfl
    · exact h.1 z z1
    · exact ⟨hg, Int.le_refl _⟩
  · have hi := (List.getElem?_eq_some_iff.mp hb).1
    rw [List.length_set] at hi
    rw [List.getElem?_set_ne (by omega)] at ha
    by_cases h1 : i + 1 = n
    · rw [h1, List.getElem?_set_self (by omega)] at hb
      cases hb
      exact (h.1 a (List.mem_of_getElem? ha)).2
    · rw [List.getElem?_set_ne (by omega)] at hb
      exact h.2 i a b ha hb
theorem tabZ_zero {g : Int} {zs : List Int} (h : TabZ g zs) (hg : 0 ≤ g) : TabZ g (0 :: zs.drop 1) := by
  refine ⟨fun z hz => ?_, fun i a b ha hb => ?_⟩
  · rcases List.mem_cons.mp hz with rfl | hz
    · exact ⟨Int.le_refl _, hg⟩
    · exact h.1 z (List.mem_of_mem_drop hz)
  · cases i with
    | zero =>
      cases ha
      rw [List.getElem?_cons_succ] at hb
      exact (h.1 b (List.mem_of_mem_drop (List.mem_of_getElem? hb))).1
    | succ i =>
      rw [List.getElem?_cons_succ, List.getElem?_drop] at ha hb
      exact h.2 (1 + i) a b ha (by rw [← hb]; congr 1)
def F_ltable : FT := fun args st Ret _ => ∃ (j : Nat) (a b top g : Int), args = [.ptr j, .dat (.int top), .dat (.int g)] ∧ st[j]? = some (bx a b) ∧ 0 ≤ top ∧ top ≤ 900 ∧ 0 ≤ g ∧
  ∀ (a' b' : Int) (zs : List Int), TabZ g zs → (zs.length : Int) = top + 1 → Ret (.dat (.lst (zs.map D.int))) (st.set j (bx a' b'))
theorem ok_ltable {f : Addr} {fd : FuncData} (B : Bl mg) (C_choose : Cal P w K mg base 1 "_law_choose" F_choose) (C_one_of : Cal P w K mg base 2 "_law_one_of" F_one_of) (Fn : Fun K "_law_table" "_law_table" s__law_table f fd) (b : Binds K fd p__law_table []) : FnG P w K mg base (L2.CX P w) 3 f (spD K F_ltable) := by
  refine fnD Fn sc__law_table b (fun args st0 Ret Exc h => ?_) ?_
  · obtain ⟨j, a, b, m, g, rfl, _⟩ := h
    rfl
  intro cdv A outer s H E H0 Al args st0 Ret Exc hr xk hp hal hcl hF
  obtain ⟨j, a, b, top, g, rfl, hj, ht0, ht1, hg, q⟩ := hF
  have hjl := (List.getElem?_eq_some_iff.mp hj).1
  have q' : ∀ (a' b' : Int) (zs : List Int), TabZ g zs → (zs.length : Int) = top + 1 → KrE st0 Ret (.dat (.lst (zs.map D.int))) (st0.set j (bx a' b') ++ [.gone]) := fun a' b' zs h1 h2 => ⟨st0.set j (bx a' b'), [.gone], rfl, by simp, clos_set hcl (bx_clo _ _), trivial, q a' b' zs h1 h2⟩
  have q2' : ∀ (a' b' : Int) (zs ys : List Int), TabZ g zs → (zs.length : Int) = top + 1 → KrE st0 Ret (.dat (.lst (zs.map D.int))) (st0.set j (bx a' b') ++ [obW ys]) := fun a' b' zs ys h1 h2 => ⟨st0.set j (bx a' b'), [obW ys], rfl, by simp, clos_set hcl (bx_clo _ _), trivial, q a' b' zs h1 h2⟩
  refine sw_cons ?_
  refine sw_par 5 6 rfl ?_ sc__law_table.nd
  refine aw_cons ?_
  refine ew_lstM ?_
  refine aw_nil ?_
  refine ⟨by decide, ?_⟩
  refine aw_cons ?_
  refine ew_midS (fun w st => ∃ z a' b' : Int, w = .dat (.int z) ∧ st = st0.set j (bx a' b') ++ [obW []] ∧ 0 ≤ z ∧ z ≤ g) ?_ ?_
  · refine ew_if ?_
    refine tw_cmp (nomark _) ?_
    refine ew_name 2 rfl ?_
    refine ew_int ?_
    refine o_gt ?_
    refine ⟨_, rfl, ?_⟩
    refine ifD (fun h => ?_) (fun h => ?_)
    · refine ew_call C_choose hr (by decide) xk ?_
      refine aw_cons ?_
      refine ew_name 0 rfl ?_
      refine aw_cons ?_
      refine ew_int ?_
      refine aw_nil ?_
      refine ⟨j, a, b, 3, rfl, ?_, by decide, by decide, fun r a' b' hr0 hr1 => ?_⟩
      · rw [List.getElem?_append_left hjl]
        exact hj
      · refine ⟨r, a', b', rfl, ?_, hr0, by omega⟩
        rw [set_app hjl]
        rfl
    · refine ew_int ?_
      refine ⟨0, a, b, rfl, ?_, Int.le_refl _, hg⟩
      rw [show st0.set j (bx a b) = st0 from set_self hj]
      rfl
  rintro _ _ ⟨z0, a0, b0, rfl, rfl, hz0, hz1⟩
  refine aw_nil ?_
  refine ⟨_, _, rfl, ?_⟩
  refine sw_cut (fun sl st => ∃ (a' b' : Int) (zs : List Int) (x1 x2 x3 x4 : Option W), sl = [some (.ptr j), some (.dat (.int top)), some (.dat (.int g)), x1, x2, some (.ptr st0.length), x3, x4] ∧ st = st0.set j (bx a' b') ++ [obW zs] ∧ TabZ g zs ∧ (zs.length : Int) = top + 1) ?_ ?_
  · refine sw_for hp rfl ?_
    refine iw_range1 B.range ?_
    refine aw_cons ?_
    refine ew_bin ?_
    refine ew_name 1 rfl ?_
    refine ew_int ?_
    refine o_add ?_
    refine aw_nil ?_
    refine ⟨_, rfl, by omega, by omega, ?_⟩
    refine ⟨fun i sl st => ∃ (a' b' last : Int) (zs : List Int) (x1 x2 x4 : Option W), sl = [some (.ptr j), some (.dat (.int top)), some (.dat (.int g)), x1, x2, some (.ptr st0.length), some (.dat (.int last)), x4] ∧ st = st0.set j (bx a' b') ++ [obW zs] ∧ TabZ g zs ∧ zs.length = i ∧ 0 ≤ last ∧ last ≤ g ∧ ∀ z, zs.getLast? = some z → z ≤ last, ?_, fun i w sl st hw hI => ?_, fun sl st hI => ?_⟩
    · refine ⟨a0, b0, z0, [], none, none, none, ?_, rfl, ⟨fun z hz => by simp at hz, fun i x y hx => by simp at hx⟩, rfl, hz0, hz1, fun z hz => by simp at hz⟩
      have : (st0 ++ [obW []]).length - 1 = st0.length := by simp
      rfl
    · obtain ⟨a', b', last, zs, x1, x2, x4, rfl, rfl, hT, hl, h0, h1, h2⟩ := hI
      obtain ⟨hi, rfl⟩ := getElem?_rng hw
      have hsl : (st0.set j (bx a' b')).length = st0.length := List.length_set
      refine gw_name 3 ?_ sc__law_table.nd
      refine sw_cons ?_
      refine sw_expr ?_
      refine ew_append ?_
      refine ew_name 5 rfl ?_
      refine ⟨_, _, rfl, (by rw [← hsl]; exact at_end), ?_⟩
      refine ew_name 6 rfl ?_
      refine ⟨_, (by rw [← hsl]; exact at_end), (by rw [List.length_map, List.length_map, hl]; exact szl (by omega)), ?_⟩
      rw [show (st0.set j (bx a' b') ++ [obW zs]).set st0.length (.lst ((zs.map D.int).map W.dat ++ [.dat (.int last)])) = st0.set j (bx a' b') ++ [obW (zs ++ [last])] by rw [← hsl, set_end]; simp [obW]]
      refine sw_cons ?_
      refine sw_set 7 ?_ sc__law_table.nd
      refine ew_call C_one_of hr (by decide) xk ?_
      refine aw_cons ?_
      refine ew_name 0 rfl ?_
      refine aw_cons ?_
      refine ew_lst ?_
      iterate 7
        refine aw_cons ?_
        refine ew_int ?_
      refine aw_nil ?_
      refine ⟨_, rfl, (by show 7 ≤ sizeLine; decide), ?_⟩
      refine aw_nil ?_
      refine ⟨j, a', b', _, rfl, ?_, by decide, by decide, fun x a2 b2 hx => ?_⟩
      · rw [List.getElem?_append_left (by omega)]
        exact List.getElem?_set_self hjl
      rw [set_app (by omega), List.set_set]
      obtain ⟨stp, rfl, hs0⟩ : ∃ z : Int, x = .int z ∧ 0 ≤ z := by
        simp only [List.mem_cons, List.not_mem_nil, or_false] at hx
        rcases hx with rfl | rfl | rfl | rfl | rfl | rfl | rfl <;> exact ⟨_, rfl, by decide⟩
      refine sw_cons ?_
      refine sw_set 6 ?_ sc__law_table.nd
      refine ew_blt bt_min B.min ?_
      refine aw_cons ?_
      refine ew_bty bt_int B.int ?_
      refine aw_cons ?_
      refine ew_name 2 rfl ?_
      refine aw_nil ?_
      refine c_int ?_
      refine aw_cons ?_
      refine ew_bty bt_int B.int ?_
      refine aw_cons ?_
      refine ew_bin ?_
      refine ew_name 6 rfl ?_
      refine ew_name 7 rfl ?_
      refine o_add ?_
      refine aw_nil ?_
      refine c_int ?_
      refine aw_nil ?_
      refine c_min rfl ?_
      refine sw_nil ?_
      have hm : 0 ≤ (if last + stp < g then last + stp else g) ∧ (if last + stp < g then last + stp else g) ≤ g ∧ last ≤ (if last + stp < g then last + stp else g) := by
        split <;> omega
      refine ⟨a2, b2, _, zs ++ [last], _, _, _, rfl, rfl, tabZ_add hT ⟨h0, h1⟩ h2, by rw [List.length_append, hl]; rfl, hm.1, hm.2.1, fun z hz => ?_⟩
      rw [List.getLast?_append] at hz
      have hz : last = z := Option.some.inj hz
      subst hz
      exact hm.2.2
    · obtain ⟨a', b', last, zs, x1, x2, x4, rfl, rfl, hT, hl, _⟩ := hI
      refine ⟨a', b', zs, _, _, _, _, rfl, rfl, hT, ?_⟩
      rw [hl, rng_length]
      omega
  rintro sl st ⟨a', b', zs, x1, x2, x3, x4, rfl, rfl, hT, hl⟩
  have hsl : (st0.set j (bx a' b')).length = st0.length := List.length_set
  refine sw_cons ?_
  refine sw_set 4 ?_ sc__law_table.nd
  refine ew_call C_choose hr (by decide) xk ?_
  refine aw_cons ?_
  refine ew_name 0 rfl ?_
  refine aw_cons ?_
  refine ew_int ?_
  refine aw_nil ?_
  refine ⟨j, a', b', 4, rfl, ?_, by decide, by decide, fun r a2 b2 hr0 hr1 => ?_⟩
  · rw [List.getElem?_append_left (by omega)]
    exact List.getElem?_set_self hjl
  rw [set_app (by omega), List.set_set]
  have hsl2 : (st0.set j (bx a2 b2)).length = st0.length := List.length_set
  obtain ⟨n, hn⟩ : ∃ n, zs.length = n + 1 := ⟨zs.length - 1, by omega⟩
  refine sw_cut (fun sl st => ∃ zs : List Int, sl = [some (.ptr j), some (.dat (.int top)), some (.dat (.int g)), x1, some (.dat (.int r)), some (.ptr st0.length), x3, x4] ∧ st = st0.set j (bx a2 b2) ++ [obW zs] ∧ TabZ g zs ∧ (zs.length : Int) = top + 1) ?_ ?_
  · refine sw_if ?_
    refine tw_cmp (nomark _) ?_
    refine ew_name 4 rfl ?_
    refine ew_int ?_
    refine o_eqI ?_
    refine ⟨_, rfl, ?_⟩
    refine ifB (fun h => ?_) (fun h => ?_)
    · refine sw_cons ?_
      refine sw_asg ?_
      refine ew_name 2 rfl ?_
      refine gw_sub ?_
      refine ew_name 5 rfl ?_
      refine ew_neg ?_
      refine ew_int ?_
      refine ⟨_, rfl, ?_⟩
      refine ⟨_, _, _, _, rfl, rfl, (by rw [← hsl2]; exact at_end), (by rw [List.length_map, List.length_map]; exact ixN_m1 (by omega)), ?_⟩
      refine sw_nil ?_
      refine ⟨zs.set n g, rfl, ?_, tabZ_last hT hg n hn, by rw [List.length_set]; exact hl⟩
      rw [← hsl2, set_end, hn]
      simp [obW, List.map_set]
    · refine sw_nil ?_
      exact ⟨zs, rfl, rfl, hT, hl⟩
  rintro sl st ⟨zs, rfl, rfl, hT, hl⟩
  refine sw_cons ?_
  refine sw_if ?_
  refine tw_cmp (nomark _) ?_
  refine ew_name 4 rfl ?_
  refine ew_int ?_
  refine o_eqI ?_
  refine ⟨_, rfl, ?_⟩
  refine ifB (fun h => ?_) (fun h => ?_)
  · refine sw_cons ?_
    refine sw_set 5 ?_ sc__law_table.nd
    refine ew_bin ?_
    refine ew_lst ?_
    refine aw_cons ?_
    refine ew_int ?_
    refine aw_nil ?_
    refine ⟨_, rfl, (by show 1 ≤ sizeLine; decide), ?_⟩
    refine ew_sliceM ?_
    refine ew_name 5 rfl ?_
    refine pt_some ?_
    refine ew_int ?_
    refine ⟨_, rfl, ?_⟩
    refine pt_none ?_
    refine ⟨_, _, rfl, (by rw [← hsl2]; exact at_end), ?_⟩
    have ec : cutL (zs.map D.int) (some 1) none = (zs.drop 1).map D.int := by
      rw [List.map_drop]
      exact cutL_from _ 1
    rw [ec]
    refine o_cat (szl' (by show 1 + ((zs.drop 1).map D.int).length ≤ 1000000; rw [List.length_map, List.length_drop]; omega)) ?_
    refine sw_nil ?_
    refine sw_cons ?_
    refine sw_ret ?_
    refine ew_name 5 rfl ?_
    exact q2' a2 b2 (0 :: zs.drop 1) zs (tabZ_zero hT hg) (by rw [List.length_cons, List.length_drop]; omega)
  · refine sw_nil ?_
    refine sw_cons ?_
    refine sw_ret ?_
    refine ew_frz (j := st0.length) (xs := zs.map D.int) ?_
    refine ew_name 5 rfl ?_
    refine ⟨⟨rfl, (by rw [← hsl2]; exact at_end), by show Al.length ≤ st0.length; omega⟩, ?_⟩
    rw [← hsl2, set_end]
    exact q' a2 b2 zs hT hl
end Kf
namespace Kf
open PySem PySem.Spec L2 StX ClX Dn
open PyProof.Rows hiding St
variable {P : Program} {w : World} {K : PySem.W.Frag} {mg : Str → Option Value} {base : Heap}
theorem isTable_tabZ {g : Int} {zs : List Int} (h : TabZ g zs) (hne : zs ≠ []) {d : D} (hd : seqOf d = some (zs.map D.int)) : isTable d g = true := by
  unfold isTable
  rw [hd]
  have e1 : (zs.map D.int).isEmpty = false := by
    cases zs with
    | nil => exact absurd rfl hne
    | cons z r => rfl
  have e2 : ((zs.map D.int).map (isVal · g)).all id = true := by
    rw [List.all_eq_true]
    intro b hb
    rw [List.map_map] at hb
    obtain ⟨z, hz, rfl⟩ := List.mem_map.mp hb
    have := h.1 z hz
    show (decide (0 ≤ z) && decide (z ≤ g)) = true
    rw [decide_eq_true this.1, decide_eq_true this.2]
    rfl
  have e3 : (ascB (zs.map D.int)).all id = true := by
    rw [List.all_eq_true]
    intro b hb
    unfold ascB at hb
    obtain ⟨i, hi, rfl⟩ := List.mem_map.mp hb
    rw [List.length_map, List.mem_range] at hi
    have h1 : zs[i]? = some zs[i] := List.getElem?_eq_getElem (by omega)
    have h2 : zs[i + 1]? = some zs[i + 1] := List.getElem?_eq_getElem (by omega)
    rw [List.getD_eq_getElem?_getD, List.getD_eq_getElem?_getD, List.getElem?_map, List.getElem?_map, h1, h2]
    exact decide_eq_true (h.2 i _ _ h1 h2)
  simp only [e1, e2, e3]
  rfl
def fallsB (zs : List Int) (n : Nat) : List Bool := (List.range n).map fun i => decide (zs.getD (i + 1) 0 < zs.getD i 0)
def fallsL (zs : List Int) (n : Nat) : List Int := (((fallsB zs n).zip ((List.range n).map fun (i : Nat) => (i : Int))).filter (·.1)).map (·.2)
theorem zip_map2 {α β γ : Type} (f : β → γ) : ∀ (bs : List α) (ys : List β), bs.zip (ys.map f) = (bs.zip ys).map fun p => (p.1, f p.2)
  | [], _ => by simp
  | _ :: _, [] => by simp
  | b :: bs, y :: ys => by simp [zip_map2 f bs ys]
theorem fallsL_map (zs : List Int) (n : Nat) : (((fallsB zs n).zip ((List.range n).map fun (i : Nat) => D.int (i : Int))).filter (·.1)).map (·.2) = (fallsL zs n).map D.int := by
  have e : ((List.range n).map fun (i : Nat) => D.int (i : Int)) = ((List.range n).map fun (i : Nat) => (i : Int)).map D.int := by
    rw [List.map_map]
    rfl
  unfold fallsL
  rw [e, zip_map2, List.filter_map, List.map_map, List.map_map]
  rfl
theorem fallsL_nil {zs : List Int} {n : Nat} (h : (fallsL zs n).isEmpty = true) : ∀ i, i < n → zs.getD i 0 ≤ zs.getD (i + 1) 0 := by
  intro i hi
  rw [List.isEmpty_iff] at h
  unfold fallsL at h
  rw [List.map_eq_nil_iff, List.filter_eq_nil_iff] at h
  have h1 : (fallsB zs n)[i]? = some (decide (zs.getD (i + 1) 0 < zs.getD i 0)) := by
    unfold fallsB
    rw [List.getElem?_map, List.getElem?_range hi]
    rfl
  have h2 : ((List.range n).map fun (i : Nat) => (i : Int))[i]? = some (i : Int) := by
    rw [List.getElem?_map, List.getElem?_range hi]
    rfl
  have := h (decide (zs.getD (i + 1) 0 < zs.getD i 0), (i : Int)) (by
    refine List.mem_of_getElem? (i := i) ?_
    rw [List.getElem?_zip_eq_some]
    exact ⟨h1, h2⟩)
  have h3 : ¬ zs.getD (i + 1) 0 < zs.getD i 0 := fun z => this (decide_eq_true z)
  omega
theorem fallsL_ne {zs : List Int} {n : Nat} (h : (fallsL zs n).isEmpty = false) : ∃ i, i < n ∧ zs.getD (i + 1) 0 < zs.getD i 0 := by
  cases e : fallsL zs n with
  | nil => rw [e] at h; cases h
  | cons y ys =>
    have hy : y ∈ fallsL zs n := by rw [e]; exact List.mem_cons_self
    unfold fallsL at hy
    obtain ⟨p, hp, rfl⟩ := List.mem_map.mp hy
    obtain ⟨hp1, hp2⟩ := List.mem_filter.mp hp
    have := (List.of_mem_zip (a := p.1) (b := p.2) hp1).1
    unfold fallsB at this
    obtain ⟨i, hi, e2⟩ := List.mem_map.mp this
    refine ⟨i, List.mem_range.mp hi, of_decide_eq_true ?_⟩
    rw [e2]
    exact hp2
theorem isTable_falls {g : Int} {zs : List Int} {n : Nat} (hn : zs.length = n + 1) (h0 : ∀ z ∈ zs, 0 ≤ z) : isTable (.lst (zs.map D.int)) g = !(!(fallsL zs n).isEmpty || decide (g < zs.getD n 0)) := by
  cases h1 : (fallsL zs n).isEmpty with
  | true =>
    have asc := fallsL_nil h1
    by_cases h2 : g < zs.getD n 0
    · rw [decide_eq_true h2]
      show _ = false
      cases ht : isTable (.lst (zs.map D.int)) g with
      | false => rfl
      | true =>
        obtain ⟨_, t2, _⟩ := isTable_tells ht rfl
        have hm : zs.getD n 0 ∈ zs := by
          rw [List.getD_eq_getElem?_getD, List.getElem?_eq_getElem (by omega)]
          exact List.getElem_mem _
        obtain ⟨z, e, _, h3⟩ := t2 (.int (zs.getD n 0)) (List.mem_map_of_mem hm)
        cases e
        omega
    · rw [decide_eq_false h2]
      show _ = true
      have mono : ∀ k i, i + k = n → zs.getD i 0 ≤ zs.getD n 0 := by
        intro k
        induction k with
        | zero => intro i hi; rw [show i = n by omega]; exact Int.le_refl _
        | succ k ih =>
          intro i hi
          have a1 := asc i (by omega)
          have a2 := ih (i + 1) (by omega)
          omega
      refine isTable_tabZ (zs := zs) ⟨fun z hz => ⟨h0 z hz, ?_⟩, fun i x y hx hy => ?_⟩ (fun e => by rw [e] at hn; cases hn) rfl
      · obtain ⟨i, hi, e⟩ := List.mem_iff_getElem.mp hz
        have := mono (n - i) i (by omega)
        rw [List.getD_eq_getElem?_getD, List.getElem?_eq_getElem hi, e] at this
        have : z ≤ zs.getD n 0 := this
        omega
      · have hi := (List.getElem?_eq_some_iff.mp hy).1
        have := asc i (by omega)
        rw [List.getD_eq_getElem?_getD, List.getD_eq_getElem?_getD, hx, hy] at this
        exact this
  | false =>
    show _ = false
    obtain ⟨i, hi, hlt⟩ := fallsL_ne h1
    cases ht : isTable (.lst (zs.map D.int)) g with
    | false => rfl
    | true =>
      obtain ⟨_, _, t3⟩ := isTable_tells ht rfl
      have e1 : (zs.map D.int)[i]? = some (.int (zs.getD i 0)) := by
        rw [List.getElem?_map, List.getD_eq_getElem?_getD, List.getElem?_eq_getElem (by omega)]
        rfl
      have e2 : (zs.map D.int)[i + 1]? = some (.int (zs.getD (i + 1) 0)) := by
        rw [List.getElem?_map, List.getD_eq_getElem?_getD, List.getElem?_eq_getElem (by omega)]
        rfl
      have := t3 i _ _ e1 e2
      have : zs.getD i 0 ≤ zs.getD (i + 1) 0 := this
      omega
theorem isVal_no {x : D} {g : Int} (h : isNum x = false) : isVal x g = false := by
  cases x with
  | int i =>
    have h : decide (0 ≤ i) = false := h
    show (decide (0 ≤ i) && _) = false
    rw [h]
    rfl
  | _ => rfl
theorem isTable_no {xs : List D} {n : Nat} {x : D} {g : Int} (hn : n < xs.length) (h : isNum x = false) : isTable (.lst (xs.set n x)) g = false := by
  cases ht : isTable (.lst (xs.set n x)) g with
  | false => rfl
  | true =>
    obtain ⟨_, t2, _⟩ := isTable_tells ht rfl
    obtain ⟨z, e, h0, _⟩ := t2 x (List.mem_of_getElem? (List.getElem?_set_self hn))
    subst e
    have h : decide (0 ≤ z) = false := h
    rw [decide_eq_true h0] at h
    cases h
def odd24 : List D := [.non, .bl true, .str "", .str "1", .int (-1), .tup [], .lst [], .lst [.int 0], .str "values"]
theorem odd24_ok : ∀ x ∈ odd24, (∃ n, tyOf x = some n) ∧ isNum x = false := fun x hx => by
  simp only [odd24, List.mem_cons, List.not_mem_nil, or_false] at hx
  rcases hx with rfl | rfl | rfl | rfl | rfl | rfl | rfl | rfl | rfl <;> exact ⟨⟨_, rfl⟩, rfl⟩
def fst24 : List D := [.non, .int 0, .str "", .tup [], .lst [], .str "012", .bl true]
theorem fst24_ok : ∀ x ∈ fst24, (∃ n, tyOf x = some n) ∧ (∀ xs, seqOf x = some xs → xs = []) ∧ ∀ g, isTable x g = false := fun x hx => by
  simp only [fst24, List.mem_cons, List.not_mem_nil, or_false] at hx
  rcases hx with rfl | rfl | rfl | rfl | rfl | rfl | rfl <;> exact ⟨⟨_, rfl⟩, fun xs h => by cases h; try rfl, fun g => rfl⟩
theorem ty_ints (zs : List Int) : ∀ x ∈ zs.map D.int, ∃ t, tyOf x = some t := fun x hx => by
  obtain ⟨z, _, rfl⟩ := List.mem_map.mp hx
  exact ⟨_, rfl⟩
theorem ty_set {xs : List D} (h : ∀ x ∈ xs, ∃ t, tyOf x = some t) {y : D} (hy : ∃ t, tyOf y = some t) (n : Nat) : ∀ x ∈ xs.set n y, ∃ t, tyOf x = some t := fun x hx => by
  rcases List.mem_or_eq_of_mem_set hx with h1 | rfl
  · exact h x h1
  · exact hy
theorem valAt_same {n : Int} (h : 0 ≤ n) : valAt [(0, 0, decide (0 < n))] n = n := by
  show (if decide (0 < n) = true then 0 + (n - 0) else 0) = n
  by_cases h2 : 0 < n
  · rw [decide_eq_true h2, if_pos rfl]
    omega
  · rw [decide_eq_false h2, if_neg Bool.false_ne_true]
    omega
end Kf
namespace Kf
open PySem PySem.Spec L2 StX ClX Dn
open PyProof.Rows hiding St
variable {P : Program} {w : World} {K : PySem.W.Frag} {mg : Str → Option Value} {base : Heap}
def runR : Int → List Row → Option Int
  | l, [] => some l
  | l, r :: rs => if r.2.2.1 < l then none else runR (lastRow r) rs
theorem stays_run (g : Int) : ∀ (rs : List Row) (l : Int), stays g l rs = match runR l rs with
    | some m => decide (m ≤ g)
    | none => false
  | [], l => rfl
  | r :: rs, l => by
    unfold stays runR
    by_cases h : r.2.2.1 < l
    · rw [if_pos h, if_pos h]
    · rw [if_neg h, if_neg h]
      exact stays_run g rs (lastRow r)
theorem runR_add : ∀ (rs : List Row) (r : Row) (l : Int), runR l (rs ++ [r]) = (runR l rs).bind fun m => if r.2.2.1 < m then none else some (lastRow r)
  | [], r, l => rfl
  | q :: rs, r, l => by
    show runR l (q :: (rs ++ [r])) = _
    unfold runR
    by_cases h : q.2.2.1 < l
    · rw [if_pos h, if_pos h]
      rfl
    · rw [if_neg h, if_neg h]
      exact runR_add rs r (lastRow q)
theorem stretch_add : ∀ (ps : List Pc) (p : Pc) (t : Int), stretchF (ps ++ [p]) t = stretchF ps (p.1 - 1) ++ [(p.1, t, p.2.1, p.2.2)]
  | [], p, t => rfl
  | [q], p, t => rfl
  | q :: r :: ps, p, t => by
    have h := stretch_add (r :: ps) p t
    show (q.1, r.1 - 1, q.2.1, q.2.2) :: stretchF ((r :: ps) ++ [p]) t = (q.1, r.1 - 1, q.2.1, q.2.2) :: (stretchF (r :: ps) (p.1 - 1) ++ [(p.1, t, p.2.1, p.2.2)])
    rw [h]
def endOf (top : Int) : List Pc → Int
  | [] => top
  | q :: _ => q.1 - 1
theorem stretch_cons (p : Pc) (r : List Pc) (t : Int) : stretchF (p :: r) t = (p.1, endOf t r, p.2.1, p.2.2) :: stretchF r t := by
  cases r <;> rfl
def StOk (top : Int) (ys : List Int) : Prop := ys.head? = some 0 ∧ ys.Pairwise (· < ·) ∧ ∀ y ∈ ys, 0 ≤ y ∧ y ≤ top
theorem stOk_get {top : Int} {ys : List Int} (h : StOk top ys) {i : Nat} {x y : Int} (hx : ys[i]? = some x) (hy : ys[i + 1]? = some y) : x < y := by
  obtain ⟨h1, e1⟩ := List.getElem?_eq_some_iff.mp hx
  obtain ⟨h2, e2⟩ := List.getElem?_eq_some_iff.mp hy
  rw [← e1, ← e2]
  exact List.pairwise_iff_getElem.mp h.2.1 i (i + 1) h1 h2 (Nat.lt_succ_self i)
theorem stOk_of {top : Int} {zs ys : List Int} (hz : 0 ∈ zs) (hb : ∀ z ∈ zs, 0 ≤ z ∧ z ≤ top) (hn : zs.Nodup) (hp : ys.Perm zs) (hs : ys.Pairwise (· ≤ ·)) : StOk top ys := by
  have hb' : ∀ y ∈ ys, 0 ≤ y ∧ y ≤ top := fun y hy => hb y (hp.mem_iff.mp hy)
  have h0 : (0 : Int) ∈ ys := hp.mem_iff.mpr hz
  refine ⟨?_, ?_, hb'⟩
  · cases ys with
    | nil => cases h0
    | cons y r =>
      rcases List.mem_cons.mp h0 with e | h0
      · rw [← e]
        rfl
      · have h1 := (List.pairwise_cons.mp hs).1 0 h0
        have h2 := (hb' y List.mem_cons_self).1
        have : y = 0 := by omega
        rw [this]
        rfl
  · have hn' : ys.Nodup := hp.nodup_iff.mpr hn
    exact (List.pairwise_and_iff.mpr ⟨hs, hn'⟩).imp fun h => by
      obtain ⟨h1, h2⟩ := h
      have h2 : _ ≠ _ := h2
      omega
def PsOk (top g : Int) (ps : List Pc) : Prop := ps ≠ [] ∧ arePieces (.lst (ps.map pcD)) top = true ∧ stays g 0 (stretchF ps top) = true
theorem arePieces_of {top : Int} {ps : List Pc} (h : StOk top (ps.map (·.1))) (h1 : ∀ p ∈ ps, 0 ≤ p.2.1) : arePieces (.lst (ps.map pcD)) top = true := by
  obtain ⟨hd, hpw, hb⟩ := h
  have hne : ps ≠ [] := fun e => by rw [e] at hd; cases hd
  have es : (ps.map pcD).map startOf = ps.map (·.1) := by
    rw [List.map_map]
    rfl
  have e1 : (ps.map pcD).isEmpty = false := by
    cases ps with
    | nil => exact absurd rfl hne
    | cons x r => rfl
  have e2 : ((ps.map pcD).map isPieceD).all id = true := by
    rw [List.all_eq_true]
    intro b hb'
    rw [List.map_map] at hb'
    obtain ⟨p, hp', rfl⟩ := List.mem_map.mp hb'
    show (decide (0 ≤ p.1) && decide (0 ≤ p.2.1)) = true
    rw [decide_eq_true (hb p.1 (List.mem_map_of_mem hp')).1, decide_eq_true (h1 p hp')]
    rfl
  have e3 : decide ((ps.map (·.1)).headD 0 = 0) = true := by
    refine decide_eq_true ?_
    cases hps : ps.map (·.1) with
    | nil => rfl
    | cons x r =>
      rw [hps] at hd
      have : x = 0 := Option.some.inj hd
      rw [this]
      rfl
  have e4 : decide (top < (ps.map (·.1)).getLastD 0) = false := by
    refine decide_eq_false ?_
    have hne' : ps.map (·.1) ≠ [] := by simpa using hne
    rw [List.getLastD_eq_getLast?, List.getLast?_eq_some_getLast hne']
    have := (hb _ (List.getLast_mem hne')).2
    show ¬ top < (ps.map (·.1)).getLast hne'
    omega
  have e5 : (ascS (ps.map (·.1))).all id = true := by
    rw [List.all_eq_true]
    intro b hb'
    unfold ascS at hb'
    obtain ⟨i, hi, rfl⟩ := List.mem_map.mp hb'
    rw [List.mem_range] at hi
    have g1 : (ps.map (·.1))[i]? = some (ps.map (·.1))[i] := List.getElem?_eq_getElem (by omega)
    have g2 : (ps.map (·.1))[i + 1]? = some (ps.map (·.1))[i + 1] := List.getElem?_eq_getElem (by omega)
    rw [List.getD_eq_getElem?_getD, List.getD_eq_getElem?_getD, g1, g2]
    exact decide_eq_true (stOk_get ⟨hd, hpw, hb⟩ g1 g2)
  unfold arePieces
  show (!(ps.map pcD).isEmpty && ((ps.map pcD).map isPieceD).all id && !(!decide (((ps.map pcD).map startOf).headD 0 = 0) || decide (top < ((ps.map pcD).map startOf).getLastD 0)) && (ascS ((ps.map pcD).map startOf)).all id) = true
  rw [es, e1, e2, e3, e4, e5]
  rfl
theorem pw_of_next : ∀ (ys : List Int), (∀ (i : Nat) (x y : Int), ys[i]? = some x → ys[i + 1]? = some y → x < y) → ys.Pairwise (· < ·)
  | [], _ => List.Pairwise.nil
  | [x], _ => List.pairwise_singleton _ _
  | x :: y :: r, h => by
    have ih := pw_of_next (y :: r) fun i a b ha hb => h (i + 1) a b (by simpa using ha) (by simpa using hb)
    refine List.pairwise_cons.mpr ⟨fun z hz => ?_, ih⟩
    have hxy := h 0 x y rfl rfl
    rcases List.mem_cons.mp hz with rfl | hz
    · exact hxy
    · have := (List.pairwise_cons.mp ih).1 z hz
      omega
theorem arePieces_tells {top : Int} {ps : List Pc} (h : arePieces (.lst (ps.map pcD)) top = true) : StOk top (ps.map (·.1)) ∧ ∀ p ∈ ps, 0 ≤ p.1 ∧ 0 ≤ p.2.1 := by
  have h : (!(ps.map pcD).isEmpty && ((ps.map pcD).map isPieceD).all id && !(!decide (((ps.map pcD).map startOf).headD 0 = 0) || decide (top < ((ps.map pcD).map startOf).getLastD 0)) && (ascS ((ps.map pcD).map startOf)).all id) = true := h
  have es : (ps.map pcD).map startOf = ps.map (·.1) := by
    rw [List.map_map]
    rfl
  rw [es] at h
  simp only [Bool.and_eq_true] at h
  obtain ⟨⟨⟨h1, h2⟩, h3⟩, h4⟩ := h
  have hne : ps ≠ [] := fun e => by rw [e] at h1; cases h1
  have hne' : ps.map (·.1) ≠ [] := by simpa using hne
  have hp : ∀ p ∈ ps, 0 ≤ p.1 ∧ 0 ≤ p.2.1 := fun p hp => by
    have := List.all_eq_true.mp h2 (isPieceD (pcD p)) (List.mem_map_of_mem (List.mem_map_of_mem hp))
    have : (decide (0 ≤ p.1) && decide (0 ≤ p.2.1)) = true := this
    rw [Bool.and_eq_true] at this
    exact ⟨of_decide_eq_true this.1, of_decide_eq_true this.2⟩
  rw [Bool.not_eq_true', Bool.or_eq_false_iff] at h3
  obtain ⟨h3, h5⟩ := h3
  have h3 : (ps.map (·.1)).headD 0 = 0 := of_decide_eq_true (by simpa using h3)
  have hpw := pw_of_next (ps.map (·.1)) fun i x y hx hy => by
    have hi := (List.getElem?_eq_some_iff.mp hy).1
    have := List.all_eq_true.mp h4 (decide ((ps.map (·.1)).getD i 0 < (ps.map (·.1)).getD (i + 1) 0)) (by
      unfold ascS
      exact List.mem_map_of_mem (List.mem_range.mpr (by omega)))
    rw [List.getD_eq_getElem?_getD, List.getD_eq_getElem?_getD, hx, hy] at this
    exact of_decide_eq_true this
  have hlast : (ps.map (·.1)).getLast hne' ≤ top := by
    have := of_decide_eq_false h5
    rw [List.getLastD_eq_getLast?, List.getLast?_eq_some_getLast hne'] at this
    have : ¬ top < (ps.map (·.1)).getLast hne' := this
    omega
  refine ⟨⟨?_, hpw, fun y hy => ?_⟩, hp⟩
  · cases hc : ps.map (·.1) with
    | nil => exact absurd hc hne'
    | cons x r =>
      rw [hc] at h3
      have h3 : x = 0 := h3
      rw [h3]
      rfl
  · obtain ⟨p, hp1, rfl⟩ := List.mem_map.mp hy
    refine ⟨(hp p hp1).1, ?_⟩
    obtain ⟨i, hi, e⟩ := List.mem_iff_getElem.mp hy
    rw [List.getLast_eq_getElem] at hlast
    by_cases hl : i = (ps.map (·.1)).length - 1
    · subst hl
      rw [← e]
      exact hlast
    · have := List.pairwise_iff_getElem.mp hpw i ((ps.map (·.1)).length - 1) hi (by omega) (by omega)
      omega
def endAt (ys : List Int) (top : Int) (i : Nat) : Int := match ys[i]? with
  | some y => y - 1
  | none => top
abbrev obP (ps : List Pc) : Ob := .lst ((ps.map pcD).map W.dat)
def F_lpieces : FT := fun args st Ret _ => ∃ (j : Nat) (a b top g many : Int), args = [.ptr j, .dat (.int top), .dat (.int g), .dat (.int many)] ∧ st[j]? = some (bx a b) ∧ 0 ≤ top ∧ top < 18446744073709551615 ∧ 0 ≤ g ∧ 0 < many ∧ many ≤ 100 ∧
  ∀ (a' b' : Int) (ps : List Pc), PsOk top g ps → (ps.length : Int) ≤ many → Ret (.dat (.lst (ps.map pcD))) (st.set j (bx a' b'))
theorem inV_int {z : Int} : ∀ {zs : List Int}, inV (.int z) (zs.map V.int) = decide (z ∈ zs)
  | [] => by simp [inV]
  | y :: zs => by
    have h := @inV_int z zs
    have e : eqV (.int y) (.int z) = decide (y = z) := by
      show (y == z) = decide (y = z)
      by_cases q : y = z <;> simp [q]
    unfold inV at h ⊢
    rw [List.map_cons, List.any_cons, h, e]
    by_cases h1 : y = z
    · subst h1
      simp
    · have h2 : ¬ z = y := fun q => h1 q.symm
      simp [h1, h2]
theorem scVs_ints : ∀ zs : List Int, scVs (zs.map D.int) = some (zs.map V.int)
  | [] => rfl
  | z :: zs => by
    show (match scV (.int z) with | none => none | some x => (scVs (zs.map D.int)).map (x :: ·)) = _
    rw [scVs_ints zs]
    rfl
end Kf
namespace Kf
open PySem PySem.Spec L2 StX ClX Dn
open PyProof.Rows hiding St
variable {P : Program} {w : World} {K : PySem.W.Frag} {mg : Str → Option Value} {base : Heap}
def atStep (x : Int) (f : Int) (p : Pc) : Int := if p.1 ≤ x then (if p.2.2 = true then p.2.1 + x - p.1 else p.2.1) else f
def atF (ps : List Pc) (x : Int) : Int := ps.foldl (atStep x) 0
end Kf
namespace Kf
open PySem PySem.Spec L2 StX ClX Dn
open PyProof.Rows hiding St
variable {P : Program} {w : World} {K : PySem.W.Frag} {mg : Str → Option Value} {base : Heap}
def pval (p : Pc) (x : Int) : Int := if p.2.2 = true then p.2.1 + (x - p.1) else p.2.1
theorem atF_snoc (ps : List Pc) (p : Pc) (x : Int) : atF (ps ++ [p]) x = if p.1 ≤ x then pval p x else atF ps x := by
  unfold atF
  rw [List.foldl_append]
  show atStep x (atF ps x) p = _
  unfold atStep pval
  by_cases h : p.1 ≤ x
  · rw [if_pos h, if_pos h]
    split
    · omega
    · rfl
  · rw [if_neg h, if_neg h]
    rfl
theorem bend_snoc (qs : List Pc) (q : Pc) (b : Bool) : bend (qs ++ [q]) b = qs ++ [(q.1, q.2.1, b)] := by
  unfold bend
  rw [List.getLast?_append]
  show (qs ++ [q]).set ((qs ++ [q]).length - 1) (q.1, q.2.1, b) = _
  rw [List.length_append, List.length_singleton, Nat.add_sub_cancel, List.set_append_right _ _ (Nat.le_refl _), Nat.sub_self]
  rfl
def NI (F : Int → Int) (s : NS) (e : Int) : Prop :=
  (e = 0 ∧ s.1 = []) ∨ (0 < e ∧ ∃ qs q, s.1 = qs ++ [q] ∧ q.1 ≤ e - 1 ∧ 0 ≤ q.1 ∧ s.2.1 = F (e - 1) ∧ (∀ x, 0 ≤ x → x < e → atF s.1 x = F x) ∧ (s.2.2 = none ∧ q.1 = e - 1 ∨ ∃ b, s.2.2 = some b ∧ q.2.2 = b ∧ q.1 < e - 1))
theorem last_row (r : Row) : lastRow r = onRow r r.2.1 := rfl
theorem ni_step {F : Int → Int} {s : NS} {e hi v : Int} {ri : Bool} (h : NI F s e) (he : 0 ≤ e) (hh : e ≤ hi) (hF : ∀ x, e ≤ x → x ≤ hi → F x = onRow (e, hi, v, ri) x) : NI F (nstep s (e, hi, v, ri)) (hi + 1) := by
  obtain ⟨ps, last, sl⟩ := s
  have hlast : lastRow (e, hi, v, ri) = F (hi + 1 - 1) := by
    rw [Int.add_sub_cancel, hF hi hh (Int.le_refl _)]
    rfl
  have hFe : F e = v := by
    rw [hF e (Int.le_refl _) hh]
    show (if ri = true then v + (e - e) else v) = v
    split <;> omega
  have put : ∀ (qs : List Pc) (lo : Int), e ≤ lo → lo ≤ hi → (∀ x, 0 ≤ x → x < lo → atF qs x = F x) → NI F (qs ++ [(lo, onRow (e, hi, v, ri) lo, (if lo < hi then some ri else none) == some true)], lastRow (e, hi, v, ri), if lo < hi then some ri else none) (hi + 1) := by
    intro qs lo h1 h2 h3
    refine .inr ⟨by omega, qs, _, rfl, by show lo ≤ hi + 1 - 1; omega, by show 0 ≤ lo; omega, hlast, fun x hx0 hx1 => ?_, ?_⟩
    · rw [atF_snoc]
      by_cases hx : lo ≤ x
      · rw [if_pos (show (lo, onRow (e, hi, v, ri) lo, (if lo < hi then some ri else none) == some true).1 ≤ x from hx), hF x (by omega) (by omega)]
        show (if ((if lo < hi then some ri else none) == some true) = true then onRow (e, hi, v, ri) lo + (x - lo) else onRow (e, hi, v, ri) lo) = onRow (e, hi, v, ri) x
        show _ = (if ri = true then v + (x - e) else v)
        show (if ((if lo < hi then some ri else none) == some true) = true then (if ri = true then v + (lo - e) else v) + (x - lo) else (if ri = true then v + (lo - e) else v)) = (if ri = true then v + (x - e) else v)
        by_cases hl : lo < hi
        · rw [if_pos hl]
          cases ri with
          | true => simp; omega
          | false => simp
        · have : x = lo := by omega
          subst this
          rw [if_neg hl]
          cases ri <;> simp
      · rw [if_neg (show ¬ (lo, onRow (e, hi, v, ri) lo, (if lo < hi then some ri else none) == some true).1 ≤ x from hx)]
        exact h3 x hx0 (by omega)
    · by_cases hl : lo < hi
      · right
        refine ⟨ri, by show (if lo < hi then some ri else none) = some ri; rw [if_pos hl], ?_, by show lo < hi + 1 - 1; omega⟩
        show ((if lo < hi then some ri else none) == some true) = ri
        rw [if_pos hl]
        cases ri <;> rfl
      · left
        refine ⟨by show (if lo < hi then some ri else none) = none; rw [if_neg hl], by show lo = hi + 1 - 1; omega⟩
  by_cases hj : joins ps last sl v = true
  · -- the row goes on where the last piece ends
    have hj' := hj
    unfold joins at hj'
    rw [Bool.and_eq_true, Bool.and_eq_true, Bool.or_eq_true, Bool.or_eq_true] at hj'
    obtain ⟨⟨hne, hd⟩, hs⟩ := hj'
    rcases h with ⟨_, h⟩ | ⟨h0, qs, q, hps, hq, hq0, hl, hat, hsl⟩
    · have h : ps = [] := h
      rw [h] at hne
      cases hne
    have hps : ps = qs ++ [q] := hps
    have hl : last = F (e - 1) := hl
    have hsl : sl = none ∧ q.1 = e - 1 ∨ ∃ b, sl = some b ∧ q.2.2 = b ∧ q.1 < e - 1 := hsl
    have hd : v - last = 0 ∨ v - last = 1 := by
      rcases hd with z | z
      · exact .inl (of_decide_eq_true z).symm
      · exact .inr (of_decide_eq_true z).symm
    generalize eb : decide (v - last = 1) = b at *
    have hqe : F (e - 1) = pval q (e - 1) := by
      have h1 := hat (e - 1) (by omega) (by omega)
      have h1 : atF ps (e - 1) = F (e - 1) := h1
      rw [hps, atF_snoc, if_pos hq] at h1
      exact h1.symm
    have hbent : ∀ x, q.1 ≤ x → x < e → pval (q.1, q.2.1, b) x = F x := by
      intro x hx1 hx2
      rcases hsl with ⟨_, hqs⟩ | ⟨b', hb', hq2, _⟩
      · have hx : x = q.1 := by omega
        subst hx
        have h1 := hat q.1 hq0 hx2
        have h1 : atF ps q.1 = F q.1 := h1
        rw [hps, atF_snoc, if_pos (Int.le_refl _)] at h1
        rw [← h1]
        unfold pval
        show (if b = true then q.2.1 + (q.1 - q.1) else q.2.1) = _
        split <;> split <;> omega
      · have hbb : b' = b := by
          rcases hs with z | z
          · rw [hb'] at z
            cases z
          · rw [hb'] at z
            exact (Option.some.inj (eq_of_beq z))
        have h1 := hat x (by omega) hx2
        have h1 : atF ps x = F x := h1
        rw [hps, atF_snoc, if_pos hx1] at h1
        rw [← h1]
        unfold pval
        rw [hq2, hbb]
    have hge : ∀ x, e ≤ x → pval (q.1, q.2.1, b) x = if b = true then v + (x - e) else v := by
      intro x hx
      have h1 := hbent (e - 1) hq (by omega)
      have h1 : (if b = true then q.2.1 + (e - 1 - q.1) else q.2.1) = F (e - 1) := h1
      show (if b = true then q.2.1 + (x - q.1) else q.2.1) = _
      cases hb : b with
      | true =>
        rw [hb] at h1 eb
        have := of_decide_eq_true eb
        rw [if_pos rfl] at h1 ⊢
        rw [if_pos rfl]
        omega
      | false =>
        rw [hb] at h1 eb
        have := of_decide_eq_false eb
        rw [if_neg Bool.false_ne_true] at h1 ⊢
        rw [if_neg Bool.false_ne_true]
        omega
    have hlow : ∀ x, 0 ≤ x → x < e → atF (qs ++ [(q.1, q.2.1, b)]) x = F x := by
      intro x hx0 hx1
      rw [atF_snoc]
      by_cases hx : q.1 ≤ x
      · rw [if_pos (show (q.1, q.2.1, b).1 ≤ x from hx)]
        exact hbent x hx hx1
      · rw [if_neg (show ¬ (q.1, q.2.1, b).1 ≤ x from hx)]
        have h1 := hat x hx0 hx1
        have h1 : atF ps x = F x := h1
        rw [hps, atF_snoc, if_neg hx] at h1
        exact h1
    show NI F (nfin (nps (joins ps last sl v) (ps, last, sl) (e, hi, v, ri)) (nsl (joins ps last sl v) (ps, last, sl) (e, hi, v, ri)) (nlow (joins ps last sl v) (ps, last, sl) (e, hi, v, ri)) (e, hi, v, ri)) (hi + 1)
    rw [hj]
    have e1 : nps true (ps, last, sl) (e, hi, v, ri) = qs ++ [(q.1, q.2.1, b)] := by
      show bend ps (decide (v - last = 1)) = _
      rw [eb, hps, bend_snoc]
    have e2 : nsl true (ps, last, sl) (e, hi, v, ri) = some b := by
      show some (decide (v - last = 1)) = _
      rw [eb]
    have e3 : nlow true (ps, last, sl) (e, hi, v, ri) = if b = ri then hi + 1 else e + 1 := by
      show (if decide (v - last = 1) = ri then hi + 1 else e + 1) = _
      rw [eb]
    rw [e1, e2, e3]
    by_cases hbr : b = ri
    · rw [if_pos hbr]
      unfold nfin
      rw [if_neg (show ¬ hi + 1 ≤ (e, hi, v, ri).2.1 by show ¬ hi + 1 ≤ hi; omega)]
      refine .inr ⟨by omega, qs, _, rfl, by show q.1 ≤ hi + 1 - 1; omega, hq0, hlast, fun x hx0 hx1 => ?_, .inr ⟨b, rfl, rfl, by show q.1 < hi + 1 - 1; omega⟩⟩
      by_cases hx : x < e
      · exact hlow x hx0 hx
      · show atF (qs ++ [(q.1, q.2.1, b)]) x = F x
        rw [atF_snoc, if_pos (show (q.1, q.2.1, b).1 ≤ x by show q.1 ≤ x; omega), hge x (by omega), hF x (by omega) (by omega), hbr]
        rfl
    · rw [if_neg hbr]
      have hle : ∀ x, 0 ≤ x → x < e + 1 → atF (qs ++ [(q.1, q.2.1, b)]) x = F x := by
        intro x hx0 hx1
        by_cases hx : x < e
        · exact hlow x hx0 hx
        · have : x = e := by omega
          subst this
          rw [atF_snoc, if_pos (show (q.1, q.2.1, b).1 ≤ x by show q.1 ≤ x; omega), hge x (Int.le_refl _), hFe]
          split <;> omega
      unfold nfin
      by_cases hlo : e + 1 ≤ hi
      · rw [if_pos (show e + 1 ≤ (e, hi, v, ri).2.1 from hlo)]
        exact put _ (e + 1) (by omega) hlo hle
      · rw [if_neg (show ¬ e + 1 ≤ (e, hi, v, ri).2.1 from hlo)]
        have : hi = e := by omega
        subst this
        exact .inr ⟨by omega, qs, _, rfl, by show q.1 ≤ hi + 1 - 1; omega, hq0, hlast, fun x hx0 hx1 => hle x hx0 hx1, .inr ⟨b, rfl, rfl, by show q.1 < hi + 1 - 1; omega⟩⟩
  · have hj : joins ps last sl v = false := by simpa using hj
    show NI F (nfin (nps (joins ps last sl v) (ps, last, sl) (e, hi, v, ri)) (nsl (joins ps last sl v) (ps, last, sl) (e, hi, v, ri)) (nlow (joins ps last sl v) (ps, last, sl) (e, hi, v, ri)) (e, hi, v, ri)) (hi + 1)
    rw [hj]
    show NI F (nfin ps sl e (e, hi, v, ri)) (hi + 1)
    unfold nfin
    rw [if_pos (show e ≤ (e, hi, v, ri).2.1 from hh)]
    refine put ps e (Int.le_refl _) hh fun x hx0 hx1 => ?_
    rcases h with ⟨h1, h2⟩ | ⟨_, qs, q, _, _, _, _, hat, _⟩
    · omega
    · exact hat x hx0 hx1
end Kf
namespace Kf
open PySem PySem.Spec L2 StX ClX Dn
open PyProof.Rows hiding St
variable {P : Program} {w : World} {K : PySem.W.Frag} {mg : Str → Option Value} {base : Heap}
theorem foldl_skip (x : Int) : ∀ (r : List Pc) (f : Int), (∀ p ∈ r, x < p.1) → r.foldl (atStep x) f = f
  | [], f, _ => rfl
  | p :: r, f, h => by
    have h1 := h p List.mem_cons_self
    show r.foldl (atStep x) (atStep x f p) = f
    have : atStep x f p = f := by
      unfold atStep
      rw [if_neg (by omega)]
    rw [this]
    exact foldl_skip x r f fun q hq => h q (List.mem_cons_of_mem _ hq)
theorem atF_mid (qs : List Pc) (p : Pc) (r : List Pc) (x : Int) (h1 : p.1 ≤ x) (h2 : ∀ q ∈ r, x < q.1) : atF (qs ++ p :: r) x = pval p x := by
  have : atF (qs ++ p :: r) x = r.foldl (atStep x) (atF (qs ++ [p]) x) := by
    unfold atF
    rw [show qs ++ p :: r = (qs ++ [p]) ++ r by simp, List.foldl_append]
  rw [this, foldl_skip x r _ h2, atF_snoc, if_pos h1]
theorem ni_run (top : Int) : ∀ (r qs : List Pc) (s : NS) (e : Int), StOk top ((qs ++ r).map (·.1)) → (∀ p, r.head? = some p → e = p.1) → r ≠ [] → NI (atF (qs ++ r)) s e → NI (atF (qs ++ r)) ((stretchF r top).foldl nstep s) (top + 1)
  | [], _, _, _, _, _, hr, _ => absurd rfl hr
  | p :: r, qs, s, e, hst, he, _, h => by
    have hpe : e = p.1 := he p rfl
    subst hpe
    have hmem : p.1 ∈ (qs ++ p :: r).map (·.1) := List.mem_map_of_mem (by simp)
    have hb := hst.2.2 p.1 hmem
    have hgt : ∀ q ∈ r, p.1 < q.1 := by
      have hpw := hst.2.1
      rw [List.map_append, List.map_cons, List.pairwise_append] at hpw
      exact fun q hq => (List.pairwise_cons.mp hpw.2.1).1 q.1 (List.mem_map_of_mem hq)
    have hpwr : (r.map (·.1)).Pairwise (· < ·) := by
      have hpw := hst.2.1
      rw [List.map_append, List.map_cons, List.pairwise_append] at hpw
      exact (List.pairwise_cons.mp hpw.2.1).2
    have hend : p.1 ≤ endOf top r := by
      cases r with
      | nil => exact hb.2
      | cons q r =>
        have := hgt q List.mem_cons_self
        show p.1 ≤ q.1 - 1
        omega
    have hlt : ∀ x, x ≤ endOf top r → ∀ q ∈ r, x < q.1 := by
      intro x hx q hq
      cases r with
      | nil => cases hq
      | cons q0 r =>
        have hx : x ≤ q0.1 - 1 := hx
        rcases List.mem_cons.mp hq with rfl | hq
        · omega
        · rw [List.map_cons] at hpwr
          have := (List.pairwise_cons.mp hpwr).1 q.1 (List.mem_map_of_mem hq)
          omega
    have step := ni_step (hi := endOf top r) (v := p.2.1) (ri := p.2.2) h hb.1 hend fun x hx1 hx2 => by
      rw [atF_mid qs p r x hx1 (hlt x hx2)]
      rfl
    rw [stretch_cons, List.foldl_cons]
    cases hr : r with
    | nil =>
      rw [hr] at step
      exact step
    | cons q r2 =>
      have e1 : qs ++ p :: q :: r2 = (qs ++ [p]) ++ q :: r2 := by simp
      rw [hr] at hst step
      rw [e1] at hst step ⊢
      have e2 : endOf top (q :: r2) + 1 = q.1 := by
        show q.1 - 1 + 1 = q.1
        omega
      rw [e2] at step
      exact ni_run top (q :: r2) (qs ++ [p]) _ q.1 hst (fun p' hp' => by cases hp'; rfl) (by simp) step
theorem normal_at {top : Int} {ps : List Pc} (hst : StOk top (ps.map (·.1))) {x : Int} (h0 : 0 ≤ x) (h1 : x ≤ top) : atF (normalF (stretchF ps top)) x = atF ps x := by
  have hne : ps ≠ [] := fun e => by
    have := hst.1
    rw [e] at this
    cases this
  have h := ni_run top ps [] ([], 0, none) 0 (by simpa using hst) (fun p hp => by
    have := hst.1
    rw [List.head?_map, hp] at this
    exact (Option.some.inj this).symm) hne (.inl ⟨rfl, rfl⟩)
  rw [List.nil_append] at h
  rcases h with ⟨e, _⟩ | ⟨_, qs, q, _, _, _, _, hat, _⟩
  · omega
  · exact hat x h0 (by omega)
end Kf
namespace Kf
open PySem PySem.Spec L2 StX ClX Dn
open PyProof.Rows hiding St
variable {P : Program} {w : World} {K : PySem.W.Frag} {mg : Str → Option Value} {base : Heap}
theorem pieceAt_spec (ps : List Pc) (x : Int) (hpw : ∀ i j : Nat, i < j → j < ps.length → (ps.getD i (0, 0, false)).1 < (ps.getD j (0, 0, false)).1) : ∀ (n first last : Nat), first ≤ last → last < ps.length → last - first ≤ n → (ps.getD first (0, 0, false)).1 ≤ x → (∀ j, last < j → j < ps.length → x < (ps.getD j (0, 0, false)).1) →
    pieceAt ps x n first last < ps.length ∧ (ps.getD (pieceAt ps x n first last) (0, 0, false)).1 ≤ x ∧ ∀ j, pieceAt ps x n first last < j → j < ps.length → x < (ps.getD j (0, 0, false)).1
  | 0, first, last, h1, h2, h3, h4, h5 => by
    have : first = last := by omega
    subst this
    exact ⟨h2, h4, h5⟩
  | n + 1, first, last, h1, h2, h3, h4, h5 => by
    unfold pieceAt
    by_cases hl : first < last
    · rw [if_pos hl]
      by_cases hm : (ps.getD ((first + last + 1) / 2) (0, 0, false)).1 ≤ x
      · rw [if_pos hm]
        exact pieceAt_spec ps x hpw n _ last (by omega) h2 (by omega) hm h5
      · rw [if_neg hm]
        refine pieceAt_spec ps x hpw n first _ (by omega) (by omega) (by omega) h4 fun j hj1 hj2 => ?_
        by_cases he : j = (first + last + 1) / 2
        · subst he
          omega
        · have := hpw ((first + last + 1) / 2) j (by omega) hj2
          omega
    · rw [if_neg hl]
      have : first = last := by omega
      subst this
      exact ⟨h2, h4, h5⟩
theorem valAt_at {ps : List Pc} {x : Int} (hpw : (ps.map (·.1)).Pairwise (· < ·)) (h0 : ∃ y, (ps.map (·.1)).head? = some y ∧ y ≤ x) : valAt ps x = atF ps x := by
  obtain ⟨y, hy, hyx⟩ := h0
  have hl : 0 < ps.length := by
    cases ps with
    | nil => cases hy
    | cons p r => exact Nat.succ_pos _
  have hget : ∀ i, i < ps.length → (ps.map (·.1))[i]? = some (ps.getD i (0, 0, false)).1 := fun i hi => by
    rw [List.getElem?_map, List.getD_eq_getElem?_getD, List.getElem?_eq_getElem hi]
    rfl
  have hpw' : ∀ i j : Nat, i < j → j < ps.length → (ps.getD i (0, 0, false)).1 < (ps.getD j (0, 0, false)).1 := fun i j hij hj => by
    have h1 := List.pairwise_iff_getElem.mp hpw i j (by rw [List.length_map]; omega) (by rw [List.length_map]; exact hj) hij
    have g1 := hget i (by omega)
    have g2 := hget j hj
    rw [List.getElem?_eq_getElem (by rw [List.length_map]; omega)] at g1
    rw [List.getElem?_eq_getElem (by rw [List.length_map]; exact hj)] at g2
    rw [← Option.some.inj g1, ← Option.some.inj g2]
    exact h1
  have h00 : (ps.getD 0 (0, 0, false)).1 ≤ x := by
    have g := hget 0 hl
    rw [List.head?_eq_getElem?, g] at hy
    rw [Option.some.inj hy]
    exact hyx
  obtain ⟨k1, k2, k3⟩ := pieceAt_spec ps x hpw' ps.length 0 (ps.length - 1) (Nat.zero_le _) (by omega) (by omega) h00 (fun j hj1 hj2 => by omega)
  generalize ek : pieceAt ps x ps.length 0 (ps.length - 1) = k at *
  have hsplit : ps = ps.take k ++ ps[k] :: ps.drop (k + 1) := by
    rw [← List.drop_eq_getElem_cons k1, List.take_append_drop]
  have hpk : ps.getD k (0, 0, false) = ps[k] := by
    rw [List.getD_eq_getElem?_getD, List.getElem?_eq_getElem k1]
    rfl
  have h1 : atF ps x = pval ps[k] x := by
    conv => lhs; rw [hsplit]
    refine atF_mid _ _ _ x (by rw [← hpk]; exact k2) fun q hq => ?_
    obtain ⟨i, hi, e⟩ := List.mem_iff_getElem.mp hq
    rw [List.length_drop] at hi
    have := k3 (k + 1 + i) (by omega) (by omega)
    rw [List.getD_eq_getElem?_getD, ← List.getElem?_drop, List.getElem?_eq_getElem (by rw [List.length_drop]; exact hi), e] at this
    exact this
  rw [h1]
  unfold valAt
  rw [ek, hpk]
  rfl
end Kf
namespace Kf
open PySem PySem.Spec L2 StX ClX Dn
open PyProof.Rows hiding St
variable {P : Program} {w : World} {K : PySem.W.Frag} {mg : Str → Option Value} {base : Heap}
def gstep (s : NS) (x v : Int) : NS := if joins s.1 s.2.1 s.2.2 v = true then (bend s.1 (decide (v - s.2.1 = 1)), v, some (decide (v - s.2.1 = 1))) else (s.1 ++ [(x, v, false)], v, none)
def gfold (F : Int → Int) : Nat → Int → NS → NS
  | 0, _, s => s
  | n + 1, x, s => gfold F n (x + 1) (gstep s x (F x))
def ramp (v e : Int) (ri : Bool) (x : Int) : Int := if ri = true then v + (x - e) else v
theorem ramp_step (v e : Int) (ri : Bool) (x : Int) : ramp v e ri x - ramp v e ri (x - 1) = if ri = true then 1 else 0 := by
  unfold ramp
  cases ri <;> simp <;> omega
theorem ramp_dec (v e : Int) (ri : Bool) (x : Int) : decide (ramp v e ri x - ramp v e ri (x - 1) = 1) = ri := by
  rw [ramp_step]
  cases ri <;> rfl
theorem joins_ramp (v e : Int) (ri : Bool) (x : Int) (qs : List Pc) (q : Pc) (sl : Option Bool) (h : sl = none ∨ sl = some ri) : joins (qs ++ [q]) (ramp v e ri (x - 1)) sl (ramp v e ri x) = true := by
  unfold joins
  rw [ramp_step]
  have h1 : (qs ++ [q]).isEmpty = false := by cases qs <;> rfl
  rw [h1]
  rcases h with rfl | rfl <;> cases ri <;> rfl
theorem gA (v e : Int) (ri : Bool) (qs : List Pc) (a b : Int) : ∀ (n : Nat) (x : Int), gfold (ramp v e ri) n x (qs ++ [(a, b, ri)], ramp v e ri (x - 1), some ri) = (qs ++ [(a, b, ri)], ramp v e ri (x - 1 + n), some ri)
  | 0, x => by
    show (_, _, _) = (_, _, _)
    rw [show x - 1 + ((0 : Nat) : Int) = x - 1 by omega]
  | n + 1, x => by
    show gfold (ramp v e ri) n (x + 1) (gstep (qs ++ [(a, b, ri)], ramp v e ri (x - 1), some ri) x (ramp v e ri x)) = _
    have hs : gstep (qs ++ [(a, b, ri)], ramp v e ri (x - 1), some ri) x (ramp v e ri x) = (qs ++ [(a, b, ri)], ramp v e ri (x + 1 - 1), some ri) := by
      unfold gstep
      rw [if_pos (joins_ramp v e ri x qs (a, b, ri) (some ri) (.inr rfl))]
      show (bend (qs ++ [(a, b, ri)]) (decide (ramp v e ri x - ramp v e ri (x - 1) = 1)), ramp v e ri x, some (decide (ramp v e ri x - ramp v e ri (x - 1) = 1))) = _
      rw [ramp_dec, bend_snoc, show x + 1 - 1 = x by omega]
    rw [hs, gA v e ri qs a b n (x + 1), show x + 1 - 1 + (n : Int) = x - 1 + ((n + 1 : Nat) : Int) by omega]
theorem gB (v e : Int) (ri : Bool) (qs : List Pc) (lo : Int) (n : Nat) : gfold (ramp v e ri) n (lo + 1) (qs ++ [(lo, ramp v e ri lo, false)], ramp v e ri lo, none) = (qs ++ [(lo, ramp v e ri lo, (if lo < lo + (n : Int) then some ri else none) == some true)], ramp v e ri (lo + n), if lo < lo + (n : Int) then some ri else none) := by
  cases n with
  | zero =>
    rw [if_neg (by omega), show lo + ((0 : Nat) : Int) = lo by omega]
    rfl
  | succ n =>
    rw [if_pos (by omega)]
    show gfold (ramp v e ri) n (lo + 1 + 1) (gstep (qs ++ [(lo, ramp v e ri lo, false)], ramp v e ri lo, none) (lo + 1) (ramp v e ri (lo + 1))) = _
    have hs : gstep (qs ++ [(lo, ramp v e ri lo, false)], ramp v e ri lo, none) (lo + 1) (ramp v e ri (lo + 1)) = (qs ++ [(lo, ramp v e ri lo, ri)], ramp v e ri (lo + 1 + 1 - 1), some ri) := by
      have hj := joins_ramp v e ri (lo + 1) qs (lo, ramp v e ri lo, false) none (.inl rfl)
      have hd := ramp_dec v e ri (lo + 1)
      rw [Int.add_sub_cancel] at hj hd
      unfold gstep
      rw [if_pos hj]
      show (bend (qs ++ [(lo, ramp v e ri lo, false)]) (decide (ramp v e ri (lo + 1) - ramp v e ri lo = 1)), ramp v e ri (lo + 1), some (decide (ramp v e ri (lo + 1) - ramp v e ri lo = 1))) = _
      rw [hd, bend_snoc, Int.add_sub_cancel]
    rw [hs, gA v e ri qs lo (ramp v e ri lo) n (lo + 1 + 1), show lo + 1 + 1 - 1 + (n : Int) = lo + ((n + 1 : Nat) : Int) by omega]
    cases ri <;> rfl
theorem nstep_g (s : NS) (e v : Int) (ri : Bool) (n : Nat) : nstep s (e, e + n, v, ri) = gfold (ramp v e ri) (n + 1) e s := by
  obtain ⟨ps, last, sl⟩ := s
  have hv : ramp v e ri e = v := by unfold ramp; cases ri <;> simp
  show nfin (nps (joins ps last sl v) (ps, last, sl) (e, e + n, v, ri)) (nsl (joins ps last sl v) (ps, last, sl) (e, e + n, v, ri)) (nlow (joins ps last sl v) (ps, last, sl) (e, e + n, v, ri)) (e, e + n, v, ri) = gfold (ramp v e ri) n (e + 1) (gstep (ps, last, sl) e (ramp v e ri e))
  rw [hv]
  cases hj : joins ps last sl v with
  | false =>
    have hs : gstep (ps, last, sl) e v = (ps ++ [(e, ramp v e ri e, false)], ramp v e ri e, none) := by
      unfold gstep
      rw [if_neg (by rw [hj]; exact Bool.false_ne_true), hv]
    rw [hs, gB]
    show nfin ps sl e (e, e + n, v, ri) = _
    unfold nfin
    rw [if_pos (show e ≤ e + (n : Int) by omega)]
    rfl
  | true =>
    have hs : gstep (ps, last, sl) e v = (bend ps (decide (v - last = 1)), v, some (decide (v - last = 1))) := by
      unfold gstep
      rw [if_pos hj]
    rw [hs]
    have hne : ps ≠ [] := by
      intro h
      rw [h] at hj
      cases hj
    obtain ⟨qs, q, rfl⟩ : ∃ qs q, ps = qs ++ [q] := ⟨ps.dropLast, ps.getLast hne, (List.dropLast_concat_getLast hne).symm⟩
    show nfin (bend (qs ++ [q]) (decide (v - last = 1))) (some (decide (v - last = 1))) (if decide (v - last = 1) = ri then e + n + 1 else e + 1) (e, e + n, v, ri) = _
    rw [bend_snoc]
    generalize decide (v - last = 1) = b
    by_cases hb : b = ri
    · subst hb
      rw [if_pos rfl]
      have h1 := gA v e b qs q.1 q.2.1 n (e + 1)
      rw [Int.add_sub_cancel, hv] at h1
      rw [h1]
      unfold nfin
      rw [if_neg (show ¬ e + (n : Int) + 1 ≤ e + (n : Int) by omega)]
      rfl
    · rw [if_neg hb]
      cases n with
      | zero =>
        unfold nfin
        rw [if_neg (show ¬ e + 1 ≤ e + ((0 : Nat) : Int) by omega)]
        show (_, lastRow (e, e + ((0 : Nat) : Int), v, ri), _) = (_, v, _)
        have : lastRow (e, e + ((0 : Nat) : Int), v, ri) = v := by
          show (if ri = true then v + (e + ((0 : Nat) : Int) - e) else v) = v
          split <;> omega
        rw [this]
      | succ m =>
        have hnj : joins (qs ++ [(q.1, q.2.1, b)]) v (some b) (ramp v e ri (e + 1)) = false := by
          have hd := ramp_dec v e ri (e + 1)
          rw [Int.add_sub_cancel, hv] at hd
          unfold joins
          rw [hd]
          have : ((some b : Option Bool) == none || some b == some ri) = false := by cases b <;> cases ri <;> first | rfl | exact absurd rfl hb
          rw [this, Bool.and_false]
        have hs2 : gstep (qs ++ [(q.1, q.2.1, b)], v, some b) (e + 1) (ramp v e ri (e + 1)) = ((qs ++ [(q.1, q.2.1, b)]) ++ [(e + 1, ramp v e ri (e + 1), false)], ramp v e ri (e + 1), none) := by
          unfold gstep
          rw [if_neg (by rw [hnj]; exact Bool.false_ne_true)]
        show _ = gfold (ramp v e ri) m (e + 1 + 1) (gstep (qs ++ [(q.1, q.2.1, b)], v, some b) (e + 1) (ramp v e ri (e + 1)))
        rw [hs2, gB]
        unfold nfin
        rw [if_pos (show e + 1 ≤ e + ((m + 1 : Nat) : Int) by omega)]
        have ee : e + ((m + 1 : Nat) : Int) = e + 1 + (m : Int) := by omega
        rw [ee]
        rfl
theorem gfold_congr {F G : Int → Int} : ∀ (n : Nat) (x : Int) (s : NS), (∀ y, x ≤ y → y < x + n → F y = G y) → gfold F n x s = gfold G n x s
  | 0, _, _, _ => rfl
  | n + 1, x, s, h => by
    show gfold F n (x + 1) (gstep s x (F x)) = gfold G n (x + 1) (gstep s x (G x))
    rw [h x (Int.le_refl _) (by omega)]
    exact gfold_congr n (x + 1) _ fun y h1 h2 => h y (by omega) (by omega)
theorem gfold_add {F : Int → Int} : ∀ (n m : Nat) (x : Int) (s : NS), gfold F (n + m) x s = gfold F m (x + n) (gfold F n x s)
  | 0, m, x, s => by
    show gfold F (0 + m) x s = gfold F m (x + ((0 : Nat) : Int)) s
    rw [Nat.zero_add, show x + ((0 : Nat) : Int) = x by omega]
  | n + 1, m, x, s => by
    rw [show n + 1 + m = (n + m) + 1 by omega]
    show gfold F (n + m) (x + 1) (gstep s x (F x)) = gfold F m (x + ((n + 1 : Nat) : Int)) (gfold F n (x + 1) (gstep s x (F x)))
    rw [gfold_add n m (x + 1), show x + 1 + (n : Int) = x + ((n + 1 : Nat) : Int) by omega]
theorem nfold_g (top : Int) : ∀ (r qs : List Pc) (s : NS) (e : Int), StOk top ((qs ++ r).map (·.1)) → (∀ p, r.head? = some p → e = p.1) → r ≠ [] → (stretchF r top).foldl nstep s = gfold (atF (qs ++ r)) (top + 1 - e).toNat e s
  | [], _, _, _, _, _, hr => absurd rfl hr
  | p :: r, qs, s, e, hst, he, _ => by
    have hpe : e = p.1 := he p rfl
    subst hpe
    have hmem : p.1 ∈ (qs ++ p :: r).map (·.1) := List.mem_map_of_mem (by simp)
    have hb := hst.2.2 p.1 hmem
    have hpw := hst.2.1
    rw [List.map_append, List.map_cons, List.pairwise_append] at hpw
    have hgt : ∀ q ∈ r, p.1 < q.1 := fun q hq => (List.pairwise_cons.mp hpw.2.1).1 q.1 (List.mem_map_of_mem hq)
    have hpwr : (r.map (·.1)).Pairwise (· < ·) := (List.pairwise_cons.mp hpw.2.1).2
    have hend : p.1 ≤ endOf top r ∧ endOf top r ≤ top := by
      cases r with
      | nil => exact ⟨hb.2, Int.le_refl _⟩
      | cons q r =>
        have h1 := hgt q List.mem_cons_self
        have h2 := hst.2.2 q.1 (List.mem_map_of_mem (by simp))
        show p.1 ≤ q.1 - 1 ∧ q.1 - 1 ≤ top
        omega
    have hlt : ∀ x, x ≤ endOf top r → ∀ q ∈ r, x < q.1 := by
      intro x hx q hq
      cases r with
      | nil => cases hq
      | cons q0 r =>
        have hx : x ≤ q0.1 - 1 := hx
        rcases List.mem_cons.mp hq with rfl | hq
        · omega
        · rw [List.map_cons] at hpwr
          have := (List.pairwise_cons.mp hpwr).1 q.1 (List.mem_map_of_mem hq)
          omega
    obtain ⟨n, hn⟩ : ∃ n : Nat, endOf top r = p.1 + n := ⟨(endOf top r - p.1).toNat, by omega⟩
    rw [stretch_cons, List.foldl_cons, hn, nstep_g]
    have hc : gfold (ramp p.2.1 p.1 p.2.2) (n + 1) p.1 s = gfold (atF (qs ++ p :: r)) (n + 1) p.1 s := by
      refine gfold_congr (n + 1) p.1 s fun y h1 h2 => ?_
      rw [atF_mid qs p r y h1 (hlt y (by omega))]
      rfl
    rw [hc]
    cases hr : r with
    | nil =>
      rw [hr] at hn
      have hn : top = p.1 + n := hn
      rw [show (top + 1 - p.1).toNat = n + 1 by omega]
      rfl
    | cons q r2 =>
      have e1 : qs ++ p :: q :: r2 = (qs ++ [p]) ++ q :: r2 := by simp
      rw [hr] at hst hn
      rw [e1] at hst ⊢
      have hn : q.1 - 1 = p.1 + n := hn
      have hq := hst.2.2 q.1 (List.mem_map_of_mem (by simp))
      rw [nfold_g top (q :: r2) (qs ++ [p]) _ q.1 hst (fun p' hp' => by cases hp'; rfl) (by simp)]
      have hadd := gfold_add (F := atF ((qs ++ [p]) ++ q :: r2)) (n + 1) (top + 1 - q.1).toNat p.1 s
      rw [show p.1 + ((n + 1 : Nat) : Int) = q.1 by omega] at hadd
      rw [← hadd, show (top + 1 - p.1).toNat = (n + 1) + (top + 1 - q.1).toNat by omega]
theorem normal_g {top : Int} {ps : List Pc} (hst : StOk top (ps.map (·.1))) : normalF (stretchF ps top) = (gfold (atF ps) (top + 1).toNat 0 ([], 0, none)).1 := by
  have hne : ps ≠ [] := fun e => by
    have := hst.1
    rw [e] at this
    cases this
  have h := nfold_g top ps [] ([], 0, none) 0 (by simpa using hst) (fun p hp => by
    have := hst.1
    rw [List.head?_map, hp] at this
    exact (Option.some.inj this).symm) hne
  rw [List.nil_append] at h
  show ((stretchF ps top).foldl nstep ([], 0, none)).1 = _
  rw [h, show top + 1 - 0 = top + 1 by omega]
theorem normal_eq {top : Int} {ps qs : List Pc} (h1 : StOk top (ps.map (·.1))) (h2 : StOk top (qs.map (·.1))) (h : ∀ x, 0 ≤ x → x ≤ top → atF ps x = atF qs x) : normalF (stretchF ps top) = normalF (stretchF qs top) := by
  rw [normal_g h1, normal_g h2, gfold_congr _ _ _ fun y ha hb => h y ha (by omega)]
end Kf
namespace Kf
open PySem PySem.Spec L2 StX ClX Dn
open PyProof.Rows hiding St
variable {P : Program} {w : World} {K : PySem.W.Frag} {mg : Str → Option Value} {base : Heap}
theorem bend_starts (ps : List Pc) (b : Bool) : (bend ps b).map (·.1) = ps.map (·.1) := by
  cases h : ps.reverse with
  | nil =>
    have : ps = [] := by simpa using h
    subst this
    rfl
  | cons q r =>
    have : ps = r.reverse ++ [q] := by
      have := congrArg List.reverse h
      simpa using this
    subst this
    rw [bend_snoc, List.map_append, List.map_append]
    rfl
theorem gfold_starts (F : Int → Int) : ∀ (n : Nat) (x : Int) (s : NS), 0 ≤ x → (x = 0 ∧ s.1 = [] ∨ StOk (x - 1) (s.1.map (·.1))) → (x + n = 0 ∧ (gfold F n x s).1 = [] ∨ StOk (x + n - 1) ((gfold F n x s).1.map (·.1)))
  | 0, x, s, _, h => by
    rw [show x + ((0 : Nat) : Int) = x by omega]
    exact h
  | n + 1, x, s, hx, h => by
    have h1 : StOk (x + 1 - 1) ((gstep s x (F x)).1.map (·.1)) := by
      rw [Int.add_sub_cancel]
      unfold gstep
      split
      · rename_i hj
        show StOk x ((bend s.1 (decide (F x - s.2.1 = 1))).map (·.1))
        rw [bend_starts]
        rcases h with ⟨_, h2⟩ | h2
        · rw [h2] at hj
          cases hj
        · exact ⟨h2.1, h2.2.1, fun y hy => ⟨(h2.2.2 y hy).1, by have := (h2.2.2 y hy).2; omega⟩⟩
      · show StOk x ((s.1 ++ [(x, F x, false)]).map (·.1))
        rw [List.map_append]
        rcases h with ⟨h2, h3⟩ | h2
        · rw [h3, h2]
          exact ⟨rfl, List.pairwise_singleton _ _, fun y hy => by
            have : y = 0 := List.mem_singleton.mp hy
            omega⟩
        · obtain ⟨k1, k2, k3⟩ := h2
          refine ⟨?_, List.pairwise_append.mpr ⟨k2, List.pairwise_singleton _ _, fun a ha b hb => ?_⟩, fun y hy => ?_⟩
          · rw [List.head?_append, k1]
            rfl
          · have : b = x := List.mem_singleton.mp hb
            have := (k3 a ha).2
            omega
          · rcases List.mem_append.mp hy with h4 | h4
            · have := k3 y h4
              omega
            · have : y = x := List.mem_singleton.mp h4
              omega
    have := gfold_starts F n (x + 1) _ (by omega) (.inr h1)
    rw [show x + 1 + (n : Int) = x + ((n + 1 : Nat) : Int) by omega] at this
    exact this
theorem normal_starts {top : Int} {ps : List Pc} (ht : 0 ≤ top) (hst : StOk top (ps.map (·.1))) : StOk top ((normalF (stretchF ps top)).map (·.1)) := by
  rw [normal_g hst]
  rcases gfold_starts (atF ps) (top + 1).toNat 0 ([], 0, none) (Int.le_refl _) (.inl ⟨rfl, rfl⟩) with ⟨h, _⟩ | h
  · omega
  · rw [show 0 + ((top + 1).toNat : Int) - 1 = top by omega] at h
    exact h
theorem normal_val {top : Int} {ps : List Pc} (hst : StOk top (ps.map (·.1))) {x : Int} (h0 : 0 ≤ x) (h1 : x ≤ top) : valAt (normalF (stretchF ps top)) x = atF ps x := by
  have h := normal_starts (by omega) hst
  rw [valAt_at h.2.1 ⟨0, h.1, h0⟩, normal_at hst h0 h1]
theorem normal_idem {top : Int} {ps : List Pc} (ht : 0 ≤ top) (hst : StOk top (ps.map (·.1))) : normalF (stretchF (normalF (stretchF ps top)) top) = normalF (stretchF ps top) :=
  normal_eq (normal_starts ht hst) hst fun x h0 h1 => normal_at hst h0 h1
theorem normal_inj {top : Int} {ps qs : List Pc} (h1 : StOk top (ps.map (·.1))) (h2 : StOk top (qs.map (·.1))) (h : normalF (stretchF ps top) = normalF (stretchF qs top)) {x : Int} (h3 : 0 ≤ x) (h4 : x ≤ top) : atF ps x = atF qs x := by
  rw [← normal_at h1 h3 h4, ← normal_at h2 h3 h4, h]
end Kf
namespace Kf
open PySem PySem.Spec L2 StX ClX Dn
open PyProof.Rows hiding St
variable {P : Program} {w : World} {K : PySem.W.Frag} {mg : Str → Option Value} {base : Heap}
def Mono (F : Int → Int) (top l e : Int) : Prop := l ≤ F e ∧ ∀ x, e ≤ x → x < top → F x ≤ F (x + 1)
theorem run_mono (top : Int) : ∀ (r qs : List Pc) (l e : Int), StOk top ((qs ++ r).map (·.1)) → (∀ p, r.head? = some p → e = p.1) → r ≠ [] →
    (Mono (atF (qs ++ r)) top l e → runR l (stretchF r top) = some (atF (qs ++ r) top)) ∧ (¬ Mono (atF (qs ++ r)) top l e → runR l (stretchF r top) = none)
  | [], _, _, _, _, _, hr => absurd rfl hr
  | p :: r, qs, l, e, hst, he, _ => by
    have hpe : e = p.1 := he p rfl
    subst hpe
    have hmem : p.1 ∈ (qs ++ p :: r).map (·.1) := List.mem_map_of_mem (by simp)
    have hb := hst.2.2 p.1 hmem
    have hpw := hst.2.1
    rw [List.map_append, List.map_cons, List.pairwise_append] at hpw
    have hgt : ∀ q ∈ r, p.1 < q.1 := fun q hq => (List.pairwise_cons.mp hpw.2.1).1 q.1 (List.mem_map_of_mem hq)
    have hpwr : (r.map (·.1)).Pairwise (· < ·) := (List.pairwise_cons.mp hpw.2.1).2
    have hend : p.1 ≤ endOf top r ∧ endOf top r ≤ top := by
      cases r with
      | nil => exact ⟨hb.2, Int.le_refl _⟩
      | cons q r =>
        have h1 := hgt q List.mem_cons_self
        have h2 := hst.2.2 q.1 (List.mem_map_of_mem (by simp))
        show p.1 ≤ q.1 - 1 ∧ q.1 - 1 ≤ top
        omega
    have hlt : ∀ x, x ≤ endOf top r → ∀ q ∈ r, x < q.1 := by
      intro x hx q hq
      cases r with
      | nil => cases hq
      | cons q0 r =>
        have hx : x ≤ q0.1 - 1 := hx
        rcases List.mem_cons.mp hq with rfl | hq
        · omega
        · rw [List.map_cons] at hpwr
          have := (List.pairwise_cons.mp hpwr).1 q.1 (List.mem_map_of_mem hq)
          omega
    have hF : ∀ x, p.1 ≤ x → x ≤ endOf top r → atF (qs ++ p :: r) x = pval p x := fun x h1 h2 => atF_mid qs p r x h1 (hlt x h2)
    have hF0 : atF (qs ++ p :: r) p.1 = p.2.1 := by
      rw [hF p.1 (Int.le_refl _) hend.1]
      unfold pval
      split <;> omega
    have hFe : lastRow (p.1, endOf top r, p.2.1, p.2.2) = atF (qs ++ p :: r) (endOf top r) := by
      rw [hF _ hend.1 (Int.le_refl _)]
      rfl
    have hin : ∀ x, p.1 ≤ x → x < endOf top r → atF (qs ++ p :: r) x ≤ atF (qs ++ p :: r) (x + 1) := fun x h1 h2 => by
      rw [hF x h1 (by omega), hF (x + 1) (by omega) (by omega)]
      unfold pval
      split <;> omega
    have hrun : runR l (stretchF (p :: r) top) = if p.2.1 < l then none else runR (atF (qs ++ p :: r) (endOf top r)) (stretchF r top) := by
      rw [stretch_cons]
      show (if p.2.1 < l then none else runR (lastRow (p.1, endOf top r, p.2.1, p.2.2)) (stretchF r top)) = _
      rw [hFe]
    rw [hrun]
    cases hr : r with
    | nil =>
      subst hr
      have e1 : endOf top [] = top := rfl
      rw [e1] at hin ⊢
      refine ⟨fun hm => ?_, fun hm => ?_⟩
      · have := hm.1
        rw [hF0] at this
        rw [if_neg (by omega)]
        rfl
      · by_cases hl : p.2.1 < l
        · rw [if_pos hl]
        · exact absurd ⟨by rw [hF0]; omega, hin⟩ hm
    | cons q r2 =>
      subst hr
      have e1 : qs ++ p :: q :: r2 = (qs ++ [p]) ++ q :: r2 := by simp
      have e2 : endOf top (q :: r2) = q.1 - 1 := rfl
      have hq := hst.2.2 q.1 (List.mem_map_of_mem (by simp))
      rw [e2] at hin hend ⊢
      have ih := run_mono top (q :: r2) (qs ++ [p]) (atF (qs ++ p :: q :: r2) (q.1 - 1)) q.1 (by rw [← e1]; exact hst) (fun p' hp' => by cases hp'; rfl) (by simp)
      rw [← e1] at ih
      refine ⟨fun hm => ?_, fun hm => ?_⟩
      · have h1 := hm.1
        rw [hF0] at h1
        rw [if_neg (by omega)]
        refine ih.1 ⟨?_, fun x h1 h2 => hm.2 x (by omega) h2⟩
        have := hm.2 (q.1 - 1) hend.1 (by omega)
        rw [show q.1 - 1 + 1 = q.1 by omega] at this
        exact this
      · by_cases hl : p.2.1 < l
        · rw [if_pos hl]
        · rw [if_neg hl]
          refine ih.2 fun hm2 => hm ⟨by rw [hF0]; omega, fun x h1 h2 => ?_⟩
          by_cases h3 : x < q.1 - 1
          · exact hin x h1 h3
          · by_cases h4 : x = q.1 - 1
            · subst h4
              rw [show q.1 - 1 + 1 = q.1 by omega]
              exact hm2.1
            · exact hm2.2 x (by omega) h2
theorem stays_iff {top g : Int} {ps : List Pc} (hst : StOk top (ps.map (·.1))) : stays g 0 (stretchF ps top) = true ↔ Mono (atF ps) top 0 0 ∧ atF ps top ≤ g := by
  have hne : ps ≠ [] := fun e => by
    have := hst.1
    rw [e] at this
    cases this
  have h := run_mono top ps [] 0 0 (by simpa using hst) (fun p hp => by
    have := hst.1
    rw [List.head?_map, hp] at this
    exact (Option.some.inj this).symm) hne
  rw [List.nil_append] at h
  rw [stays_run]
  by_cases hm : Mono (atF ps) top 0 0
  · rw [h.1 hm]
    exact ⟨fun z => ⟨hm, of_decide_eq_true z⟩, fun z => decide_eq_true z.2⟩
  · rw [h.2 hm]
    exact ⟨fun z => (by cases z), fun z => absurd z.1 hm⟩
end Kf
namespace Kf
open PySem PySem.Spec L2 StX ClX Dn
open PyProof.Rows hiding St
variable {P : Program} {w : World} {K : PySem.W.Frag} {mg : Str → Option Value} {base : Heap}
theorem mono_nn {F : Int → Int} {top : Int} (h : Mono F top 0 0) : ∀ n : Nat, (n : Int) ≤ top → 0 ≤ F n
  | 0, _ => h.1
  | n + 1, hn => by
    have h1 := mono_nn h n (by omega)
    have h2 := h.2 n (by omega) (by omega)
    have : ((n + 1 : Nat) : Int) = (n : Int) + 1 := by omega
    rw [this]
    omega
theorem normal_ok {top g : Int} {ps : List Pc} (ht : 0 ≤ top) (h : PsOk top g ps) : PsOk top g (normalF (stretchF ps top)) := by
  obtain ⟨_, h1, h2⟩ := h
  obtain ⟨hst, _⟩ := arePieces_tells h1
  obtain ⟨hm, hg⟩ := (stays_iff hst).mp h2
  have hN := normal_starts ht hst
  have hat : ∀ x, 0 ≤ x → x ≤ top → atF (normalF (stretchF ps top)) x = atF ps x := fun x a b => normal_at hst a b
  generalize normalF (stretchF ps top) = N at *
  have hne : N ≠ [] := fun e => by
    have := hN.1
    rw [e] at this
    cases this
  refine ⟨hne, arePieces_of hN fun p hp => ?_, (stays_iff hN).mpr ⟨⟨?_, fun x a b => ?_⟩, ?_⟩⟩
  · have hb := hN.2.2 p.1 (List.mem_map_of_mem hp)
    obtain ⟨a, b, hab⟩ := List.append_of_mem hp
    have hgt : ∀ q ∈ b, p.1 < q.1 := by
      have hpw := hN.2.1
      rw [hab, List.map_append, List.map_cons, List.pairwise_append] at hpw
      exact fun q hq => (List.pairwise_cons.mp hpw.2.1).1 q.1 (List.mem_map_of_mem hq)
    have e1 : atF N p.1 = p.2.1 := by
      rw [hab, atF_mid a p b p.1 (Int.le_refl _) hgt]
      unfold pval
      split <;> omega
    rw [← e1, hat p.1 hb.1 hb.2]
    have := mono_nn hm p.1.toNat (by omega)
    rw [show ((p.1.toNat : Nat) : Int) = p.1 by omega] at this
    exact this
  · rw [hat 0 (Int.le_refl _) ht]
    exact hm.1
  · rw [hat x a (by omega), hat (x + 1) (by omega) (by omega)]
    exact hm.2 x a b
  · rw [hat top ht (Int.le_refl _)]
    exact hg
end Kf
namespace Kf
open PySem PySem.Spec L2 StX ClX Dn
open PyProof.Rows hiding St
variable {P : Program} {w : World} {K : PySem.W.Frag} {mg : Str → Option Value} {base : Heap}
def Cov (F : Int → Int) : List Row → Int → Int → Prop
  | [], lo, hi => lo = hi + 1
  | r :: rs, lo, hi => r.1 = lo ∧ lo ≤ r.2.1 ∧ (∀ x, lo ≤ x → x ≤ r.2.1 → onRow r x = F x) ∧ Cov F rs (r.2.1 + 1) hi
theorem cov_le {F : Int → Int} : ∀ {rs : List Row} {lo hi : Int}, Cov F rs lo hi → lo ≤ hi + 1
  | [], lo, hi, h => by
    have h : lo = hi + 1 := h
    omega
  | r :: rs, lo, hi, h => by
    have := cov_le h.2.2.2
    have := h.2.1
    omega
theorem cov_get {F : Int → Int} : ∀ {rs : List Row} {lo hi : Int} {i : Nat} {r : Row}, Cov F rs lo hi → rs[i]? = some r → lo ≤ r.1 ∧ r.1 ≤ r.2.1 ∧ r.2.1 ≤ hi ∧ ∀ x, r.1 ≤ x → x ≤ r.2.1 → onRow r x = F x
  | r :: rs, lo, hi, 0, r', h, e => by
    cases e
    obtain ⟨h1, h2, h3, h4⟩ := h
    subst h1
    have := cov_le h4
    exact ⟨Int.le_refl _, h2, by omega, h3⟩
  | r :: rs, lo, hi, i + 1, r', h, e => by
    obtain ⟨h1, h2, h3, h4⟩ := h
    obtain ⟨a, b, c, d⟩ := cov_get h4 (by simpa using e)
    exact ⟨by omega, b, c, d⟩
theorem cov_next {F : Int → Int} : ∀ {rs : List Row} {lo hi : Int} {i : Nat} {r q : Row}, Cov F rs lo hi → rs[i]? = some r → rs[i + 1]? = some q → q.1 = r.2.1 + 1
  | r :: q :: rs, lo, hi, 0, r', q', h, e, e2 => by
    cases e
    cases e2
    exact h.2.2.2.1
  | [r], lo, hi, 0, r', q', h, e, e2 => by simp at e2
  | r :: rs, lo, hi, i + 1, r', q', h, e, e2 => cov_next h.2.2.2 (by simpa using e) (by simpa using e2)
theorem cov_last {F : Int → Int} : ∀ {rs : List Row} {lo hi : Int} {i : Nat} {r : Row}, Cov F rs lo hi → rs[i]? = some r → rs[i + 1]? = none → r.2.1 = hi
  | [r], lo, hi, 0, r', h, e, e2 => by
    cases e
    have h : r.2.1 + 1 = hi + 1 := h.2.2.2
    omega
  | r :: q :: rs, lo, hi, 0, r', h, e, e2 => by simp at e2
  | r :: rs, lo, hi, i + 1, r', h, e, e2 => cov_last h.2.2.2 (by simpa using e) (by simpa using e2)
theorem cov_first {F : Int → Int} {rs : List Row} {lo hi : Int} {r : Row} (h : Cov F rs lo hi) (e : rs[0]? = some r) : r.1 = lo := by
  cases rs with
  | nil => simp at e
  | cons q rs => cases e; exact h.1
theorem cov_ne {F : Int → Int} {rs : List Row} {lo hi : Int} (h : Cov F rs lo hi) (hl : lo ≤ hi) : 0 < rs.length := by
  cases rs with
  | nil =>
    have h : lo = hi + 1 := h
    omega
  | cons r rs => simp
theorem cov_app {F : Int → Int} : ∀ {rs qs : List Row} {lo mid hi : Int}, Cov F rs lo mid → Cov F qs (mid + 1) hi → Cov F (rs ++ qs) lo hi
  | [], qs, lo, mid, hi, h, h2 => by
    have h : lo = mid + 1 := h
    rw [h]
    exact h2
  | r :: rs, qs, lo, mid, hi, h, h2 => ⟨h.1, h.2.1, h.2.2.1, cov_app h.2.2.2 h2⟩
theorem cov_one {F : Int → Int} {r : Row} (h : r.1 ≤ r.2.1) (hF : ∀ x, r.1 ≤ x → x ≤ r.2.1 → onRow r x = F x) : Cov F [r] r.1 r.2.1 := ⟨rfl, h, hF, rfl⟩
theorem cov_snoc {F : Int → Int} {rs : List Row} {r : Row} {lo a : Int} (h : Cov F rs lo (a - 1)) (e : r.1 = a) (hl : r.1 ≤ r.2.1) (hF : ∀ x, r.1 ≤ x → x ≤ r.2.1 → onRow r x = F x) : Cov F (rs ++ [r]) lo r.2.1 := by
  refine cov_app h ?_
  rw [show a - 1 + 1 = r.1 by omega]
  exact cov_one hl hF
theorem cov_congr {F G : Int → Int} : ∀ {rs : List Row} {lo hi : Int}, Cov F rs lo hi → (∀ x, lo ≤ x → x ≤ hi → F x = G x) → Cov G rs lo hi
  | [], _, _, h, _ => h
  | r :: rs, lo, hi, h, e => by
    obtain ⟨h1, h2, h3, h4⟩ := h
    have := cov_le h4
    exact ⟨h1, h2, fun x a b => (h3 x a b).trans (e x a (by omega)), cov_congr h4 fun x a b => e x (by omega) b⟩
theorem cov_uniq {F G : Int → Int} : ∀ {rs : List Row} {lo hi : Int}, Cov F rs lo hi → Cov G rs lo hi → ∀ x, lo ≤ x → x ≤ hi → F x = G x
  | [], lo, hi, h, _, x, a, b => by
    have h : lo = hi + 1 := h
    omega
  | r :: rs, lo, hi, h, g, x, a, b => by
    by_cases hx : x ≤ r.2.1
    · exact (h.2.2.1 x a hx).symm.trans (g.2.2.1 x a hx)
    · exact cov_uniq h.2.2.2 g.2.2.2 x (by omega) b
theorem cov_run (top : Int) : ∀ (r qs : List Pc) (e : Int), StOk top ((qs ++ r).map (·.1)) → (∀ p, r.head? = some p → e = p.1) → r ≠ [] → Cov (atF (qs ++ r)) (stretchF r top) e top
  | [], _, _, _, _, hr => absurd rfl hr
  | p :: r, qs, e, hst, he, _ => by
    have hpe : e = p.1 := he p rfl
    subst hpe
    have hmem : p.1 ∈ (qs ++ p :: r).map (·.1) := List.mem_map_of_mem (by simp)
    have hb := hst.2.2 p.1 hmem
    have hgt : ∀ q ∈ r, p.1 < q.1 := by
      have hpw := hst.2.1
      rw [List.map_append, List.map_cons, List.pairwise_append] at hpw
      exact fun q hq => (List.pairwise_cons.mp hpw.2.1).1 q.1 (List.mem_map_of_mem hq)
    have hpwr : (r.map (·.1)).Pairwise (· < ·) := by
      have hpw := hst.2.1
      rw [List.map_append, List.map_cons, List.pairwise_append] at hpw
      exact (List.pairwise_cons.mp hpw.2.1).2
    have hend : p.1 ≤ endOf top r := by
      cases r with
      | nil => exact hb.2
      | cons q r =>
        have := hgt q List.mem_cons_self
        show p.1 ≤ q.1 - 1
        omega
    have hlt : ∀ x, x ≤ endOf top r → ∀ q ∈ r, x < q.1 := by
      intro x hx q hq
      cases r with
      | nil => cases hq
      | cons q0 r =>
        have hx : x ≤ q0.1 - 1 := hx
        rcases List.mem_cons.mp hq with rfl | hq
        · omega
        · rw [List.map_cons] at hpwr
          have := (List.pairwise_cons.mp hpwr).1 q.1 (List.mem_map_of_mem hq)
          omega
    rw [stretch_cons]
    refine ⟨rfl, hend, fun x hx1 hx2 => ?_, ?_⟩
    · rw [atF_mid qs p r x hx1 (hlt x hx2)]
      rfl
    · cases hr : r with
      | nil => rfl
      | cons q r2 =>
        have e1 : qs ++ p :: q :: r2 = (qs ++ [p]) ++ q :: r2 := by simp
        rw [hr] at hst
        rw [e1] at hst ⊢
        have e2 : endOf top (q :: r2) + 1 = q.1 := by
          show q.1 - 1 + 1 = q.1
          omega
        show Cov _ _ (endOf top (q :: r2) + 1) _
        rw [e2]
        exact cov_run top (q :: r2) (qs ++ [p]) q.1 hst (fun p' hp' => by cases hp'; rfl) (by simp)
theorem rows_cov {top : Int} {ps : List Pc} (hst : StOk top (ps.map (·.1))) : Cov (atF ps) (stretchF ps top) 0 top := by
  have hne : ps ≠ [] := fun e => by
    have := hst.1
    rw [e] at this
    cases this
  exact cov_run top ps [] 0 (by simpa using hst) (fun p hp => by
    have := hst.1
    rw [List.head?_map, hp] at this
    exact (Option.some.inj this).symm) hne
def pcs (rs : List Row) : List Pc := rs.map fun r => (r.1, r.2.2.1, r.2.2.2)
theorem pcs_stretch {F : Int → Int} : ∀ {rs : List Row} {lo hi : Int}, Cov F rs lo hi → stretchF (pcs rs) hi = rs
  | [], _, _, _ => rfl
  | [r], lo, hi, h => by
    have h2 : r.2.1 + 1 = hi + 1 := h.2.2.2
    have h2 : hi = r.2.1 := by omega
    subst h2
    rfl
  | r :: q :: rs, lo, hi, h => by
    have ih := pcs_stretch h.2.2.2
    have h2 : q.1 = r.2.1 + 1 := h.2.2.2.1
    show (r.1, q.1 - 1, r.2.2.1, r.2.2.2) :: stretchF (pcs (q :: rs)) hi = _
    rw [ih, h2, show r.2.1 + 1 - 1 = r.2.1 by omega]
theorem pcs_starts {F : Int → Int} : ∀ {rs : List Row} {lo hi : Int}, Cov F rs lo hi → ((pcs rs).map (·.1)).Pairwise (· < ·) ∧ ∀ y ∈ (pcs rs).map (·.1), lo ≤ y ∧ y ≤ hi
  | [], _, _, _ => ⟨List.Pairwise.nil, fun y hy => by cases hy⟩
  | r :: rs, lo, hi, h => by
    obtain ⟨h1, h2, h3, h4⟩ := h
    obtain ⟨a, b⟩ := pcs_starts h4
    have := cov_le h4
    refine ⟨List.pairwise_cons.mpr ⟨fun y hy => ?_, a⟩, fun y hy => ?_⟩
    · have := b y hy
      show r.1 < y
      omega
    · rcases List.mem_cons.mp hy with rfl | hy
      · show lo ≤ r.1 ∧ r.1 ≤ hi
        omega
      · have := b y hy
        omega
theorem pcs_ok {F : Int → Int} {rs : List Row} {top : Int} (ht : 0 ≤ top) (h : Cov F rs 0 top) : StOk top ((pcs rs).map (·.1)) := by
  obtain ⟨a, b⟩ := pcs_starts h
  refine ⟨?_, a, b⟩
  cases rs with
  | nil =>
    have h : (0 : Int) = top + 1 := h
    omega
  | cons r rs =>
    show some r.1 = some 0
    rw [h.1]
theorem pcs_at {F : Int → Int} {rs : List Row} {top : Int} (ht : 0 ≤ top) (h : Cov F rs 0 top) : ∀ x, 0 ≤ x → x ≤ top → atF (pcs rs) x = F x := by
  have h1 := rows_cov (pcs_ok ht h)
  rw [pcs_stretch h] at h1
  exact cov_uniq h1 h
def nf (F : Int → Int) (t : Int) : List Pc := (gfold F (t + 1).toNat 0 ([], 0, none)).1
theorem nf_congr {F G : Int → Int} {t : Int} (h : ∀ x, 0 ≤ x → x ≤ t → F x = G x) : nf F t = nf G t := by
  unfold nf
  rw [gfold_congr _ _ _ fun y ha hb => h y ha (by omega)]
theorem normal_nf {F : Int → Int} {rs : List Row} {top : Int} (ht : 0 ≤ top) (h : Cov F rs 0 top) : normalF rs = nf F top := by
  have h1 := normal_g (pcs_ok ht h)
  rw [pcs_stretch h] at h1
  rw [h1]
  exact nf_congr (pcs_at ht h)
structure Good (F : Int → Int) (t g : Int) : Prop where
  t0 : 0 ≤ t
  g0 : 0 ≤ g
  lo : 0 ≤ F 0
  up : ∀ x, 0 ≤ x → x < t → F x ≤ F (x + 1)
  hi : F t ≤ g
theorem Good.leN {F : Int → Int} {t g : Int} (h : Good F t g) {x : Int} (hx : 0 ≤ x) : ∀ n : Nat, x + n ≤ t → F x ≤ F (x + n)
  | 0, _ => by
    rw [show x + ((0 : Nat) : Int) = x by omega]
    exact Int.le_refl _
  | n + 1, hn => by
    have h1 := h.leN hx n (by omega)
    have h2 := h.up (x + n) (by omega) (by omega)
    rw [show x + ((n + 1 : Nat) : Int) = x + n + 1 by omega]
    omega
theorem Good.le {F : Int → Int} {t g : Int} (h : Good F t g) {x y : Int} (hx : 0 ≤ x) (hxy : x ≤ y) (hy : y ≤ t) : F x ≤ F y := by
  have := h.leN hx (y - x).toNat (by omega)
  rw [show x + ((y - x).toNat : Int) = y by omega] at this
  exact this
theorem Good.nn {F : Int → Int} {t g : Int} (h : Good F t g) {x : Int} (hx : 0 ≤ x) (ht : x ≤ t) : 0 ≤ F x := by
  have h1 := h.le (Int.le_refl 0) hx ht
  have h2 := h.lo
  omega
theorem Good.ub {F : Int → Int} {t g : Int} (h : Good F t g) {x : Int} (hx : 0 ≤ x) (ht : x ≤ t) : F x ≤ g := by
  have h1 := h.le hx ht (Int.le_refl t)
  have h2 := h.hi
  omega
def IsP (C : Addr) (t g : Int) (F : Int → Int) (N : Nat) (d : D) : Prop := d = psgD C t g (nf F t) ∧ StOk t ((nf F t).map (·.1)) ∧ (∀ x, 0 ≤ x → x ≤ t → atF (nf F t) x = F x) ∧ Good F t g ∧ (nf F t).length ≤ N
theorem IsP.mono {C : Addr} {t g : Int} {F : Int → Int} {N M : Nat} {d : D} (h : IsP C t g F N d) (hn : N ≤ M) : IsP C t g F M d := ⟨h.1, h.2.1, h.2.2.1, h.2.2.2.1, Nat.le_trans h.2.2.2.2 hn⟩
theorem IsP.rows {C : Addr} {t g : Int} {F : Int → Int} {N : Nat} {d : D} (h : IsP C t g F N d) : Cov F (stretchF (nf F t) t) 0 t := cov_congr (rows_cov h.2.1) h.2.2.1
theorem isP_of {C : Addr} {t g : Int} {F : Int → Int} {N : Nat} {rs : List Row} (hg : Good F t g) (h : Cov F rs 0 t) (hl : rs.length ≤ N) : IsP C t g F N (psgD C t g (normalF rs)) := by
  have e := normal_nf hg.t0 h
  have hst := pcs_ok hg.t0 h
  refine ⟨by rw [e], ?_, fun x h0 h1 => ?_, hg, ?_⟩
  · have := normal_starts hg.t0 hst
    rw [pcs_stretch h, e] at this
    exact this
  · have := normal_at hst h0 h1
    rw [pcs_stretch h, e] at this
    rw [this]
    exact pcs_at hg.t0 h x h0 h1
  · rw [← e]
    have := nrun_length rs ([], 0, none)
    unfold normalF nrun
    simp at this
    omega
theorem isP_eq {C : Addr} {t g : Int} {F G : Int → Int} {N M : Nat} {d e : D} (h1 : IsP C t g F N d) (h2 : IsP C t g G M e) : nf F t = nf G t ↔ ∀ x, 0 ≤ x → x ≤ t → F x = G x := by
  refine ⟨fun h x a b => ?_, nf_congr⟩
  rw [← h1.2.2.1 x a b, ← h2.2.2.1 x a b, h]
theorem init_wants {F : Int → Int} {t g : Int} {rs : List Row} (hg : Good F t g) (h : Cov F rs 0 t) : arePieces (.lst ((pcs rs).map pcD)) t = true ∧ stays g 0 (stretchF (pcs rs) t) = true := by
  have hst := pcs_ok hg.t0 h
  have hat := pcs_at hg.t0 h
  have hc := pcs_starts h
  refine ⟨arePieces_of hst fun p hp => ?_, (stays_iff hst).mpr ⟨⟨?_, fun x h0 h1 => ?_⟩, ?_⟩⟩
  · obtain ⟨r, hr, rfl⟩ := List.mem_map.mp hp
    obtain ⟨i, hi⟩ := List.getElem?_of_mem hr
    obtain ⟨a, b, c, d⟩ := cov_get h hi
    have e := d r.1 (Int.le_refl _) b
    have e2 : onRow r r.1 = r.2.2.1 := by
      unfold onRow
      split <;> omega
    show 0 ≤ r.2.2.1
    rw [← e2, e]
    exact hg.nn a (by omega)
  · rw [hat 0 (Int.le_refl _) hg.t0]
    exact hg.lo
  · rw [hat x h0 (by omega), hat (x + 1) (by omega) (by omega)]
    exact hg.up x h0 h1
  · rw [hat t hg.t0 (Int.le_refl _)]
    exact hg.hi
end Kf
namespace Kf
open PySem PySem.Spec L2 StX ClX Dn
open PyProof.Rows hiding St
variable {P : Program} {w : World} {K : PySem.W.Frag} {mg : Str → Option Value} {base : Heap}
def lesF (a b : Int) : Int := if a < b then a else b
def F_lesser : FT := fun args st Ret _ => ∃ a b, args = [.dat (.int a), .dat (.int b)] ∧ Ret (.dat (.int (lesF a b))) st
theorem ok_lesser {f : Addr} {fd : FuncData} (Fn : Fun K "lesser" "lesser" s_lesser f fd) (b : Binds K fd p_lesser []) : FnG P w K mg base (L2.CX P w) 1 f (spD K F_lesser) := by
  refine fnD Fn sc_lesser b (fun args st0 Ret Exc h => ?_) ?_
  · obtain ⟨a, c, rfl, _⟩ := h
    rfl
  intro cdv A outer s H E H0 Al args st0 Ret Exc hr xk hp hal hcl hF
  obtain ⟨a, c, rfl, q⟩ := hF
  have q2 := krE_of hcl q
  refine sw_cons ?_
  refine sw_ret ?_
  refine ew_if ?_
  refine tw_cmp (nomark _) ?_
  refine ew_name 0 rfl ?_
  refine ew_name 1 rfl ?_
  refine o_lt ?_
  refine ⟨_, rfl, ?_⟩
  unfold lesF at q2
  refine ifD (fun h => ?_) (fun h => ?_)
  · refine ew_name 0 rfl ?_
    rw [if_pos h] at q2
    exact q2
  · refine ew_name 1 rfl ?_
    rw [if_neg h] at q2
    exact q2
theorem itm_map {α : Type} {g : α → D} {st : List Ob} {xs : List α} {j : Nat} {x : α} (h : xs[j]? = some x) : Itm st (.dat (.lst (xs.map g))) (j : Int) = some (.dat (g x)) := itm_lst rfl (by rw [List.getElem?_map, h]; rfl)
end Kf
namespace Kf
open PySem PySem.Spec L2 StX ClX Dn
open PyProof.Rows hiding St
variable {P : Program} {w : World} {K : PySem.W.Frag} {mg : Str → Option Value} {base : Heap}
def tabF (zs : List Int) (x : Int) : Int := zs.getD x.toNat 0
theorem rowsFrom_len : ∀ (k : Int) (xs : List D), (rowsFrom k xs).length = xs.length
  | _, [] => rfl
  | k, x :: xs => by
    show (rowsFrom (k + 1) xs).length + 1 = _
    rw [rowsFrom_len (k + 1) xs]
    rfl
theorem rowsFrom_cov {F : Int → Int} : ∀ (zs : List Int) (k : Int), (∀ (i : Nat) (z : Int), zs[i]? = some z → F (k + i) = z) → Cov F (rowsFrom k (zs.map D.int)) k (k + zs.length - 1)
  | [], k, _ => by
    show k = k + ((0 : Nat) : Int) - 1 + 1
    omega
  | z :: zs, k, h => by
    have ih := rowsFrom_cov zs (k + 1) fun i y hy => by
      have := h (i + 1) y (by simpa using hy)
      rw [show k + 1 + (i : Int) = k + ((i + 1 : Nat) : Int) by omega]
      exact this
    refine ⟨rfl, Int.le_refl _, fun x h1 h2 => ?_, ?_⟩
    · have h2 : x ≤ k := h2
      have : x = k := by omega
      subst this
      have := h 0 z rfl
      rw [show x + ((0 : Nat) : Int) = x by omega] at this
      rw [this]
      rfl
    · show Cov F (rowsFrom (k + 1) (zs.map D.int)) (k + 1) _
      rw [List.length_cons, show k + ((zs.length + 1 : Nat) : Int) - 1 = k + 1 + (zs.length : Int) - 1 by omega]
      exact ih
theorem tabF_at {zs : List Int} {i : Nat} {z : Int} (h : zs[i]? = some z) : tabF zs (i : Int) = z := by
  unfold tabF
  rw [Int.toNat_natCast, List.getD_eq_getElem?_getD, h]
  rfl
theorem tab_good {g : Int} {zs : List Int} (h : TabZ g zs) (hg : 0 ≤ g) (hl : 0 < zs.length) : Good (tabF zs) ((zs.length : Int) - 1) g := by
  have at_ : ∀ x : Int, 0 ≤ x → x < zs.length → ∃ z, zs[x.toNat]? = some z ∧ tabF zs x = z := fun x h0 h1 => by
    have hx : x.toNat < zs.length := by omega
    have e := List.getElem?_eq_getElem hx
    refine ⟨_, e, ?_⟩
    have := tabF_at e
    rwa [show ((x.toNat : Nat) : Int) = x by omega] at this
  refine ⟨by omega, hg, ?_, fun x h0 h1 => ?_, ?_⟩
  · obtain ⟨z, e, e2⟩ := at_ 0 (Int.le_refl _) (by omega)
    rw [e2]
    exact (h.1 z (List.mem_of_getElem? e)).1
  · obtain ⟨z, e, e2⟩ := at_ x h0 (by omega)
    obtain ⟨y, e3, e4⟩ := at_ (x + 1) (by omega) (by omega)
    rw [e2, e4]
    rw [show (x + 1).toNat = x.toNat + 1 by omega] at e3
    exact h.2 _ _ _ e e3
  · obtain ⟨z, e, e2⟩ := at_ ((zs.length : Int) - 1) (by omega) (by omega)
    rw [e2]
    exact (h.1 z (List.mem_of_getElem? e)).2
theorem tab_isP {C : Addr} {g : Int} {zs : List Int} (h : TabZ g zs) (hg : 0 ≤ g) (hl : 0 < zs.length) : IsP C ((zs.length : Int) - 1) g (tabF zs) zs.length (psgD C (((zs.map D.int).length : Int) - 1) g (normalF (rowsFrom 0 (zs.map D.int)))) := by
  rw [List.length_map]
  refine isP_of (tab_good h hg hl) ?_ (by rw [rowsFrom_len, List.length_map]; exact Nat.le_refl _)
  have := rowsFrom_cov (F := tabF zs) zs 0 fun i z hz => by
    rw [Int.zero_add]
    exact tabF_at hz
  rwa [Int.zero_add] at this
theorem same_isP {C : Addr} {n : Int} (hn : 0 ≤ n) : IsP C n n (fun x => x) 1 (psgD C n n [(0, 0, decide (0 < n))]) := by
  have e1 : normalF [((0 : Int), n, (0 : Int), true)] = [(0, 0, decide (0 < n))] := by
    show (nstep ([], 0, none) (0, n, 0, true)).1 = _
    unfold nstep nfin nps nsl nlow joins
    simp only [List.isEmpty_nil, Bool.not_true, Bool.false_and, Bool.false_eq_true, if_false, if_pos hn]
    by_cases h : 0 < n
    · rw [if_pos h, decide_eq_true h]
      rfl
    · rw [if_neg h, decide_eq_false h]
      rfl
  rw [← e1]
  refine isP_of ⟨hn, hn, Int.le_refl _, fun x _ _ => by show x ≤ x + 1; omega, Int.le_refl _⟩ ⟨rfl, hn, fun x h1 h2 => ?_, rfl⟩ (Nat.le_refl _)
  show (0 : Int) + (x - 0) = x
  omega
theorem isP_val {C : Addr} {t g : Int} {F : Int → Int} {N : Nat} {d : D} (h : IsP C t g F N d) {x : Int} (h0 : 0 ≤ x) (h1 : x ≤ t) : valAt (nf F t) x = F x := by
  obtain ⟨_, hst, hat, _⟩ := h
  rw [valAt_at hst.2.1 ⟨0, hst.1, h0⟩]
  exact hat x h0 h1
theorem isP_ne {C : Addr} {t g : Int} {F : Int → Int} {N : Nat} {d : D} (h : IsP C t g F N d) : nf F t ≠ [] := fun e => by
  have := h.2.1.1
  rw [e] at this
  cases this
theorem pieces_isP {C : Addr} {t g : Int} {ps : List Pc} {N : Nat} (ht : 0 ≤ t) (hg : 0 ≤ g) (h : PsOk t g ps) (hl : ps.length ≤ N) : IsP C t g (atF ps) N (psgD C t g (normalF (stretchF ps t))) :=
  isP_of (let ⟨⟨a, b⟩, c⟩ := (stays_iff (arePieces_tells h.2.1).1).mp h.2.2; ⟨ht, hg, a, b, c⟩) (rows_cov (arePieces_tells h.2.1).1) (by rw [stretchF_length]; exact hl)
def F_lpassage (C : Addr) : FT := fun args st Ret _ => ∃ (zs : List Int) (g : Int), args = [.dat (.lst (zs.map D.int)), .dat (.int g)] ∧ TabZ g zs ∧ 0 ≤ g ∧ 0 < zs.length ∧ zs.length ≤ 1000 ∧ ∀ d, IsP C ((zs.length : Int) - 1) g (tabF zs) zs.length d → Ret (.dat d) st
theorem ok_lpassage {f C CE : Addr} {fd : FuncData} (gP : mg "Passage" = some (.ref C)) (C_table : CMt P w K mg base 6 C "table" (F_table C CE)) (Fn : Fun K "_law_passage" "_law_passage" s__law_passage f fd) (b : Binds K fd p__law_passage []) : FnG P w K mg base (L2.CX P w) 7 f (spD K (F_lpassage C)) := by
  refine fnD Fn sc__law_passage b (fun args st0 Ret Exc h => ?_) ?_
  · obtain ⟨zs, g, rfl, _⟩ := h
    rfl
  intro cdv A outer s H E H0 Al args st0 Ret Exc hr xk hp hal hcl hF
  obtain ⟨zs, g, rfl, ht, hg, hl, hl2, q⟩ := hF
  refine sw_cons ?_
  refine sw_ret ?_
  refine ew_cmeth C_table hr (by decide) xk ?_
  refine ew_gadr (by rfl) gP ?_
  refine ⟨rfl, ?_⟩
  refine aw_cons ?_
  refine ew_name 0 rfl ?_
  refine aw_cons ?_
  refine ew_name 1 rfl ?_
  refine aw_nil ?_
  have hT := isTable_tabZ ht (fun e => by rw [e] at hl; exact absurd hl (by decide)) (d := .lst (zs.map D.int)) rfl
  refine ⟨_, _, rfl, ⟨_, rfl⟩, fun xs e => ?_, ⟨_, rfl⟩, fun z => ?_, fun g' e h0 => ⟨fun z => ?_, fun _ xs e2 => ?_⟩⟩
  · cases e
    refine ⟨by rw [List.length_map]; exact hl2, fun x hx => ?_⟩
    obtain ⟨z, _, rfl⟩ := List.mem_map.mp hx
    exact ⟨_, rfl⟩
  · have z : decide (0 ≤ g) = false := z
    rw [decide_eq_true hg] at z
    cases z
  · cases e
    rw [hT] at z
    cases z
  · cases e
    cases e2
    exact krE_of hcl (q _ (tab_isP ht hg hl))
def F_lresults (C : Addr) : FT := fun args st Ret _ => ∃ (F : Int → Int) (t g : Int) (N : Nat) (d : D), args = [.dat d] ∧ IsP C t g F N d ∧ N ≤ 1000 ∧ t ≤ 900 ∧ Ret (.dat (.lst (((List.range (t + 1).toNat).map fun (i : Nat) => F (i : Int)).map D.int))) st
theorem ok_lresults {f C : Addr} {fd : FuncData} (B : Bl mg) (T : PTxt K C) (C_call : CalO P w K mg base 3 C (F_pcall C)) (Fn : Fun K "_law_results" "_law_results" s__law_results f fd) (b : Binds K fd p__law_results []) : FnG P w K mg base (L2.CX P w) 4 f (spD K (F_lresults C)) := by
  refine fnD Fn sc__law_results b (fun args st0 Ret Exc h => ?_) ?_
  · obtain ⟨F, t, g, N, d, rfl, _⟩ := h
    rfl
  intro cdv A outer s H E H0 Al args st0 Ret Exc hr xk hp hal hcl hF
  obtain ⟨F, t, g, N, d, rfl, hP, hN, ht, q⟩ := hF
  have hv := fun x h0 h1 => isP_val hP (x := x) h0 h1
  have hne := isP_ne hP
  obtain ⟨rfl, _, _, hg, hl⟩ := hP
  have ht0 := hg.t0
  refine sw_cons ?_
  refine sw_ret ?_
  refine ew_lc (own := [("_law_x", 1)]) (tb := false) (is := [1]) rfl sc__law_results.nd (blkOk_by (N := n__law_results) (sc := defScope s__law_results) (by decide +kernel)) (fun _ _ _ _ _ => pg_name (i := 1) sc__law_results.nd rfl (Or.inl rfl)) (by decide) ?_
  refine lcj_pure (((List.range (t + 1).toNat).map fun (i : Nat) => F (i : Int)).map D.int) (szl (by simp; omega)) ?_ (krE_of hcl q)
  refine iw_range1 B.range ?_
  refine aw_cons ?_
  refine ew_bin ?_
  refine ew_fld ?_
  refine ew_name 0 rfl ?_
  refine ⟨_, _, _, rfl, T.cls, T.no_top, fsP_top _ _ _, ?_⟩
  refine ew_int ?_
  refine o_add ?_
  refine aw_nil ?_
  refine ⟨_, rfl, by omega, by omega, rfl, by rw [rng_length]; simp, fun k w' y hw hy => ⟨_, rfl, ?_⟩⟩
  obtain ⟨hk, rfl⟩ := getElem?_rng hw
  have ey : y = .int (F (k : Int)) := by
    rw [List.getElem?_map, List.getElem?_map, List.getElem?_range hk] at hy
    exact (Option.some.inj hy).symm
  subst ey
  intro G1 sb Hb Cb cl fp
  refine ew_callO C_call hr (by decide) xok_false ?_
  refine ew_name 0 rfl ?_
  refine ⟨_, rfl, ?_⟩
  refine aw_cons ?_
  refine ew_name 1 rfl ?_
  refine aw_nil ?_
  refine ⟨t, g, nf F t, _, rfl, by omega, by omega, hne, by omega, ?_, rfl⟩
  rw [hv _ (by omega) (by omega), Int.zero_add]
theorem iw_pcs {X : Cx} {G : Ent} {e tg : Expr} {sl : Sls} {st : List Ob} {Θ : IK} {d : D} {ps : List Pc} (hd : PcsD d ps) (h : EW X G e sl st fun w st1 => w = .dat d ∧ Θ ((ps.map pcD).map W.dat) st1) : IWJ X G tg e sl st Θ := by
  rcases hd with rfl | rfl
  · exact iw_list (h.imp fun w st1 ⟨e1, q⟩ => ⟨_, e1, q⟩)
  · exact iw_tup (h.imp fun w st1 ⟨e1, q⟩ => ⟨_, e1, q⟩)
end Kf
namespace Kf
open PySem PySem.Spec L2 StX ClX Dn
open PyProof.Rows hiding St
variable {P : Program} {w : World} {K : PySem.W.Frag} {mg : Str → Option Value} {base : Heap}
def GR (s : NS) (x : Int) : Prop := (∀ (i : Nat) (p q : Pc), s.1[i]? = some p → s.1[i + 1]? = some q → p.2.2 = true → p.1 + 2 ≤ q.1) ∧
  ∀ qs p, s.1 = qs ++ [p] → (s.2.2 = none ∧ p.2.2 = false ∧ p.1 = x - 1) ∨ ∃ b, s.2.2 = some b ∧ p.2.2 = b ∧ p.1 + 2 ≤ x
theorem gr_step {s : NS} {x v : Int} (h : GR s x) : GR (gstep s x v) (x + 1) := by
  obtain ⟨ps, last, sl⟩ := s
  obtain ⟨h1, h2⟩ := h
  have h1 : ∀ (i : Nat) (p q : Pc), ps[i]? = some p → ps[i + 1]? = some q → p.2.2 = true → p.1 + 2 ≤ q.1 := h1
  have h2 : ∀ qs p, ps = qs ++ [p] → (sl = none ∧ p.2.2 = false ∧ p.1 = x - 1) ∨ ∃ b, sl = some b ∧ p.2.2 = b ∧ p.1 + 2 ≤ x := h2
  unfold gstep
  split
  · rename_i hj
    have hj : joins ps last sl v = true := hj
    show GR (bend ps (decide (v - last = 1)), v, some (decide (v - last = 1))) (x + 1)
    generalize decide (v - last = 1) = b
    have hne : ps ≠ [] := fun e => by
      unfold joins at hj
      rw [e] at hj
      cases hj
    obtain ⟨qs, p, rfl⟩ : ∃ qs p, ps = qs ++ [p] := ⟨ps.dropLast, ps.getLast hne, (List.dropLast_concat_getLast hne).symm⟩
    rw [bend_snoc]
    have hp : p.1 + 1 ≤ x := by
      rcases h2 qs p rfl with ⟨_, _, z⟩ | ⟨_, _, _, z⟩ <;> omega
    refine ⟨fun i u w hu hw hr => ?_, fun qs' p' e => ?_⟩
    · have hu : (qs ++ [(p.1, p.2.1, b)])[i]? = some u := hu
      have hw : (qs ++ [(p.1, p.2.1, b)])[i + 1]? = some w := hw
      have hl := (List.getElem?_eq_some_iff.mp hw).1
      rw [List.length_append, List.length_singleton] at hl
      rw [List.getElem?_append_left (by omega)] at hu
      have hu' : (qs ++ [p])[i]? = some u := by rw [List.getElem?_append_left (by omega)]; exact hu
      by_cases hi : i + 1 < qs.length
      · rw [List.getElem?_append_left hi] at hw
        exact h1 i u w hu' (by rw [List.getElem?_append_left hi]; exact hw) hr
      · have e : i + 1 = qs.length := by omega
        rw [e, List.getElem?_append_right (Nat.le_refl _), Nat.sub_self] at hw
        have hw : (p.1, p.2.1, b) = w := Option.some.inj hw
        have := h1 i u p hu' (by rw [e, List.getElem?_append_right (Nat.le_refl _), Nat.sub_self]; rfl) hr
        rw [← hw]
        exact this
    · have e : qs ++ [(p.1, p.2.1, b)] = qs' ++ [p'] := e
      have e := (List.append_inj' e rfl).2
      have e : (p.1, p.2.1, b) = p' := by injection e
      subst e
      exact .inr ⟨b, rfl, rfl, by show p.1 + 2 ≤ x + 1; omega⟩
  · show GR (ps ++ [(x, v, false)], v, none) (x + 1)
    refine ⟨fun i u w hu hw hr => ?_, fun qs' p' e => ?_⟩
    · have hu : (ps ++ [(x, v, false)])[i]? = some u := hu
      have hw : (ps ++ [(x, v, false)])[i + 1]? = some w := hw
      have hl := (List.getElem?_eq_some_iff.mp hw).1
      rw [List.length_append, List.length_singleton] at hl
      rw [List.getElem?_append_left (by omega)] at hu
      by_cases hi : i + 1 < ps.length
      · rw [List.getElem?_append_left hi] at hw
        exact h1 i u w hu hw hr
      · have e : i + 1 = ps.length := by omega
        rw [e, List.getElem?_append_right (Nat.le_refl _), Nat.sub_self] at hw
        have hw : (x, v, false) = w := Option.some.inj hw
        subst hw
        have hne : ps ≠ [] := fun z => by rw [z] at hu; simp at hu
        obtain ⟨qs, p, rfl⟩ : ∃ qs p, ps = qs ++ [p] := ⟨ps.dropLast, ps.getLast hne, (List.dropLast_concat_getLast hne).symm⟩
        rw [List.length_append, List.length_singleton] at e
        have ei : i = qs.length := by omega
        rw [ei, List.getElem?_append_right (Nat.le_refl _), Nat.sub_self] at hu
        have hu : p = u := Option.some.inj hu
        subst hu
        rcases h2 qs p rfl with ⟨_, z, _⟩ | ⟨_, _, _, z⟩
        · rw [hr] at z
          cases z
        · exact z
    · have e : ps ++ [(x, v, false)] = qs' ++ [p'] := e
      have e := (List.append_inj' e rfl).2
      have e : (x, v, false) = p' := by injection e
      subst e
      exact .inl ⟨rfl, rfl, by show x = x + 1 - 1; omega⟩
theorem gr_fold (F : Int → Int) : ∀ (n : Nat) (x : Int) (s : NS), GR s x → GR (gfold F n x s) (x + n)
  | 0, x, s, h => by
    rw [show x + ((0 : Nat) : Int) = x by omega]
    exact h
  | n + 1, x, s, h => by
    have := gr_fold F n (x + 1) _ (gr_step (v := F x) h)
    rw [show x + 1 + (n : Int) = x + ((n + 1 : Nat) : Int) by omega] at this
    exact this
theorem nf_rises {F : Int → Int} {t : Int} (ht : 0 ≤ t) : ∀ r ∈ stretchF (nf F t) t, r.2.2.2 = true → r.1 < r.2.1 := by
  have h := gr_fold F (t + 1).toNat 0 ([], 0, none) ⟨fun i p q hp => by simp at hp, fun qs p e => by simp at e⟩
  rw [show 0 + ((t + 1).toNat : Int) = t + 1 by omega] at h
  obtain ⟨h1, h2⟩ := h
  have h1 : ∀ (i : Nat) (p q : Pc), (nf F t)[i]? = some p → (nf F t)[i + 1]? = some q → p.2.2 = true → p.1 + 2 ≤ q.1 := h1
  intro r hr hri
  obtain ⟨i, hi⟩ := List.getElem?_of_mem hr
  have hil := (List.getElem?_eq_some_iff.mp hi).1
  rw [stretchF_length] at hil
  have ep := List.getElem?_eq_getElem hil
  obtain ⟨b, hb, e⟩ := stretchF_get (nf F t) t i _ ep
  rw [hi] at e
  have e := Option.some.inj e
  rw [e] at hri ⊢
  show (nf F t)[i].1 < b - 1
  unfold bnds at hb
  by_cases hl : i + 1 < (nf F t).length
  · rw [List.getElem?_append_left (by rw [List.length_map]; exact hl), List.getElem?_map, List.getElem?_eq_getElem hl] at hb
    have hb : (nf F t)[i + 1].1 = b := Option.some.inj hb
    have := h1 i _ _ ep (List.getElem?_eq_getElem hl) hri
    omega
  · have el : i + 1 = (nf F t).length := by omega
    rw [el, List.getElem?_append_right (by rw [List.length_map]; exact Nat.le_refl _), List.length_map, Nat.sub_self] at hb
    have hb : t + 1 = b := Option.some.inj hb
    have hne : nf F t ≠ [] := fun z => by rw [z] at hil; simp at hil
    have hd := (List.dropLast_concat_getLast hne).symm
    have hlast : (nf F t).getLast hne = (nf F t)[i] := by
      rw [List.getLast_eq_getElem]
      congr 1
      omega
    rw [hlast] at hd
    rcases h2 _ _ hd with ⟨_, z, _⟩ | ⟨_, _, _, z⟩
    · rw [show (nf F t)[i].2.2 = true from hri] at z
      cases z
    · omega
end Kf
namespace Kf
open PySem PySem.Spec L2 StX ClX Dn
open PyProof.Rows hiding St
variable {P : Program} {w : World} {K : PySem.W.Frag} {mg : Str → Option Value} {base : Heap}
structure KTxt (K : PySem.W.Frag) (C : Addr) : Prop where
  cl : PySem.W.findIn K (.ref C) "__class__" = some (some (.builtin "object.__class__"))
  gs : PySem.W.specialIn K (.builtin "object.__class__") "__get__" = some (some (.builtin "getset_descriptor.__get__"))
  tt : PySem.W.takesIn K (.builtin "object.__class__") = some true
  mo : PySem.W.mroIn K C (.type "object") = some true
theorem KTxt.k {C : Addr} (T : PTxt K C) (h : KTxt K C) : KCls K C := fun H a dx fs e => .base (.ins e T.cls h.cl h.gs h.tt h.mo)
def F_passage_of (C : Addr) : FT := fun args st Ret _ => ∃ (rs : List Row) (F : Int → Int) (t g : Int) (N : Nat), args = [.dat (.int t), .dat (.int g), .dat (.lst (rs.map rowD))] ∧ Cov F rs 0 t ∧ Good F t g ∧ rs.length ≤ N ∧ N ≤ 1000 ∧ ∀ d, IsP C t g F N d → Ret (.dat d) st
theorem ok_passage_of {f C CE : Addr} {fd : FuncData} (Mp : Mak P w K mg base 4 "Passage" C (F_init C CE)) (Fn : Fun K "passage_of" "passage_of" s_passage_of f fd) (b : Binds K fd p_passage_of []) : FnG P w K mg base (L2.CX P w) 6 f (spD K (F_passage_of C)) := by
  refine fnD Fn sc_passage_of b (fun args st0 Ret Exc h => ?_) ?_
  · obtain ⟨rs, F, t, g, N, rfl, _⟩ := h
    rfl
  intro cdv A outer s H E H0 Al args st0 Ret Exc hr xk hp hal hcl hF
  obtain ⟨rs, F, t, g, N, rfl, cF, hg, hl, hN, q⟩ := hF
  refine sw_cons ?_
  refine sw_ret ?_
  refine ew_mk Mp hr (by decide) xk ?_
  refine aw_cons ?_
  refine ew_name 0 rfl ?_
  refine aw_cons ?_
  refine ew_name 1 rfl ?_
  refine aw_cons ?_
  refine ew_lc (own := [("low", 3), ("_", 4), ("value", 5), ("rises", 6)]) (tb := true) (is := [3, 4, 5, 6]) rfl sc_passage_of.nd (blkOk_by (N := n_passage_of) (sc := defScope s_passage_of) (by decide +kernel)) (fun _ _ _ _ _ => pg_tup rfl (pgs_cons (pg_name (i := 3) sc_passage_of.nd rfl (Or.inl rfl)) (pgs_cons (pg_name (i := 4) sc_passage_of.nd rfl (Or.inl rfl)) (pgs_cons (pg_name (i := 5) sc_passage_of.nd rfl (Or.inl rfl)) (pgs_cons (pg_name (i := 6) sc_passage_of.nd rfl (Or.inl rfl)) (pgs_nil)))))) (by decide) ?_
  refine lcj_pure ((pcs rs).map pcD) (szl (by unfold pcs; rw [List.length_map, List.length_map]; omega)) ?_ ?_
  · refine iw_list ?_
    refine ew_name 2 rfl ?_
    refine ⟨_, rfl, rfl, by unfold pcs; rw [List.length_map, List.length_map, List.length_map, List.length_map], fun k w' y hw hy => ?_⟩
    obtain ⟨x, hxk, rfl⟩ := getElem?_mapW hw
    rw [List.getElem?_map] at hxk
    obtain ⟨r, hr1, rfl⟩ := Option.map_eq_some_iff.mp hxk
    unfold pcs at hy
    rw [List.getElem?_map, List.getElem?_map, hr1] at hy
    have ey : y = pcD (r.1, r.2.2.1, r.2.2.2) := (Option.some.inj hy).symm
    subst ey
    refine ⟨_, rfl, ?_⟩
    intro G1 sb Hb Cb cl fp
    refine ew_tup ?_
    refine aw_cons ?_
    refine ew_name 3 rfl ?_
    refine aw_cons ?_
    refine ew_name 5 rfl ?_
    refine aw_cons ?_
    refine ew_name 6 rfl ?_
    refine aw_nil ?_
    exact ⟨_, rfl, (by show 3 ≤ sizeLine; decide), rfl, rfl⟩
  · refine aw_nil ?_
    obtain ⟨h1, h2⟩ := init_wants hg cF
    refine F_init_ok hcl hg.t0 hg.g0 (.inl rfl) (by unfold pcs; rw [List.length_map]; omega) h1 h2 ?_
    rw [pcs_stretch cF]
    exact krE_of hcl (q _ (isP_of hg cF hl))
def F_rows_of (C : Addr) : FT := fun args st Ret _ => ∃ (F : Int → Int) (t g : Int) (N : Nat) (d : D), args = [.dat d] ∧ IsP C t g F N d ∧ N ≤ 1000 ∧ ∀ rs, Cov F rs 0 t → rs.length ≤ N → (∀ r ∈ rs, r.2.2.2 = true → r.1 < r.2.1) → Ret (.dat (.lst (rs.map rowD))) st
theorem ok_rows_of {f C : Addr} {fd : FuncData} (T : PTxt K C) (C_stretches : Cal P w K mg base 1 "stretches" F_stretches) (Fn : Fun K "rows_of" "rows_of" s_rows_of f fd) (b : Binds K fd p_rows_of []) : FnG P w K mg base (L2.CX P w) 2 f (spD K (F_rows_of C)) := by
  refine fnD Fn sc_rows_of b (fun args st0 Ret Exc h => ?_) ?_
  · obtain ⟨F, t, g, N, d, rfl, _⟩ := h
    rfl
  intro cdv A outer s H E H0 Al args st0 Ret Exc hr xk hp hal hcl hF
  obtain ⟨F, t, g, N, d, rfl, hP, hN, q⟩ := hF
  have hrows := hP.rows
  have hrise := nf_rises (F := F) (t := t) hP.2.2.2.1.t0
  obtain ⟨rfl, _, _, _, hl⟩ := hP
  refine sw_cons ?_
  refine sw_ret ?_
  refine ew_call C_stretches hr (by decide) xk ?_
  refine aw_cons ?_
  refine ew_fld ?_
  refine ew_name 0 rfl ?_
  refine ⟨_, _, _, rfl, T.cls, T.no_pieces, fsP_pieces _ _ _, ?_⟩
  refine aw_cons ?_
  refine ew_fld ?_
  refine ew_name 0 rfl ?_
  refine ⟨_, _, _, rfl, T.cls, T.no_top, fsP_top _ _ _, ?_⟩
  refine aw_nil ?_
  exact ⟨_, nf F t, t, rfl, .inr rfl, by omega, krE_of hcl (q _ hrows (by rw [stretchF_length]; exact hl) hrise)⟩
end Kf
namespace Kf
open PySem PySem.Spec L2 StX ClX Dn
open PyProof.Rows hiding St
variable {P : Program} {w : World} {K : PySem.W.Frag} {mg : Str → Option Value} {base : Heap}
def greF (a b : Int) : Int := if a > b then a else b
def F_greater : FT := fun args st Ret _ => ∃ a b, args = [.dat (.int a), .dat (.int b)] ∧ Ret (.dat (.int (greF a b))) st
theorem ok_greater {f : Addr} {fd : FuncData} (Fn : Fun K "greater" "greater" s_greater f fd) (b : Binds K fd p_greater []) : FnG P w K mg base (L2.CX P w) 1 f (spD K F_greater) := by
  refine fnD Fn sc_greater b (fun args st0 Ret Exc h => ?_) ?_
  · obtain ⟨a, c, rfl, _⟩ := h
    rfl
  intro cdv A outer s H E H0 Al args st0 Ret Exc hr xk hp hal hcl hF
  obtain ⟨a, c, rfl, q⟩ := hF
  have q2 := krE_of hcl q
  refine sw_cons ?_
  refine sw_ret ?_
  refine ew_if ?_
  refine tw_cmp (nomark _) ?_
  refine ew_name 0 rfl ?_
  refine ew_name 1 rfl ?_
  refine o_gt ?_
  refine ⟨_, rfl, ?_⟩
  unfold greF at q2
  refine ifD (fun h => ?_) (fun h => ?_)
  · refine ew_name 0 rfl ?_
    rw [if_pos h] at q2
    exact q2
  · refine ew_name 1 rfl ?_
    rw [if_neg (show ¬ a > c from h)] at q2
    exact q2
end Kf
namespace Kf
open PySem PySem.Spec L2 StX ClX Dn
open PyProof.Rows hiding St
variable {P : Program} {w : World} {K : PySem.W.Frag} {mg : Str → Option Value} {base : Heap}
theorem bx_at (S gs : List Ob) (a b : Int) : (S ++ bx a b :: gs)[S.length]? = some (bx a b) := by simp
theorem bx_set (S gs : List Ob) (a b a' b' : Int) : (S ++ bx a b :: gs).set S.length (bx a' b') = S ++ bx a' b' :: gs := by simp
theorem sw1_clos {X : Cx} {G : Ent} {s : Stmt} {sl : Sls} {st : List Ob} {E : KE} (h : Clos st → SW1 X G s sl st E) : SW1 X G s sl st E := fun A σ H H0 R => h R.hs.clos A σ H H0 R
theorem ew_clos {X : Cx} {G : Ent} {e : Expr} {sl : Sls} {st : List Ob} {Φ : WK} (h : Clos st → EW X G e sl st Φ) : EW X G e sl st Φ := fun A σ H H0 R => h R.hs.clos A σ H H0 R
theorem sw_mid1 {X : Cx} {G : Ent} {s : Stmt} {sl : Sls} {st : List Ob} {E : KE} (M : GK) (h : SW1 X G s sl st { E with nx := M }) (q : ∀ sl st, M sl st → E.nx sl st) : SW1 X G s sl st E := h.imp (fun sl st hm => q sl st hm) (fun _ _ x => x) (fun _ _ x => x) (fun _ _ x => x)
theorem itm_last {st : List Ob} {xs : List D} {d : D} (hl : 0 < xs.length) (h : xs[xs.length - 1]? = some d) : Itm st (.dat (.lst xs)) (-1) = some (.dat d) := by
  show (atI xs (-1)).map W.dat = _
  have : atI xs (-1) = some d := by
    unfold atI
    have e : ixN xs.length (-1) = some (xs.length - 1) := by
      unfold ixN
      rw [if_neg (by decide), if_pos (by omega)]
      congr 1
      omega
    rw [e]
    exact h
  rw [this]
  rfl
end Kf
namespace Kf
open PySem PySem.Spec L2 StX ClX Dn
open PyProof.Rows hiding St
variable {P : Program} {w : World} {K : PySem.W.Frag} {mg : Str → Option Value} {base : Heap}
def sgn (i : Int) : Int := if i = 0 then 0 else if i > 0 then 1 else -1
abbrev Dr : Type := Int × Int × Int
abbrev drD (d : Dr) : D := .tup [.int d.1, .int d.2.1, .int d.2.2]
def DrC (F : Int → Int) : List Dr → Int → Int → Prop
  | [], lo, hi => lo = hi + 1
  | d :: ds, lo, hi => d.1 = lo ∧ d.1 ≤ d.2.1 ∧ (∀ x, d.1 ≤ x → x ≤ d.2.1 → sgn (F x - x) = d.2.2) ∧ DrC F ds (d.2.1 + 1) hi
theorem drc_app {F : Int → Int} : ∀ {ds es : List Dr} {lo mid hi : Int}, DrC F ds lo mid → DrC F es (mid + 1) hi → DrC F (ds ++ es) lo hi
  | [], es, lo, mid, hi, h1, h2 => by
    have h1 : lo = mid + 1 := h1
    subst h1
    exact h2
  | d :: ds, es, lo, mid, hi, h1, h2 => ⟨h1.1, h1.2.1, h1.2.2.1, drc_app h1.2.2.2 h2⟩
theorem drc_le {F : Int → Int} : ∀ {ds : List Dr} {lo hi : Int}, DrC F ds lo hi → lo ≤ hi + 1
  | [], lo, hi, h => by
    have h : lo = hi + 1 := h
    omega
  | d :: ds, lo, hi, h => by
    have := drc_le h.2.2.2
    have := h.1
    have := h.2.1
    omega
theorem drc_get {F : Int → Int} : ∀ {ds : List Dr} {lo hi : Int} {i : Nat} {d : Dr}, DrC F ds lo hi → ds[i]? = some d → lo ≤ d.1 ∧ d.1 ≤ d.2.1 ∧ d.2.1 ≤ hi ∧ ∀ x, d.1 ≤ x → x ≤ d.2.1 → sgn (F x - x) = d.2.2
  | d :: ds, lo, hi, 0, d', h, e => by
    cases e
    have := drc_le h.2.2.2
    have e0 := h.1
    exact ⟨by omega, h.2.1, by omega, h.2.2.1⟩
  | d :: ds, lo, hi, i + 1, d', h, e => by
    obtain ⟨a, b, c, f⟩ := drc_get h.2.2.2 (i := i) e
    have := h.1
    have := h.2.1
    exact ⟨by omega, b, c, f⟩
theorem drc_next {F : Int → Int} : ∀ {ds : List Dr} {lo hi : Int} {i : Nat} {d e : Dr}, DrC F ds lo hi → ds[i]? = some d → ds[i + 1]? = some e → e.1 = d.2.1 + 1
  | d :: e :: ds, lo, hi, 0, d', e', h, h1, h2 => by
    cases h1
    cases h2
    exact h.2.2.2.1
  | d :: ds, lo, hi, i + 1, d', e', h, h1, h2 => drc_next h.2.2.2 (i := i) h1 h2
  | [d], lo, hi, 0, d', e', h, h1, h2 => by cases h2
theorem drc_last {F : Int → Int} : ∀ {ds : List Dr} {lo hi : Int} {i : Nat} {d : Dr}, DrC F ds lo hi → ds[i]? = some d → ds[i + 1]? = none → d.2.1 = hi
  | [d], lo, hi, 0, d', h, h1, h2 => by
    cases h1
    have z : d.2.1 + 1 = hi + 1 := h.2.2.2
    omega
  | d :: e :: ds, lo, hi, 0, d', h, h1, h2 => by cases h2
  | d :: ds, lo, hi, i + 1, d', h, h1, h2 => drc_last h.2.2.2 (i := i) h1 h2
def dron (r : Row) : List Dr := if r.2.2.2 = true then [(r.1, r.2.1, sgn (r.2.2.1 - r.1))] else
  [(r.1, lesF r.2.1 (r.2.2.1 - 1), (1 : Int)), (greF r.1 r.2.2.1, lesF r.2.1 r.2.2.1, 0), (greF r.1 (r.2.2.1 + 1), r.2.1, -1)].filter fun d => decide (d.1 ≤ d.2.1)
theorem dron_cov {F : Int → Int} {r : Row} (h : r.1 ≤ r.2.1) (hF : ∀ x, r.1 ≤ x → x ≤ r.2.1 → onRow r x = F x) : DrC F (dron r) r.1 r.2.1 := by
  unfold dron
  by_cases hr : r.2.2.2 = true
  · rw [if_pos hr]
    refine ⟨rfl, h, fun x a b => ?_, rfl⟩
    rw [← hF x a b]
    unfold onRow
    rw [if_pos hr]
    congr 1
    omega
  · rw [if_neg hr]
    have hv : ∀ x, r.1 ≤ x → x ≤ r.2.1 → F x = r.2.2.1 := fun x a b => by
      rw [← hF x a b]
      unfold onRow
      rw [if_neg hr]
    have s1 : ∀ x, r.1 ≤ x → x ≤ r.2.1 → x < r.2.2.1 → sgn (F x - x) = 1 := fun x a b c => by
      rw [hv x a b]; unfold sgn; rw [if_neg (by omega), if_pos (by omega)]
    have s0 : ∀ x, r.1 ≤ x → x ≤ r.2.1 → x = r.2.2.1 → sgn (F x - x) = 0 := fun x a b c => by
      rw [hv x a b]; unfold sgn; rw [if_pos (by omega)]
    have s2 : ∀ x, r.1 ≤ x → x ≤ r.2.1 → r.2.2.1 < x → sgn (F x - x) = -1 := fun x a b c => by
      rw [hv x a b]; unfold sgn; rw [if_neg (by omega), if_neg (by omega)]
    by_cases c1 : r.2.1 < r.2.2.1
    · have e1 : lesF r.2.1 (r.2.2.1 - 1) = r.2.1 := by unfold lesF; split <;> omega
      have e2 : greF r.1 r.2.2.1 = r.2.2.1 := by unfold greF; split <;> omega
      have e3 : lesF r.2.1 r.2.2.1 = r.2.1 := by unfold lesF; split <;> omega
      have e4 : greF r.1 (r.2.2.1 + 1) = r.2.2.1 + 1 := by unfold greF; split <;> omega
      rw [e1, e2, e3, e4, List.filter_cons, List.filter_cons, List.filter_cons, List.filter_nil, if_pos (by simpa using h), if_neg (by simp; omega), if_neg (by simp; omega)]
      exact ⟨rfl, h, fun x a b => s1 x a b (by have b : x ≤ r.2.1 := b; omega), rfl⟩
    · by_cases c2 : r.2.2.1 < r.1
      · have e1 : lesF r.2.1 (r.2.2.1 - 1) = r.2.2.1 - 1 := by unfold lesF; split <;> omega
        have e2 : greF r.1 r.2.2.1 = r.1 := by unfold greF; split <;> omega
        have e3 : lesF r.2.1 r.2.2.1 = r.2.2.1 := by unfold lesF; split <;> omega
        have e4 : greF r.1 (r.2.2.1 + 1) = r.1 := by unfold greF; split <;> omega
        rw [e1, e2, e3, e4, List.filter_cons, List.filter_cons, List.filter_cons, List.filter_nil, if_neg (by simp; omega), if_neg (by simp; omega), if_pos (by simpa using h)]
        exact ⟨rfl, h, fun x a b => s2 x a b (by have a : r.1 ≤ x := a; omega), rfl⟩
      · have e2 : greF r.1 r.2.2.1 = r.2.2.1 := by unfold greF; split <;> omega
        have e3 : lesF r.2.1 r.2.2.1 = r.2.2.1 := by unfold lesF; split <;> omega
        have e1 : lesF r.2.1 (r.2.2.1 - 1) = r.2.2.1 - 1 := by unfold lesF; split <;> omega
        have e4 : greF r.1 (r.2.2.1 + 1) = r.2.2.1 + 1 := by unfold greF; split <;> omega
        rw [e1, e2, e3, e4, List.filter_cons, List.filter_cons, List.filter_cons, List.filter_nil]
        rw [if_pos (show decide (((r.2.2.1, r.2.2.1, (0 : Int)) : Dr).1 ≤ ((r.2.2.1, r.2.2.1, (0 : Int)) : Dr).2.1) = true by simp)]
        have tail : DrC F ((r.2.2.1, r.2.2.1, (0 : Int)) :: (if decide (((r.2.2.1 + 1, r.2.1, (-1 : Int)) : Dr).1 ≤ ((r.2.2.1 + 1, r.2.1, (-1 : Int)) : Dr).2.1) = true then [((r.2.2.1 + 1, r.2.1, (-1 : Int)) : Dr)] else [])) r.2.2.1 r.2.1 := by
          refine ⟨rfl, Int.le_refl _, fun x a b => s0 x (by have a : r.2.2.1 ≤ x := a; omega) (by have b : x ≤ r.2.2.1 := b; omega) (by have a : r.2.2.1 ≤ x := a; have b : x ≤ r.2.2.1 := b; omega), ?_⟩
          by_cases c3 : r.2.2.1 + 1 ≤ r.2.1
          · rw [if_pos (decide_eq_true c3)]
            exact ⟨rfl, c3, fun x a b => s2 x (by have a : r.2.2.1 + 1 ≤ x := a; omega) b (by have a : r.2.2.1 + 1 ≤ x := a; omega), rfl⟩
          · rw [if_neg (by simpa using c3)]
            show r.2.2.1 + 1 = r.2.1 + 1
            omega
        by_cases c4 : r.1 ≤ r.2.2.1 - 1
        · rw [if_pos (decide_eq_true c4)]
          refine ⟨rfl, c4, fun x a b => s1 x a (by have b : x ≤ r.2.2.1 - 1 := b; omega) (by have b : x ≤ r.2.2.1 - 1 := b; omega), ?_⟩
          show DrC F _ (r.2.2.1 - 1 + 1) r.2.1
          rw [show r.2.2.1 - 1 + 1 = r.2.2.1 by omega]
          exact tail
        · have e5 : r.1 = r.2.2.1 := by omega
          rw [if_neg (by simpa using c4)]
          show DrC F _ r.1 r.2.1
          rw [e5]
          exact tail
theorem drs_cov {F : Int → Int} : ∀ {rs : List Row} {lo hi : Int}, Cov F rs lo hi → DrC F (rs.map dron).flatten lo hi
  | [], lo, hi, h => h
  | r :: rs, lo, hi, h => by
    rw [List.map_cons, List.flatten_cons]
    refine drc_app (mid := r.2.1) ?_ (drs_cov h.2.2.2)
    have e := h.1
    subst e
    exact dron_cov h.2.1 h.2.2.1
theorem dron_len (r : Row) : (dron r).length ≤ 3 := by
  unfold dron
  split
  · exact (show 1 ≤ 3 by decide)
  · exact Nat.le_trans (List.length_filter_le _ _) (Nat.le_refl 3)
theorem drs_len : ∀ rs : List Row, ((rs.map dron).flatten).length ≤ 3 * rs.length
  | [] => Nat.le_refl _
  | r :: rs => by
    rw [List.map_cons, List.flatten_cons, List.length_append, List.length_cons]
    have := drs_len rs
    have := dron_len r
    omega
abbrev Pr : Type := Int × Int
def fxStep (F : Int → Int) (acc : List Pr) (x : Int) : List Pr := if F x = x then (match acc.getLast? with
  | some p => if p.2 = x - 1 then acc.dropLast ++ [(p.1, x)] else acc ++ [(x, x)]
  | none => acc ++ [(x, x)]) else acc
def fxs (F : Int → Int) : Nat → List Pr
  | 0 => []
  | n + 1 => fxStep F (fxs F n) (n : Int)
structure FxOk (F : Int → Int) (ps : List Pr) (n : Int) : Prop where
  le : ∀ p ∈ ps, 0 ≤ p.1 ∧ p.1 ≤ p.2 ∧ p.2 < n
  fx : ∀ p ∈ ps, ∀ x, p.1 ≤ x → x ≤ p.2 → F x = x
  all : ∀ x, 0 ≤ x → x < n → F x = x → ∃ p ∈ ps, p.1 ≤ x ∧ x ≤ p.2
  inc : ps.Pairwise fun p q => p.2 + 1 < q.1
theorem fxStep_ok {F : Int → Int} {ps : List Pr} {n : Int} (n0 : 0 ≤ n) (h : FxOk F ps n) : FxOk F (fxStep F ps n) (n + 1) := by
  unfold fxStep
  by_cases e : F n = n
  · rw [if_pos e]
    cases hl : ps.getLast? with
    | none =>
      have : ps = [] := List.getLast?_eq_none_iff.mp hl
      subst this
      refine ⟨fun p hp => ?_, fun p hp x a b => ?_, fun x a b c => ?_, by simp⟩
      · simp at hp
        subst hp
        exact ⟨n0, Int.le_refl _, by show n < n + 1; omega⟩
      · simp at hp
        subst hp
        have a : n ≤ x := a
        have b : x ≤ n := b
        rw [show x = n by omega]
        exact e
      · by_cases q : x < n
        · obtain ⟨p, hp, _⟩ := h.all x a q c
          cases hp
        · exact ⟨(n, n), by simp, by show n ≤ x; omega, by show x ≤ n; omega⟩
    | some p =>
      obtain ⟨qs, rfl⟩ := List.getLast?_eq_some_iff.mp hl
      have hp := h.le p (by simp)
      have hpw := List.pairwise_append.mp h.inc
      dsimp only
      by_cases e2 : p.2 = n - 1
      · rw [if_pos e2, List.dropLast_concat]
        refine ⟨fun q hq => ?_, fun q hq x a b => ?_, fun x a b c => ?_, ?_⟩
        · rcases List.mem_append.mp hq with hq | hq
          · have := h.le q (List.mem_append_left _ hq)
            exact ⟨this.1, this.2.1, by omega⟩
          · simp at hq
            subst hq
            exact ⟨hp.1, by show p.1 ≤ n; omega, by show n < n + 1; omega⟩
        · rcases List.mem_append.mp hq with hq | hq
          · exact h.fx q (List.mem_append_left _ hq) x a b
          · simp at hq
            subst hq
            have a : p.1 ≤ x := a
            have b : x ≤ n := b
            by_cases q : x = n
            · rw [q]
              exact e
            · exact h.fx p (by simp) x a (by omega)
        · by_cases q : x < n
          · obtain ⟨q', hq', a1, a2⟩ := h.all x a q c
            rcases List.mem_append.mp hq' with hq' | hq'
            · exact ⟨q', List.mem_append_left _ hq', a1, a2⟩
            · simp at hq'
              subst hq'
              exact ⟨(q'.1, n), by simp, a1, by show x ≤ n; omega⟩
          · exact ⟨(p.1, n), by simp, by show p.1 ≤ x; omega, by show x ≤ n; omega⟩
        · refine List.pairwise_append.mpr ⟨hpw.1, by simp, fun a ha b hb => ?_⟩
          simp at hb
          subst hb
          exact hpw.2.2 a ha p (by simp)
      · rw [if_neg e2]
        refine ⟨fun q hq => ?_, fun q hq x a b => ?_, fun x a b c => ?_, ?_⟩
        · rcases List.mem_append.mp hq with hq | hq
          · have := h.le q hq
            exact ⟨this.1, this.2.1, by omega⟩
          · simp at hq
            subst hq
            exact ⟨n0, Int.le_refl _, by show n < n + 1; omega⟩
        · rcases List.mem_append.mp hq with hq | hq
          · exact h.fx q hq x a b
          · simp at hq
            subst hq
            have a : n ≤ x := a
            have b : x ≤ n := b
            rw [show x = n by omega]
            exact e
        · by_cases q : x < n
          · obtain ⟨q', hq', a1⟩ := h.all x a q c
            exact ⟨q', List.mem_append_left _ hq', a1⟩
          · exact ⟨(n, n), by simp, by show n ≤ x; omega, by show x ≤ n; omega⟩
        · refine List.pairwise_append.mpr ⟨h.inc, by simp, fun a ha b hb => ?_⟩
          simp at hb
          subst hb
          show a.2 + 1 < n
          rcases List.mem_append.mp ha with ha | ha
          · have := hpw.2.2 a ha p (by simp)
            omega
          · simp at ha
            subst ha
            omega
  · rw [if_neg e]
    refine ⟨fun p hp => ?_, h.fx, fun x a b c => ?_, h.inc⟩
    · have := h.le p hp
      exact ⟨this.1, this.2.1, by omega⟩
    · by_cases q : x < n
      · exact h.all x a q c
      · rw [show x = n by omega] at c
        exact absurd c e
theorem fxs_ok (F : Int → Int) : ∀ n : Nat, FxOk F (fxs F n) (n : Int)
  | 0 => ⟨fun p hp => (by cases hp), fun p hp => (by cases hp), fun x a b => (by omega), List.Pairwise.nil⟩
  | n + 1 => by
    have := fxStep_ok (Int.natCast_nonneg n) (fxs_ok F n)
    exact this
theorem fxs_congr {F G : Int → Int} : ∀ n : Nat, (∀ x, 0 ≤ x → x < (n : Int) → (F x = x ↔ G x = x)) → fxs F n = fxs G n
  | 0, _ => rfl
  | n + 1, h => by
    have ih := fxs_congr n fun x a b => h x a (by omega)
    have e := h (n : Int) (by omega) (by omega)
    unfold fxs
    rw [ih]
    unfold fxStep
    by_cases q : F (n : Int) = (n : Int)
    · rw [if_pos q, if_pos (e.mp q)]
    · rw [if_neg q, if_neg fun z => q (e.mpr z)]
theorem fxs_off {F : Int → Int} {n : Nat} : ∀ m : Nat, (∀ x, (n : Int) ≤ x → x < (n : Int) + m → F x ≠ x) → fxs F (n + m) = fxs F n
  | 0, _ => rfl
  | m + 1, h => by
    show fxStep F (fxs F (n + m)) ((n + m : Nat) : Int) = _
    rw [fxs_off m fun x a b => h x a (by omega)]
    unfold fxStep
    rw [if_neg (h _ (by omega) (by omega))]
def fxAdd (ps : List Pr) (lo hi : Int) : List Pr := match ps.getLast? with
  | some p => if p.2 = lo - 1 then ps.dropLast ++ [(p.1, hi)] else ps ++ [(lo, hi)]
  | none => ps ++ [(lo, hi)]
theorem fxs_on {F : Int → Int} {n : Nat} : ∀ m : Nat, (∀ x, (n : Int) ≤ x → x ≤ (n : Int) + m → F x = x) → fxs F (n + m + 1) = fxAdd (fxs F n) (n : Int) ((n : Int) + m)
  | 0, h => by
    show fxStep F (fxs F n) (n : Int) = _
    unfold fxStep fxAdd
    rw [if_pos (h _ (Int.le_refl _) (by omega))]
    rw [show (n : Int) + ((0 : Nat) : Int) = (n : Int) by omega]
  | m + 1, h => by
    show fxStep F (fxs F (n + m + 1)) ((n + m + 1 : Nat) : Int) = _
    rw [fxs_on m fun x a b => h x a (by omega)]
    have e := h ((n + m + 1 : Nat) : Int) (by omega) (by omega)
    unfold fxStep
    rw [if_pos e]
    have e1 : ((n + m + 1 : Nat) : Int) - 1 = (n : Int) + m := by omega
    have e2 : ((n + m + 1 : Nat) : Int) = (n : Int) + ((m + 1 : Nat) : Int) := by omega
    rw [e1, e2]
    unfold fxAdd
    cases hl : (fxs F n).getLast? with
    | none => simp
    | some p =>
      dsimp only
      by_cases q : p.2 = (n : Int) - 1
      · rw [if_pos q, if_pos q]
        simp
      · rw [if_neg q, if_neg q]
        simp
end Kf
namespace Kf
open PySem PySem.Spec L2 StX ClX Dn
open PyProof.Rows hiding St
variable {P : Program} {w : World} {K : PySem.W.Frag} {mg : Str → Option Value} {base : Heap}
def upF (F : Int → Int) : Nat → Int → Int
  | 0, x => x
  | n + 1, x => if F x = x then x else upF F n (x + 1)
def dnF (F : Int → Int) : Nat → Int → Int
  | 0, x => x
  | n + 1, x => if F x = x then x else dnF F n (x - 1)
def restF (F : Int → Int) (t x : Int) : Int := if x < F x then upF F (t - x + 1).toNat x else if F x < x then dnF F (x + 1).toNat x else x
theorem upF_is {F : Int → Int} {s : Int} (e : F s = s) : ∀ (n : Nat) (x : Int), x ≤ s → s < x + n → (∀ z, x ≤ z → z < s → F z ≠ z) → upF F n x = s
  | 0, x, h1, h2, _ => by omega
  | n + 1, x, h1, h2, h3 => by
    unfold upF
    by_cases q : x = s
    · subst q
      rw [if_pos e]
    · rw [if_neg (h3 x (Int.le_refl _) (by omega))]
      exact upF_is e n (x + 1) (by omega) (by omega) fun z a b => h3 z (by omega) b
theorem dnF_is {F : Int → Int} {s : Int} (e : F s = s) : ∀ (n : Nat) (x : Int), s ≤ x → x < s + n → (∀ z, s < z → z ≤ x → F z ≠ z) → dnF F n x = s
  | 0, x, h1, h2, _ => by omega
  | n + 1, x, h1, h2, h3 => by
    unfold dnF
    by_cases q : x = s
    · subst q
      rw [if_pos e]
    · rw [if_neg (h3 x (by omega) (Int.le_refl _))]
      exact dnF_is e n (x - 1) (by omega) (by omega) fun z a b => h3 z a (by omega)
theorem up_ex {F : Int → Int} {t : Int} (h : Good F t t) : ∀ (n : Nat) (x : Int), t - x < n → 0 ≤ x → x ≤ t → x < F x → ∃ s, x < s ∧ s ≤ t ∧ F s = s ∧ ∀ z, x ≤ z → z < s → z < F z
  | 0, x, hn, h0, h1, hx => by omega
  | n + 1, x, hn, h0, h1, hx => by
    have hu := h.ub h0 h1
    have hup := h.up x h0 (by omega)
    by_cases q : F (x + 1) = x + 1
    · exact ⟨x + 1, by omega, by omega, q, fun z a b => by rw [show z = x by omega]; exact hx⟩
    · obtain ⟨s, a, b, c, d⟩ := up_ex h n (x + 1) (by omega) (by omega) (by omega) (by omega)
      refine ⟨s, by omega, b, c, fun z z0 z1 => ?_⟩
      by_cases e : z = x
      · rw [e]; exact hx
      · exact d z (by omega) z1
theorem dn_ex {F : Int → Int} {t : Int} (h : Good F t t) : ∀ (n : Nat) (x : Int), x < n → 0 ≤ x → x ≤ t → F x < x → ∃ s, 0 ≤ s ∧ s < x ∧ F s = s ∧ ∀ z, s < z → z ≤ x → F z < z
  | 0, x, hn, h0, h1, hx => by omega
  | n + 1, x, hn, h0, h1, hx => by
    have hu := h.nn h0 h1
    have hup := h.up (x - 1) (by omega) (by omega)
    rw [show x - 1 + 1 = x by omega] at hup
    by_cases q : F (x - 1) = x - 1
    · exact ⟨x - 1, by omega, by omega, q, fun z a b => by rw [show z = x by omega]; exact hx⟩
    · obtain ⟨s, a, b, c, d⟩ := dn_ex h n (x - 1) (by omega) (by omega) (by omega) (by omega)
      refine ⟨s, a, by omega, c, fun z z0 z1 => ?_⟩
      by_cases e : z = x
      · rw [e]; exact hx
      · exact d z z0 (by omega)
theorem rest_up {F : Int → Int} {t x s : Int} (hx : x < F x) (h0 : x ≤ s) (h1 : s ≤ t) (e : F s = s) (hn : ∀ z, x ≤ z → z < s → F z ≠ z) : restF F t x = s := by
  unfold restF
  rw [if_pos hx]
  exact upF_is e _ x h0 (by omega) hn
theorem rest_dn {F : Int → Int} {t x s : Int} (hx : F x < x) (h0 : 0 ≤ s) (h1 : s ≤ x) (e : F s = s) (hn : ∀ z, s < z → z ≤ x → F z ≠ z) : restF F t x = s := by
  unfold restF
  rw [if_neg (by omega), if_pos hx]
  exact dnF_is e _ x h1 (by omega) hn
theorem rest_fx {F : Int → Int} {t x : Int} (e : F x = x) : restF F t x = x := by
  unfold restF
  rw [if_neg (by omega), if_neg (by omega)]
structure RestAt (F : Int → Int) (t x r : Int) : Prop where
  r0 : 0 ≤ r
  r1 : r ≤ t
  fx : F r = r
  st : F x = x → r = x
  up : x < F x → x < r ∧ ∀ z, x ≤ z → z < r → z < F z
  dn : F x < x → r < x ∧ ∀ z, r < z → z ≤ x → F z < z
theorem rest_at {F : Int → Int} {t x : Int} (h : Good F t t) (h0 : 0 ≤ x) (h1 : x ≤ t) : RestAt F t x (restF F t x) := by
  rcases Int.lt_trichotomy (F x) x with q | q | q
  · obtain ⟨s, a, b, c, d⟩ := dn_ex h (x + 1).toNat x (by omega) h0 h1 q
    rw [rest_dn q a (by omega) c fun z z0 z1 => by have := d z z0 z1; omega]
    exact ⟨a, by omega, c, fun z => by omega, fun z => by omega, fun _ => ⟨b, d⟩⟩
  · rw [rest_fx q]
    exact ⟨h0, h1, q, fun _ => rfl, fun z => by omega, fun z => by omega⟩
  · obtain ⟨s, a, b, c, d⟩ := up_ex h (t - x + 1).toNat x (by omega) h0 h1 q
    rw [rest_up q (by omega) b c fun z z0 z1 => by have := d z z0 z1; omega]
    exact ⟨by omega, b, c, fun z => by omega, fun _ => ⟨a, d⟩, fun z => by omega⟩
theorem rest_mono {F : Int → Int} {t x : Int} (h : Good F t t) (h0 : 0 ≤ x) (h1 : x < t) : restF F t x ≤ restF F t (x + 1) := by
  have a := rest_at h h0 (by omega)
  have b := rest_at h (x := x + 1) (by omega) (by omega)
  generalize restF F t x = r at *
  generalize restF F t (x + 1) = r' at *
  have hup := h.up x h0 h1
  rcases Int.lt_trichotomy (F x) x with q | q | q
  · obtain ⟨a1, a2⟩ := a.dn q
    have hr := a.fx
    rcases Int.lt_trichotomy (F (x + 1)) (x + 1) with q2 | q2 | q2
    · obtain ⟨b1, b2⟩ := b.dn q2
      by_cases w : r' < r
      · have := b2 r w (by omega)
        omega
      · omega
    · have := b.st q2
      omega
    · have := (b.up q2).1
      omega
  · have e := a.st q
    rcases Int.lt_trichotomy (F (x + 1)) (x + 1) with q2 | q2 | q2
    · obtain ⟨b1, b2⟩ := b.dn q2
      by_cases w : r' < x
      · have := b2 x w (by omega)
        omega
      · omega
    · have := b.st q2
      omega
    · have := (b.up q2).1
      omega
  · obtain ⟨a1, a2⟩ := a.up q
    rcases Int.lt_trichotomy (F (x + 1)) (x + 1) with q2 | q2 | q2
    · omega
    · have := b.st q2
      by_cases w : x + 1 < r
      · have := a2 (x + 1) (by omega) w
        omega
      · omega
    · obtain ⟨b1, b2⟩ := b.up q2
      have hr := a.fx
      by_cases w : r' < r
      · have := a2 r' (by omega) w
        have := b.fx
        omega
      · omega
theorem rest_good {F : Int → Int} {t : Int} (h : Good F t t) : Good (restF F t) t t := by
  have z := h.t0
  exact ⟨z, z, (rest_at h (Int.le_refl _) z).r0, fun x a b => rest_mono h a b, (rest_at h z (Int.le_refl _)).r1⟩
theorem pairs_le {F : Int → Int} {ps : List Pr} {n : Int} (h : FxOk F ps n) {i j : Nat} {p q : Pr} (hi : ps[i]? = some p) (hj : ps[j]? = some q) (hij : i ≤ j) : p.1 ≤ q.1 ∧ p.2 ≤ q.2 := by
  by_cases e : i = j
  · subst e
    rw [hi] at hj
    cases hj
    exact ⟨Int.le_refl _, Int.le_refl _⟩
  · obtain ⟨h1, e1⟩ := List.getElem?_eq_some_iff.mp hi
    obtain ⟨h2, e2⟩ := List.getElem?_eq_some_iff.mp hj
    have := List.pairwise_iff_getElem.mp h.inc i j h1 h2 (by omega)
    rw [e1, e2] at this
    have := h.le p (List.mem_of_getElem? hi)
    have := h.le q (List.mem_of_getElem? hj)
    omega
theorem row_up {F : Int → Int} {t a b : Int} {ps : List Pr} {k : Nat} (h : Good F t t) (ok : FxOk F ps (t + 1)) (a0 : 0 ≤ a) (ab : a ≤ b) (bt : b ≤ t) (hs : ∀ x, a ≤ x → x ≤ b → x < F x) (h1 : ∀ (j : Nat) (p : Pr), j < k → ps[j]? = some p → p.2 < a) (h2 : ∀ p, ps[k]? = some p → a ≤ p.2) :
    ∃ p, ps[k]? = some p ∧ ∀ x, a ≤ x → x ≤ b → restF F t x = p.1 := by
  have ha := hs a (Int.le_refl _) ab
  obtain ⟨s, s0, s1, s2, s3⟩ := up_ex h (t - a + 1).toNat a (by omega) a0 (by omega) ha
  obtain ⟨p', hp', p1, p2⟩ := ok.all s (by omega) (by omega) s2
  obtain ⟨j', hj'⟩ := List.getElem?_of_mem hp'
  have hk : k ≤ j' := by
    by_cases q : j' < k
    · have := h1 j' p' q hj'
      omega
    · omega
  have hjl := (List.getElem?_eq_some_iff.mp hj').1
  have hkl : k < ps.length := by omega
  have hp := List.getElem?_eq_getElem hkl
  generalize ps[k] = p at hp
  have q2 := h2 p hp
  have qp := ok.le p (List.mem_of_getElem? hp)
  have le := (pairs_le ok hp hj' hk).1
  have pa : a < p.1 := by
    by_cases q : p.1 ≤ a
    · have := ok.fx p (List.mem_of_getElem? hp) a q q2
      omega
    · omega
  have ep : F p.1 = p.1 := ok.fx p (List.mem_of_getElem? hp) p.1 (Int.le_refl _) qp.2.1
  have es : p.1 = s := by
    by_cases q : p.1 < s
    · have := s3 p.1 (by omega) q
      omega
    · omega
  have hb : b < s := by
    by_cases q : s ≤ b
    · have := hs s (by omega) q
      omega
    · omega
  refine ⟨p, hp, fun x x0 x1 => ?_⟩
  rw [es]
  exact rest_up (hs x x0 x1) (by omega) s1 s2 fun z z0 z1 => by have := s3 z (by omega) z1; omega
theorem row_dn {F : Int → Int} {t a b : Int} {ps : List Pr} {k : Nat} (h : Good F t t) (ok : FxOk F ps (t + 1)) (a0 : 0 ≤ a) (ab : a ≤ b) (bt : b ≤ t) (hs : ∀ x, a ≤ x → x ≤ b → F x < x) (hk : k ≤ ps.length) (h1 : ∀ (j : Nat) (p : Pr), j < k → ps[j]? = some p → p.2 < a) (h2 : ∀ p, ps[k]? = some p → a ≤ p.2) :
    0 < k ∧ ∃ p, ps[k - 1]? = some p ∧ ∀ x, a ≤ x → x ≤ b → restF F t x = p.2 := by
  have ha := hs a (Int.le_refl _) ab
  obtain ⟨s, s0, s1, s2, s3⟩ := dn_ex h (a + 1).toNat a (by omega) a0 (by omega) ha
  obtain ⟨p', hp', p1, p2⟩ := ok.all s (by omega) (by omega) s2
  obtain ⟨j', hj'⟩ := List.getElem?_of_mem hp'
  have pa : p'.2 < a := by
    by_cases q : a ≤ p'.2
    · have := ok.fx p' hp' a (by omega) q
      omega
    · omega
  have hjl := (List.getElem?_eq_some_iff.mp hj').1
  have hjk : j' < k := by
    by_cases q : k ≤ j'
    · have hp := List.getElem?_eq_getElem (show k < ps.length by omega)
      have := h2 _ hp
      have := (pairs_le ok hp hj' q).2
      omega
    · omega
  have hp := List.getElem?_eq_getElem (show k - 1 < ps.length by omega)
  generalize ps[k - 1] = p at hp
  have := h1 (k - 1) p (by omega) hp
  have := (pairs_le ok hj' hp (by omega)).2
  have qp := ok.le p (List.mem_of_getElem? hp)
  have ep : F p.2 = p.2 := ok.fx p (List.mem_of_getElem? hp) p.2 qp.2.1 (Int.le_refl _)
  have es : p.2 = s := by
    by_cases q : s < p.2
    · have := s3 p.2 q (by omega)
      omega
    · omega
  refine ⟨by omega, p, hp, fun x x0 x1 => ?_⟩
  rw [es]
  refine rest_dn (hs x x0 x1) s0 (by omega) s2 fun z z0 z1 => ?_
  by_cases q : z ≤ a
  · have := s3 z z0 q
    omega
  · have := hs z (by omega) (by omega)
    omega
end Kf
namespace Kf
open PySem PySem.Spec L2 StX ClX Dn
open PyProof.Rows hiding St
variable {P : Program} {w : World} {K : PySem.W.Frag} {mg : Str → Option Value} {base : Heap}
def F_steady (C : Addr) : FT := fun args st Ret _ => ∃ (t : Int) (ps : List Pc), args = [.dat (psgD C t t ps)] ∧ Ret (.dat .non) st
theorem ok_steady {f C : Addr} {fd : FuncData} (T : PTxt K C) (Fn : Fun K "check_steady" "check_steady" s_check_steady f fd) (b : Binds K fd p_check_steady []) : FnG P w K mg base (L2.CX P w) 1 f (spD K (F_steady C)) := by
  refine fnD Fn sc_check_steady b (fun args st0 Ret Exc h => ?_) ?_
  · obtain ⟨t, ps, rfl, _⟩ := h
    rfl
  intro cdv A outer s H E H0 Al args st0 Ret Exc hr xk hp hal hcl hF
  obtain ⟨t, ps, rfl, q⟩ := hF
  refine sw_cons ?_
  refine sw_if ?_
  refine tw_cmp (nomark _) ?_
  refine ew_fld ?_
  refine ew_name 0 rfl ?_
  refine ⟨_, _, _, rfl, T.cls, T.no_top, fsP_top _ _ _, ?_⟩
  refine ew_fld ?_
  refine ew_name 0 rfl ?_
  refine ⟨_, _, _, rfl, T.cls, T.no_target, fsP_target _ _ _, ?_⟩
  refine o_neI ?_
  refine ⟨_, rfl, ?_⟩
  refine ifF (by simp) ?_
  refine sw_nil ?_
  refine sw_nil ?_
  exact krE_of hcl q
def F_sign : FT := fun args st Ret _ => ∃ n : Int, args = [.dat (.int n)] ∧ Ret (.dat (.int (sgn n))) st
theorem ok_sign {f : Addr} {fd : FuncData} (Fn : Fun K "sign" "sign" s_sign f fd) (b : Binds K fd p_sign []) : FnG P w K mg base (L2.CX P w) 1 f (spD K F_sign) := by
  refine fnD Fn sc_sign b (fun args st0 Ret Exc h => ?_) ?_
  · obtain ⟨n, rfl, _⟩ := h
    rfl
  intro cdv A outer s H E H0 Al args st0 Ret Exc hr xk hp hal hcl hF
  obtain ⟨n, rfl, q⟩ := hF
  unfold sgn at q
  refine sw_cons ?_
  refine sw_if ?_
  refine tw_cmp (nomark _) ?_
  refine ew_name 0 rfl ?_
  refine ew_int ?_
  refine o_eqI ?_
  refine ⟨_, rfl, ?_⟩
  refine ifD (fun h => ?_) (fun h => ?_)
  · refine sw_cons ?_
    refine sw_ret ?_
    refine ew_int ?_
    rw [if_pos h] at q
    exact krE_of hcl q
  · rw [if_neg h] at q
    refine sw_nil ?_
    refine sw_cons ?_
    refine sw_ret ?_
    refine ew_if ?_
    refine tw_cmp (nomark _) ?_
    refine ew_name 0 rfl ?_
    refine ew_int ?_
    refine o_gt ?_
    refine ⟨_, rfl, ?_⟩
    refine ifD (fun h2 => ?_) (fun h2 => ?_)
    · rw [if_pos h2] at q
      refine ew_int ?_
      exact krE_of hcl q
    · rw [if_neg h2] at q
      refine ew_neg ?_
      refine ew_int ?_
      refine ⟨_, rfl, ?_⟩
      exact krE_of hcl q
def F_dron : FT := fun args st Ret _ => ∃ r : Row, args = [.dat (rowD r)] ∧ Ret (.dat (.lst ((dron r).map drD))) st
theorem ok_dron {f : Addr} {fd : FuncData} (C_sign : Cal P w K mg base 1 "sign" F_sign) (C_lesser : Cal P w K mg base 1 "lesser" F_lesser) (C_greater : Cal P w K mg base 1 "greater" F_greater) (Fn : Fun K "drifts_on" "drifts_on" s_drifts_on f fd) (b : Binds K fd p_drifts_on []) : FnG P w K mg base (L2.CX P w) 2 f (spD K F_dron) := by
  refine fnD Fn sc_drifts_on b (fun args st0 Ret Exc h => ?_) ?_
  · obtain ⟨r, rfl, _⟩ := h
    rfl
  intro cdv A outer s H E H0 Al args st0 Ret Exc hr xk hp hal hcl hF
  obtain ⟨r, rfl, q⟩ := hF
  unfold dron at q
  refine sw_cons ?_
  refine sw_asg ?_
  refine ew_name 0 rfl ?_
  refine gw_tup rfl ?_
  refine gs_cons ?_
  refine gw_name 2 ?_ sc_drifts_on.nd
  refine gs_cons ?_
  refine gw_name 3 ?_ sc_drifts_on.nd
  refine gs_cons ?_
  refine gw_name 4 ?_ sc_drifts_on.nd
  refine gs_cons ?_
  refine gw_name 5 ?_ sc_drifts_on.nd
  refine gs_nil ?_
  show SW _ _ _ [some (.dat (rowD r)), none, some (.dat (.int r.1)), some (.dat (.int r.2.1)), some (.dat (.int r.2.2.1)), some (.dat (.bl r.2.2.2)), none] _ _
  refine sw_cons ?_
  refine sw_if ?_
  refine tw_val ?_
  refine ew_name 5 rfl ?_
  refine ⟨_, rfl, ?_⟩
  refine ifB (fun h => ?_) (fun h => ?_)
  · rw [if_pos h] at q
    refine sw_cons ?_
    refine sw_ret ?_
    refine ew_lst ?_
    refine aw_cons ?_
    refine ew_tup ?_
    refine aw_cons ?_
    refine ew_name 2 rfl ?_
    refine aw_cons ?_
    refine ew_name 3 rfl ?_
    refine aw_cons ?_
    refine ew_call C_sign hr (by decide) xk ?_
    refine aw_cons ?_
    refine ew_bin ?_
    refine ew_name 4 rfl ?_
    refine ew_name 2 rfl ?_
    refine o_sub ?_
    refine aw_nil ?_
    refine ⟨_, rfl, ?_⟩
    refine aw_nil ?_
    refine ⟨_, rfl, (by show 3 ≤ sizeLine; decide), ?_⟩
    refine aw_nil ?_
    refine ⟨_, rfl, (by show 1 ≤ sizeLine; decide), ?_⟩
    exact krE_of hcl q
  · rw [if_neg (by rw [h]; decide)] at q
    refine sw_nil ?_
    refine sw_cons ?_
    refine sw_set 1 ?_ sc_drifts_on.nd
    refine ew_lst ?_
    refine aw_cons ?_
    refine ew_tup ?_
    refine aw_cons ?_
    refine ew_name 2 rfl ?_
    refine aw_cons ?_
    refine ew_call C_lesser hr (by decide) xk ?_
    refine aw_cons ?_
    refine ew_name 3 rfl ?_
    refine aw_cons ?_
    refine ew_bin ?_
    refine ew_name 4 rfl ?_
    refine ew_int ?_
    refine o_sub ?_
    refine aw_nil ?_
    refine ⟨_, _, rfl, ?_⟩
    refine aw_cons ?_
    refine ew_int ?_
    refine aw_nil ?_
    refine ⟨_, rfl, (by show 3 ≤ sizeLine; decide), ?_⟩
    refine aw_cons ?_
    refine ew_tup ?_
    refine aw_cons ?_
    refine ew_call C_greater hr (by decide) xk ?_
    refine aw_cons ?_
    refine ew_name 2 rfl ?_
    refine aw_cons ?_
    refine ew_name 4 rfl ?_
    refine aw_nil ?_
    refine ⟨_, _, rfl, ?_⟩
    refine aw_cons ?_
    refine ew_call C_lesser hr (by decide) xk ?_
    refine aw_cons ?_
    refine ew_name 3 rfl ?_
    refine aw_cons ?_
    refine ew_name 4 rfl ?_
    refine aw_nil ?_
    refine ⟨_, _, rfl, ?_⟩
    refine aw_cons ?_
    refine ew_int ?_
    refine aw_nil ?_
    refine ⟨_, rfl, (by show 3 ≤ sizeLine; decide), ?_⟩
    refine aw_cons ?_
    refine ew_tup ?_
    refine aw_cons ?_
    refine ew_call C_greater hr (by decide) xk ?_
    refine aw_cons ?_
    refine ew_name 2 rfl ?_
    refine aw_cons ?_
    refine ew_bin ?_
    refine ew_name 4 rfl ?_
    refine ew_int ?_
    refine o_add ?_
    refine aw_nil ?_
    refine ⟨_, _, rfl, ?_⟩
    refine aw_cons ?_
    refine ew_name 3 rfl ?_
    refine aw_cons ?_
    refine ew_neg ?_
    refine ew_int ?_
    refine ⟨_, rfl, ?_⟩
    refine aw_nil ?_
    refine ⟨_, rfl, (by show 3 ≤ sizeLine; decide), ?_⟩
    refine aw_nil ?_
    refine ⟨_, rfl, (by show 3 ≤ sizeLine; decide), ?_⟩
    generalize hds : ([(r.1, lesF r.2.1 (r.2.2.1 - 1), (1 : Int)), (greF r.1 r.2.2.1, lesF r.2.1 r.2.2.1, 0), (greF r.1 (r.2.2.1 + 1), r.2.1, -1)] : List Dr) = ds at q
    have hdl : ds.length = 3 := by rw [← hds]; rfl
    show SW _ _ _ [some (.dat (rowD r)), some (.dat (.lst (([(r.1, lesF r.2.1 (r.2.2.1 - 1), (1 : Int)), (greF r.1 r.2.2.1, lesF r.2.1 r.2.2.1, 0), (greF r.1 (r.2.2.1 + 1), r.2.1, -1)] : List Dr).map drD))), some (.dat (.int r.1)), some (.dat (.int r.2.1)), some (.dat (.int r.2.2.1)), some (.dat (.bl r.2.2.2)), none] _ _
    rw [hds]
    refine sw_cons ?_
    refine sw_ret ?_
    refine ew_lcif (own := [("part", 6)]) (tb := false) (is := [6]) rfl sc_drifts_on.nd (blkOk_by (N := n_drifts_on) (sc := defScope s_drifts_on) (by decide +kernel)) (fun _ _ _ _ _ => pg_name (i := 6) sc_drifts_on.nd rfl (Or.inl rfl)) (by decide) ?_
    refine lcj_mapF ds drD (fun d => decide (d.1 ≤ d.2.1)) drD (szl (by omega)) ?_ ?_ ?_
    · refine iw_list ?_
      refine ew_name 1 rfl ?_
      exact ⟨_, rfl, rfl, rfl⟩
    · intro d hd
      refine ⟨_, rfl, ?_⟩
      intro G1 sb Hb Cb cl fp
      refine tw_cmp (nomark _) ?_
      refine ew_ix ?_
      refine ew_name 6 rfl ?_
      refine ew_int ?_
      refine ⟨_, _, rfl, itm_tup (j := 0) rfl rfl, ?_⟩
      refine ew_ix ?_
      refine ew_name 6 rfl ?_
      refine ew_int ?_
      refine ⟨_, _, rfl, itm_tup (j := 1) rfl rfl, ?_⟩
      refine o_le ?_
      refine ⟨_, rfl, rfl, rfl, fun _ => ?_⟩
      intro G2 sb2 Hb2 Cb2 cl2 fp2
      exact ew_name 6 rfl ⟨rfl, rfl⟩
    · exact krE_of hcl q
def F_drifts (C : Addr) : FT := fun args st Ret _ => ∃ (F : Int → Int) (t g : Int) (N : Nat) (d : D), args = [.dat d] ∧ IsP C t g F N d ∧ N ≤ 1000 ∧ ∀ ds, DrC F ds 0 t → ds.length ≤ 3 * N → Ret (.dat (.lst (ds.map drD))) st
theorem drs_snoc {rs : List Row} {i : Nat} {r : Row} (h : rs[i]? = some r) : ((rs.take (i + 1)).map dron).flatten = ((rs.take i).map dron).flatten ++ dron r := by
  rw [take_succ_of h, List.map_append, List.flatten_append]
  simp
theorem ok_drifts {f C : Addr} {fd : FuncData} (C_rows_of : Cal P w K mg base 2 "rows_of" (F_rows_of C)) (C_dron : Cal P w K mg base 2 "drifts_on" F_dron) (Fn : Fun K "drifts" "drifts" s_drifts f fd) (b : Binds K fd p_drifts []) : FnG P w K mg base (L2.CX P w) 3 f (spD K (F_drifts C)) := by
  refine fnD Fn sc_drifts b (fun args st0 Ret Exc h => ?_) ?_
  · obtain ⟨F, t, g, N, d, rfl, _⟩ := h
    rfl
  intro cdv A outer s H E H0 Al args st0 Ret Exc hr xk hp hal hcl hF
  obtain ⟨F, t, g, N, d, rfl, hP, hN, q⟩ := hF
  refine sw_cons ?_
  refine sw_ret ?_
  refine ew_lc2 (own := [("row", 1), ("part", 2)]) (tb := false) (is := [1]) (tb1 := false) (is1 := [2]) (vs1 := [2]) rfl sc_drifts.nd (blkOk_by (N := n_drifts) (sc := defScope s_drifts) (by decide +kernel)) (fun _ _ _ _ _ => pg_name (i := 1) sc_drifts.nd rfl (Or.inl rfl)) (fun _ _ _ _ _ => pg_name (i := 2) sc_drifts.nd rfl (Or.inl rfl)) (by decide) (by decide) (by decide) ?_
  refine iw_list ?_
  refine ew_call C_rows_of hr (by decide) xk ?_
  refine aw_cons ?_
  refine ew_name 0 rfl ?_
  refine aw_nil ?_
  refine ⟨F, t, g, N, d, rfl, hP, hN, fun rs cF hl _ => ?_⟩
  refine ⟨_, rfl, ?_⟩
  refine ⟨fun i acc st => st = st0 ∧ acc = (((rs.take i).map dron).flatten).map drD, ⟨rfl, rfl⟩, fun i w acc st hw hI => ?_, fun acc st hI => ?_⟩
  · obtain ⟨rfl, rfl⟩ := hI
    obtain ⟨d1, hd, rfl⟩ := getElem?_mapW hw
    rw [List.getElem?_map] at hd
    obtain ⟨r, hr0, rfl⟩ := Option.map_eq_some_iff.mp hd
    refine ⟨_, rfl, fun G1 sb Hb Cb cl fp => ?_⟩
    refine iw_list ?_
    refine ew_call C_dron hr (by decide) xok_false ?_
    refine aw_cons ?_
    refine ew_name 1 rfl ?_
    refine aw_nil ?_
    refine ⟨r, rfl, ?_⟩
    refine ⟨_, rfl, ?_⟩
    have hz := drs_len (rs.take i)
    rw [List.length_take] at hz
    have hz2 := dron_len r
    refine ⟨fun j acc st' => st' = st ∧ acc = (((rs.take i).map dron).flatten).map drD ++ ((dron r).take j).map drD, ⟨rfl, by simp⟩, fun j w1 acc1 st3 hw1 hI1 => ?_, fun acc1 st3 hI1 => ?_⟩
    · obtain ⟨rfl, rfl⟩ := hI1
      obtain ⟨d1, hd1, rfl⟩ := getElem?_mapW hw1
      rw [List.getElem?_map] at hd1
      obtain ⟨e, he, rfl⟩ := Option.map_eq_some_iff.mp hd1
      have hj := (List.getElem?_eq_some_iff.mp he).1
      refine ⟨_, rfl, fun G2 sb2 Hb2 Cb2 cl2 fp2 => ?_⟩
      refine ew_name 2 rfl ?_
      refine ⟨_, rfl, szl (by rw [List.length_append, List.length_map, List.length_map, List.length_take]; omega), rfl, ?_⟩
      rw [take_succ_of he, List.map_append, List.append_assoc]
      rfl
    · obtain ⟨rfl, rfl⟩ := hI1
      refine ⟨rfl, ?_⟩
      rw [List.length_map, List.length_map, List.take_length, drs_snoc hr0, List.map_append]
  · obtain ⟨rfl, rfl⟩ := hI
    rw [List.length_map, List.length_map, List.take_length]
    refine krE_of hcl (q _ (drs_cov cF) ?_)
    have := drs_len rs
    omega
end Kf
namespace Kf
open PySem PySem.Spec L2 StX ClX Dn
open PyProof.Rows hiding St
variable {P : Program} {w : World} {K : PySem.W.Frag} {mg : Str → Option Value} {base : Heap}
abbrev fxD (p : Pr) : D := .tup [.int p.1, .int p.2]
theorem itm_ptrL {st : List Ob} {j : Nat} {xs : List W} {w : W} (h : st[j]? = some (.lst (xs ++ [w]))) : Itm st (.ptr j) (-1) = some w := by
  show (match st[j]? with | some (.lst xs) => atI xs (-1) | _ => none) = _
  rw [h]
  show atI (xs ++ [w]) (-1) = some w
  unfold atI
  have e : ixN (xs ++ [w]).length (-1) = some xs.length := by
    have hl : (xs ++ [w]).length = xs.length + 1 := by simp
    rw [hl]
    unfold ixN
    rw [if_neg (by decide), if_pos (by omega)]
    congr 1
    omega
  rw [e]
  simp
theorem fxAdd_len (ps : List Pr) (a b : Int) : (fxAdd ps a b).length ≤ ps.length + 1 := by
  unfold fxAdd
  cases hl : ps.getLast? with
  | none => simp
  | some p =>
    dsimp only
    split
    · rw [List.length_append, List.length_dropLast]
      show ps.length - 1 + 1 ≤ _
      omega
    · simp
theorem sgn_0 {i : Int} (h : sgn i = 0) : i = 0 := by
  unfold sgn at h
  by_cases q : i = 0
  · exact q
  · rw [if_neg q] at h
    split at h <;> omega
theorem sgn_p {i : Int} (h : 0 < sgn i) : 0 < i := by
  unfold sgn at h
  split at h
  · omega
  · split at h <;> omega
theorem sgn_n {i : Int} (h : sgn i < 0) : i < 0 := by
  unfold sgn at h
  split at h
  · omega
  · split at h <;> omega
def F_fixed (C : Addr) : FT := fun args st Ret _ => ∃ (F : Int → Int) (t : Int) (N : Nat) (d : D), args = [.dat d] ∧ IsP C t t F N d ∧ N ≤ 300 ∧ ((fxs F (t + 1).toNat).length ≤ 3 * N → Ret (.dat (.tup ((fxs F (t + 1).toNat).map fxD))) st)
theorem ok_fixed {f C : Addr} {fd : FuncData} (B : Bl mg) (C_steady : Cal P w K mg base 1 "check_steady" (F_steady C)) (C_drifts : Cal P w K mg base 3 "drifts" (F_drifts C)) (Fn : Fun K "fixed" "fixed" s_fixed f fd) (b : Binds K fd p_fixed []) : FnG P w K mg base (L2.CX P w) 4 f (spD K (F_fixed C)) := by
  refine fnD Fn sc_fixed b (fun args st0 Ret Exc h => ?_) ?_
  · obtain ⟨F, t, N, d, rfl, _⟩ := h
    rfl
  intro cdv A outer s H E H0 Al args st0 Ret Exc hr xk hp hal hcl hF
  obtain ⟨F, t, N, d, rfl, hP, hN, q⟩ := hF
  have t0 := hP.2.2.2.1.t0
  refine sw_cons ?_
  refine sw_expr ?_
  refine ew_call C_steady hr (by decide) xk ?_
  refine aw_cons ?_
  refine ew_name 0 rfl ?_
  refine aw_nil ?_
  refine ⟨t, nf F t, by rw [hP.1], ?_⟩
  refine sw_cons ?_
  refine sw_set 1 ?_ sc_fixed.nd
  refine ew_lstM ?_
  refine aw_nil ?_
  refine ⟨(by show 0 ≤ sizeLine; decide), ?_⟩
  refine sw_cut (fun sl st => ∃ (x2 x3 x4 x5 : Option W), sl = [some (.dat d), some (.ptr st0.length), x2, x3, x4, x5] ∧ st = st0 ++ [.lst (((fxs F (t + 1).toNat).map fxD).map W.dat)] ∧ (fxs F (t + 1).toNat).length ≤ 3 * N) ?_ ?_
  · refine sw_for hp rfl ?_
    refine iw_list ?_
    refine ew_call C_drifts hr (by decide) xk ?_
    refine aw_cons ?_
    refine ew_name 0 rfl ?_
    refine aw_nil ?_
    refine ⟨F, t, t, N, d, rfl, hP, by omega, fun ds hds hdl => ?_⟩
    refine ⟨_, rfl, ?_⟩
    refine ⟨fun i sl st => ∃ (lo : Int) (x2 x3 x4 x5 : Option W), (∀ e, ds[i]? = some e → e.1 = lo) ∧ (i = ds.length → lo = t + 1) ∧ 0 ≤ lo ∧ (fxs F lo.toNat).length ≤ i ∧ sl = [some (.dat d), some (.ptr st0.length), x2, x3, x4, x5] ∧ st = st0 ++ [.lst (((fxs F lo.toNat).map fxD).map W.dat)], ?_, fun i w sl st hw hI => ?_, fun sl st hI => ?_⟩
    · refine ⟨0, _, _, _, _, fun e he => ?_, fun e => ?_, Int.le_refl _, Nat.le_refl _, rfl, rfl⟩
      · cases ds with
        | nil => cases he
        | cons d1 ds =>
          cases he
          exact hds.1
      · cases ds with
        | nil =>
          have z : (0 : Int) = t + 1 := hds
          omega
        | cons d1 ds => cases e
    · obtain ⟨lo, x2, x3, x4, x5, l1, l2, l0, hlen, rfl, rfl⟩ := hI
      obtain ⟨d1, hd, rfl⟩ := getElem?_mapW hw
      rw [List.getElem?_map] at hd
      obtain ⟨e, he, rfl⟩ := Option.map_eq_some_iff.mp hd
      have hi := (List.getElem?_eq_some_iff.mp he).1
      have e1 := l1 e he
      obtain ⟨c1, c2, c3, c4⟩ := drc_get hds he
      have nxt : (∀ e2, ds[i + 1]? = some e2 → e2.1 = e.2.1 + 1) ∧ (i + 1 = ds.length → e.2.1 + 1 = t + 1) := by
        refine ⟨fun e2 he2 => drc_next hds he he2, fun z => ?_⟩
        have := drc_last hds he (List.getElem?_eq_none (by omega))
        omega
      have hn : (lo.toNat : Int) = lo := by omega
      refine gw_tup rfl ?_
      refine gs_cons ?_
      refine gw_name 2 ?_ sc_fixed.nd
      refine gs_cons ?_
      refine gw_name 3 ?_ sc_fixed.nd
      refine gs_cons ?_
      refine gw_name 4 ?_ sc_fixed.nd
      refine gs_nil ?_
      show SW _ _ _ [some (.dat d), some (.ptr st0.length), some (.dat (.int e.1)), some (.dat (.int e.2.1)), some (.dat (.int e.2.2)), x5] _ _
      have gL : ∀ o : Ob, (st0 ++ [o])[st0.length]? = some o := fun o => by simp
      have tL : ∀ o u : Ob, (st0 ++ [o]).set st0.length u = st0 ++ [u] := fun o u => by simp
      refine sw_cons ?_
      refine sw_if ?_
      refine tw_cmp (nomark _) ?_
      refine ew_name 4 rfl ?_
      refine ew_int ?_
      refine o_eqI ?_
      refine ⟨_, rfl, ?_⟩
      refine ifD (fun h => ?_) (fun h => ?_)
      · have hon : fxs F (e.2.1 + 1).toNat = fxAdd (fxs F lo.toNat) e.1 e.2.1 := by
          have z := fxs_on (F := F) (n := lo.toNat) (e.2.1 - e.1).toNat fun x a b => by
            have := c4 x (by omega) (by omega)
            rw [h] at this
            have := sgn_0 this
            omega
          rw [show lo.toNat + (e.2.1 - e.1).toNat + 1 = (e.2.1 + 1).toNat by omega, hn] at z
          rw [z, e1]
          congr 1
          omega
        have hal2 := fxAdd_len (fxs F lo.toNat) e.1 e.2.1
        rw [← hon] at hal2
        refine sw_cons ?_
        refine sw_mid1 (fun sl st => ∃ (f1 : Int) (ps : List Pr), sl = [some (.dat d), some (.ptr st0.length), some (.dat (.int e.1)), some (.dat (.int e.2.1)), some (.dat (.int e.2.2)), some (.dat (.int f1))] ∧ st = st0 ++ [.lst ((ps.map fxD).map W.dat)] ∧ ps ++ [(f1, e.2.1)] = fxs F (e.2.1 + 1).toNat) ?_ ?_
        · refine sw_set 5 ?_ sc_fixed.nd
          cases hl : (fxs F lo.toNat).getLast? with
          | none =>
            have en : fxs F lo.toNat = [] := List.getLast?_eq_none_iff.mp hl
            refine ew_if ?_
            refine tw_bool ?_
            refine bw_and ?_
            refine tw_val ?_
            refine ew_name 1 rfl ?_
            refine ⟨false, by show (match (st0 ++ [_])[st0.length]? with | some (.lst xs) => some (!xs.isEmpty) | _ => none) = _; rw [gL, en]; rfl, ?_⟩
            refine ifF rfl ?_
            refine ifF rfl ?_
            refine ew_name 2 rfl ?_
            refine ⟨e.1, [], rfl, by rw [en], ?_⟩
            rw [hon, en]
            rfl
          | some p =>
            obtain ⟨qs, en⟩ := List.getLast?_eq_some_iff.mp hl
            have ew : ((fxs F lo.toNat).map fxD).map W.dat = (qs.map fxD).map W.dat ++ [.dat (fxD p)] := by rw [en]; simp
            rw [ew]
            refine ew_if ?_
            refine tw_bool ?_
            refine bw_and ?_
            refine tw_val ?_
            refine ew_name 1 rfl ?_
            refine ⟨true, by show (match (st0 ++ [_])[st0.length]? with | some (.lst xs) => some (!xs.isEmpty) | _ => none) = _; rw [gL]; simp, ?_⟩
            refine ifT rfl ?_
            refine bw_and1 ?_
            refine tw_cmp (nomark _) ?_
            refine ew_ix ?_
            refine ew_ix ?_
            refine ew_name 1 rfl ?_
            refine ew_neg ?_
            refine ew_int ?_
            refine ⟨_, rfl, ?_⟩
            refine ⟨_, _, rfl, itm_ptrL (gL _), ?_⟩
            refine ew_int ?_
            refine ⟨_, _, rfl, itm_tup (j := 1) rfl rfl, ?_⟩
            refine ew_bin ?_
            refine ew_name 2 rfl ?_
            refine ew_int ?_
            refine o_sub ?_
            refine o_eqI ?_
            refine ⟨_, rfl, ?_⟩
            refine ifD (fun h2 => ?_) (fun h2 => ?_)
            · refine ew_ix ?_
              refine ew_pop ?_
              refine ew_name 1 rfl ?_
              refine ⟨st0.length, _, .dat (fxD p), rfl, gL _, by simp, ?_⟩
              refine ew_int ?_
              refine ⟨_, _, rfl, itm_tup (j := 0) rfl rfl, ?_⟩
              rw [tL]
              refine ⟨p.1, qs, rfl, by rw [List.dropLast_concat], ?_⟩
              rw [hon]
              unfold fxAdd
              rw [hl]
              dsimp only
              rw [if_pos h2, en, List.dropLast_concat]
            · refine ew_name 2 rfl ?_
              refine ⟨e.1, fxs F lo.toNat, rfl, by rw [ew], ?_⟩
              rw [hon]
              unfold fxAdd
              rw [hl]
              dsimp only
              rw [if_neg h2]
        · rintro sl st ⟨f1, ps, rfl, rfl, hps⟩
          have hpl : ps.length + 1 = (fxs F (e.2.1 + 1).toNat).length := by rw [← hps]; simp
          refine sw_cons ?_
          refine sw_expr ?_
          refine ew_append ?_
          refine ew_name 1 rfl ?_
          refine ⟨st0.length, _, rfl, gL _, ?_⟩
          refine ew_tup ?_
          refine aw_cons ?_
          refine ew_name 5 rfl ?_
          refine aw_cons ?_
          refine ew_name 3 rfl ?_
          refine aw_nil ?_
          refine ⟨_, rfl, (by show 2 ≤ sizeLine; decide), ?_⟩
          refine ⟨_, gL _, szl (by rw [List.length_map, List.length_map]; omega), ?_⟩
          rw [tL]
          refine sw_nil ?_
          refine sw_nil ?_
          refine ⟨e.2.1 + 1, _, _, _, _, nxt.1, nxt.2, by omega, by omega, rfl, ?_⟩
          rw [← hps]
          simp
      · refine sw_nil ?_
        refine sw_nil ?_
        have hoff : fxs F (e.2.1 + 1).toNat = fxs F lo.toNat := by
          have z := fxs_off (F := F) (n := lo.toNat) (e.2.1 - e.1 + 1).toNat fun x a b => by
            have := c4 x (by omega) (by omega)
            intro z
            rw [z, Int.sub_self] at this
            exact h (this.symm.trans rfl)
          rw [show lo.toNat + (e.2.1 - e.1 + 1).toNat = (e.2.1 + 1).toNat by omega] at z
          exact z
        exact ⟨e.2.1 + 1, _, _, _, _, nxt.1, nxt.2, by omega, by rw [hoff]; omega, rfl, by rw [hoff]⟩
    · obtain ⟨lo, x2, x3, x4, x5, l1, l2, l0, hlen, rfl, rfl⟩ := hI
      have e := l2 (by rw [List.length_map, List.length_map])
      subst e
      refine ⟨_, _, _, _, rfl, rfl, ?_⟩
      rw [List.length_map, List.length_map] at hlen
      omega
  · rintro sl st ⟨x2, x3, x4, x5, rfl, rfl, hlen⟩
    refine sw_cons ?_
    refine sw_ret ?_
    refine ew_bty bt_tuple B.tuple ?_
    refine aw_cons ?_
    refine ew_name 1 rfl ?_
    refine aw_nil ?_
    refine c_tupleM (xs := (fxs F (t + 1).toNat).map fxD) (by simp) ?_
    exact krE_app hcl (q hlen)
end Kf
namespace Kf
open PySem PySem.Spec L2 StX ClX Dn
open PyProof.Rows hiding St
variable {P : Program} {w : World} {K : PySem.W.Frag} {mg : Str → Option Value} {base : Heap}
def F_rest (C : Addr) : FT := fun args st Ret _ => ∃ (F : Int → Int) (t : Int) (N : Nat) (d : D), args = [.dat d] ∧ IsP C t t F N d ∧ N ≤ 300 ∧ ∀ q, IsP C t t (restF F t) (3 * N) q → Ret (.dat q) st
theorem ok_rest {f C : Addr} {fd : FuncData} (B : Bl mg) (T : PTxt K C) (C_fixed : Cal P w K mg base 4 "fixed" (F_fixed C)) (C_drifts : Cal P w K mg base 3 "drifts" (F_drifts C)) (C_passage_of : Cal P w K mg base 6 "passage_of" (F_passage_of C)) (Fn : Fun K "rest" "rest" s_rest f fd) (b : Binds K fd p_rest []) : FnG P w K mg base (L2.CX P w) 7 f (spD K (F_rest C)) := by
  refine fnD Fn sc_rest b (fun args st0 Ret Exc h => ?_) ?_
  · obtain ⟨F, t, N, d, rfl, _⟩ := h
    rfl
  intro cdv A outer s H E H0 Al args st0 Ret Exc hr xk hp hal hcl hF
  obtain ⟨F, t, N, d, rfl, hP, hN, q⟩ := hF
  have hg := hP.2.2.2.1
  have t0 := hg.t0
  refine sw_cons ?_
  refine sw_set 1 ?_ sc_rest.nd
  refine ew_call C_fixed hr (by decide) xk ?_
  refine aw_cons ?_
  refine ew_name 0 rfl ?_
  refine aw_nil ?_
  refine ⟨F, t, N, d, rfl, hP, hN, fun hfl => ?_⟩
  have fok := fxs_ok F (t + 1).toNat
  rw [show (((t + 1).toNat : Nat) : Int) = t + 1 by omega] at fok
  generalize fxs F (t + 1).toNat = fp at hfl fok ⊢
  refine sw_cons ?_
  refine sw_set 2 ?_ sc_rest.nd
  refine ew_lstM ?_
  refine aw_nil ?_
  refine ⟨(by show 0 ≤ sizeLine; decide), ?_⟩
  refine sw_cons ?_
  refine sw_set 3 ?_ sc_rest.nd
  refine ew_int ?_
  have gL : ∀ o : Ob, (st0 ++ [o])[st0.length]? = some o := fun o => by simp
  have tL : ∀ o u : Ob, (st0 ++ [o]).set st0.length u = st0 ++ [u] := fun o u => by simp
  show SW _ _ _ [some (.dat d), some (.dat (.tup (fp.map fxD))), some (.ptr st0.length), some (.dat (.int 0)), none, none, none] (st0 ++ [.lst []]) _
  refine sw_cut (fun sl st => ∃ (rws : List Row) (x3 x4 x5 x6 : Option W), sl = [some (.dat d), some (.dat (.tup (fp.map fxD))), some (.ptr st0.length), x3, x4, x5, x6] ∧ st = st0 ++ [.lst ((rws.map rowD).map W.dat)] ∧ Cov (restF F t) rws 0 t ∧ rws.length ≤ 3 * N) ?_ ?_
  · refine sw_for hp rfl ?_
    refine iw_list ?_
    refine ew_call C_drifts hr (by decide) xk ?_
    refine aw_cons ?_
    refine ew_name 0 rfl ?_
    refine aw_nil ?_
    refine ⟨F, t, t, N, d, rfl, hP, by omega, fun ds hds hdl => ?_⟩
    refine ⟨_, rfl, ?_⟩
    refine ⟨fun i sl st => ∃ (lo : Int) (k : Nat) (rws : List Row) (x4 x5 x6 : Option W), (∀ e, ds[i]? = some e → e.1 = lo) ∧ (i = ds.length → lo = t + 1) ∧ 0 ≤ lo ∧ rws.length ≤ i ∧ k ≤ fp.length ∧ (∀ (j : Nat) (p : Pr), j < k → fp[j]? = some p → p.2 < lo) ∧ Cov (restF F t) rws 0 (lo - 1) ∧ sl = [some (.dat d), some (.dat (.tup (fp.map fxD))), some (.ptr st0.length), some (.dat (.int (k : Int))), x4, x5, x6] ∧ st = st0 ++ [.lst ((rws.map rowD).map W.dat)], ?_, fun i w sl st hw hI => ?_, fun sl st hI => ?_⟩
    · refine ⟨0, 0, [], _, _, _, fun e he => ?_, fun e => ?_, Int.le_refl _, Nat.le_refl _, Nat.zero_le _, fun j p hj => by omega, rfl, rfl, rfl⟩
      · cases ds with
        | nil => cases he
        | cons d1 ds =>
          cases he
          exact hds.1
      · cases ds with
        | nil =>
          have z : (0 : Int) = t + 1 := hds
          omega
        | cons d1 ds => cases e
    · obtain ⟨lo, k, rws, x4, x5, x6, l1, l2, l0, hlen, hk, hlow, hcov, rfl, rfl⟩ := hI
      obtain ⟨d1, hd, rfl⟩ := getElem?_mapW hw
      rw [List.getElem?_map] at hd
      obtain ⟨e, he, rfl⟩ := Option.map_eq_some_iff.mp hd
      have hi := (List.getElem?_eq_some_iff.mp he).1
      have e1 := l1 e he
      obtain ⟨c1, c2, c3, c4⟩ := drc_get hds he
      have nxt : (∀ e2, ds[i + 1]? = some e2 → e2.1 = e.2.1 + 1) ∧ (i + 1 = ds.length → e.2.1 + 1 = t + 1) := by
        refine ⟨fun e2 he2 => drc_next hds he he2, fun z => ?_⟩
        have := drc_last hds he (List.getElem?_eq_none (by omega))
        omega
      refine gw_tup rfl ?_
      refine gs_cons ?_
      refine gw_name 4 ?_ sc_rest.nd
      refine gs_cons ?_
      refine gw_name 5 ?_ sc_rest.nd
      refine gs_cons ?_
      refine gw_name 6 ?_ sc_rest.nd
      refine gs_nil ?_
      show SW _ _ _ [some (.dat d), some (.dat (.tup (fp.map fxD))), some (.ptr st0.length), some (.dat (.int (k : Int))), some (.dat (.int e.1)), some (.dat (.int e.2.1)), some (.dat (.int e.2.2))] _ _
      refine sw_cons ?_
      refine sw_mid1 (fun sl st => ∃ k : Nat, sl = [some (.dat d), some (.dat (.tup (fp.map fxD))), some (.ptr st0.length), some (.dat (.int (k : Int))), some (.dat (.int e.1)), some (.dat (.int e.2.1)), some (.dat (.int e.2.2))] ∧ st = st0 ++ [.lst ((rws.map rowD).map W.dat)] ∧ k ≤ fp.length ∧ (∀ (j : Nat) (p : Pr), j < k → fp[j]? = some p → p.2 < e.1) ∧ ∀ p, fp[k]? = some p → e.1 ≤ p.2) ?_ ?_
      · refine sw_while hp (fun m sl st => ∃ k : Nat, m = fp.length - k ∧ sl = [some (.dat d), some (.dat (.tup (fp.map fxD))), some (.ptr st0.length), some (.dat (.int (k : Int))), some (.dat (.int e.1)), some (.dat (.int e.2.1)), some (.dat (.int e.2.2))] ∧ st = st0 ++ [.lst ((rws.map rowD).map W.dat)] ∧ k ≤ fp.length ∧ ∀ (j : Nat) (p : Pr), j < k → fp[j]? = some p → p.2 < e.1) (fp.length - k) ?_ (fun m sl st hI => ?_)
        · exact ⟨k, rfl, rfl, rfl, hk, fun j p hj hp2 => by have := hlow j p hj hp2; omega⟩
        · obtain ⟨k, rfl, rfl, rfl, hk, hlow⟩ := hI
          refine tw_bool ?_
          refine bw_and ?_
          refine tw_cmp (nomark _) ?_
          refine ew_name 3 rfl ?_
          refine ew_blt bt_len B.len ?_
          refine aw_cons ?_
          refine ew_name 1 rfl ?_
          refine aw_nil ?_
          refine c_len rfl ?_
          rw [List.length_map]
          refine o_lt ?_
          refine ⟨_, rfl, ?_⟩
          refine ifD (fun h => ?_) (fun h => ?_)
          · have hkl : k < fp.length := by omega
            have hpk := List.getElem?_eq_getElem hkl
            generalize fp[k] = p at hpk
            refine bw_and1 ?_
            refine tw_cmp (nomark _) ?_
            refine ew_ix ?_
            refine ew_ix ?_
            refine ew_name 1 rfl ?_
            refine ew_name 3 rfl ?_
            refine ⟨_, _, rfl, itm_tup (j := k) (d := fxD p) rfl (by rw [List.getElem?_map, hpk]; rfl), ?_⟩
            refine ew_int ?_
            refine ⟨_, _, rfl, itm_tup (j := 1) rfl rfl, ?_⟩
            refine ew_name 4 rfl ?_
            refine o_lt ?_
            refine ⟨_, rfl, ?_⟩
            refine ifD (fun h2 => ?_) (fun h2 => ?_)
            · refine sw_cons ?_
              refine sw_aug 3 rfl ?_ sc_rest.nd
              refine ew_int ?_
              refine o_iadd ?_
              refine sw_nil ?_
              refine ⟨fp.length - (k + 1), by omega, k + 1, rfl, ?_, rfl, by omega, fun j p2 hj hp2 => ?_⟩
              · rw [show ((k : Nat) : Int) + 1 = ((k + 1 : Nat) : Int) by omega]
                rfl
              · by_cases z : j < k
                · exact hlow j p2 z hp2
                · rw [show j = k by omega, hpk] at hp2
                  cases hp2
                  exact h2
            · refine ⟨k, rfl, rfl, hk, hlow, fun p2 hp2 => ?_⟩
              rw [hpk] at hp2
              cases hp2
              omega
          · refine ifF rfl ?_
            refine ⟨k, rfl, rfl, hk, hlow, fun p2 hp2 => ?_⟩
            have := (List.getElem?_eq_some_iff.mp hp2).1
            omega
      · clear hlow hk k
        rintro sl st ⟨k, rfl, rfl, hk, hlow, hat⟩
        have goon : ∀ (r : Row), r.1 = e.1 → r.2.1 = e.2.1 → (∀ x, r.1 ≤ x → x ≤ r.2.1 → onRow r x = restF F t x) → ∃ (lo : Int) (k : Nat) (rws' : List Row) (x4 x5 x6 : Option W), (∀ e, ds[i + 1]? = some e → e.1 = lo) ∧ (i + 1 = ds.length → lo = t + 1) ∧ 0 ≤ lo ∧ rws'.length ≤ i + 1 ∧ k ≤ fp.length ∧ (∀ (j : Nat) (p : Pr), j < k → fp[j]? = some p → p.2 < lo) ∧ Cov (restF F t) rws' 0 (lo - 1) ∧ [some (.dat d), some (.dat (.tup (fp.map fxD))), some (.ptr st0.length), some (.dat (.int ((k : Nat) : Int))), some (.dat (.int e.1)), some (.dat (.int e.2.1)), some (.dat (.int e.2.2))] = [some (W.dat d), some (.dat (.tup (fp.map fxD))), some (.ptr st0.length), some (.dat (.int ((k : Nat) : Int))), x4, x5, x6] ∧ st0 ++ [Ob.lst ((rws.map rowD).map W.dat ++ [.dat (rowD r)])] = st0 ++ [.lst ((rws'.map rowD).map W.dat)] := fun r r1 r2 hF => by
          refine ⟨e.2.1 + 1, k, rws ++ [r], _, _, _, nxt.1, nxt.2, by omega, by simp; omega, hk, fun j p hj hp2 => by have := hlow j p hj hp2; omega, ?_, rfl, by simp⟩
          have z := cov_snoc (lo := 0) (a := e.1) (by rw [e1]; exact hcov) r1 (by omega) hF
          rw [r2] at z
          rw [show e.2.1 + 1 - 1 = e.2.1 by omega]
          exact z
        have go2 : ∀ {r : Row}, r.1 = e.1 → r.2.1 = e.2.1 → (∀ x, r.1 ≤ x → x ≤ r.2.1 → onRow r x = restF F t x) → ∃ (lo : Int) (k2 : Nat) (rws' : List Row) (x4 x5 x6 : Option W), (∀ e, ds[i + 1]? = some e → e.1 = lo) ∧ (i + 1 = ds.length → lo = t + 1) ∧ 0 ≤ lo ∧ rws'.length ≤ i + 1 ∧ k2 ≤ fp.length ∧ (∀ (j : Nat) (p : Pr), j < k2 → fp[j]? = some p → p.2 < lo) ∧ Cov (restF F t) rws' 0 (lo - 1) ∧ [some (W.dat d), some (.dat (.tup (fp.map fxD))), some (.ptr st0.length), some (.dat (.int ((k : Nat) : Int))), some (.dat (.int e.1)), some (.dat (.int e.2.1)), some (.dat (.int e.2.2))] = [some (W.dat d), some (.dat (.tup (fp.map fxD))), some (.ptr st0.length), some (.dat (.int ((k2 : Nat) : Int))), x4, x5, x6] ∧ st0 ++ [Ob.lst ((rws.map rowD).map W.dat ++ [.dat (rowD r)])] = st0 ++ [.lst ((rws'.map rowD).map W.dat)] := fun {r} r1 r2 hF => by
          refine ⟨e.2.1 + 1, k, rws ++ [r], _, _, _, nxt.1, nxt.2, by omega, by simp; omega, hk, fun j p hj hp2 => by have := hlow j p hj hp2; omega, ?_, rfl, by simp⟩
          have z := cov_snoc (lo := 0) (a := e.1) (by rw [e1]; exact hcov) r1 (by omega) hF
          rw [r2] at z
          rw [show e.2.1 + 1 - 1 = e.2.1 by omega]
          exact z
        clear goon
        have hrl : (List.map W.dat (List.map rowD rws)).length < sizeLine := szl (by rw [List.length_map, List.length_map]; omega)
        refine sw_cons ?_
        refine sw_if ?_
        refine tw_cmp (nomark _) ?_
        refine ew_name 6 rfl ?_
        refine ew_int ?_
        refine o_gt ?_
        refine ⟨_, rfl, ?_⟩
        refine ifD (fun h => ?_) (fun h => ?_)
        · obtain ⟨p, hpk, hres⟩ := row_up hg fok (by omega : 0 ≤ e.1) c2 c3 (fun x a b => by have := c4 x a b; rw [← this] at h; have := sgn_p h; omega) hlow hat
          refine sw_cons ?_
          refine sw_expr ?_
          refine ew_append ?_
          refine ew_name 2 rfl ?_
          refine ⟨st0.length, _, rfl, gL _, ?_⟩
          refine ew_tup ?_
          refine aw_cons ?_
          refine ew_name 4 rfl ?_
          refine aw_cons ?_
          refine ew_name 5 rfl ?_
          refine aw_cons ?_
          refine ew_ix ?_
          refine ew_ix ?_
          refine ew_name 1 rfl ?_
          refine ew_name 3 rfl ?_
          refine ⟨_, _, rfl, itm_tup (j := k) (d := fxD p) rfl (by rw [List.getElem?_map, hpk]; rfl), ?_⟩
          refine ew_int ?_
          refine ⟨_, _, rfl, itm_tup (j := 0) rfl rfl, ?_⟩
          refine aw_cons ?_
          refine ew_bl ?_
          refine aw_nil ?_
          refine ⟨_, rfl, (by show 4 ≤ sizeLine; decide), ?_⟩
          refine ⟨_, gL _, hrl, ?_⟩
          rw [tL]
          refine sw_nil ?_
          refine sw_nil ?_
          exact go2 (r := (e.1, e.2.1, p.1, false)) rfl rfl fun x a b => (hres x a b).symm
        · refine sw_cons ?_
          refine sw_if ?_
          refine tw_cmp (nomark _) ?_
          refine ew_name 6 rfl ?_
          refine ew_int ?_
          refine o_lt ?_
          refine ⟨_, rfl, ?_⟩
          refine ifD (fun h2 => ?_) (fun h2 => ?_)
          · obtain ⟨k0, p, hpk, hres⟩ := row_dn hg fok (by omega : 0 ≤ e.1) c2 c3 (fun x a b => by have := c4 x a b; rw [← this] at h2; have := sgn_n h2; omega) hk hlow hat
            refine sw_cons ?_
            refine sw_expr ?_
            refine ew_append ?_
            refine ew_name 2 rfl ?_
            refine ⟨st0.length, _, rfl, gL _, ?_⟩
            refine ew_tup ?_
            refine aw_cons ?_
            refine ew_name 4 rfl ?_
            refine aw_cons ?_
            refine ew_name 5 rfl ?_
            refine aw_cons ?_
            refine ew_ix ?_
            refine ew_ix ?_
            refine ew_name 1 rfl ?_
            refine ew_bin ?_
            refine ew_name 3 rfl ?_
            refine ew_int ?_
            refine o_sub ?_
            refine ⟨_, _, rfl, itm_tup (j := k - 1) (d := fxD p) (by omega) (by rw [List.getElem?_map, hpk]; rfl), ?_⟩
            refine ew_int ?_
            refine ⟨_, _, rfl, itm_tup (j := 1) rfl rfl, ?_⟩
            refine aw_cons ?_
            refine ew_bl ?_
            refine aw_nil ?_
            refine ⟨_, rfl, (by show 4 ≤ sizeLine; decide), ?_⟩
            refine ⟨_, gL _, hrl, ?_⟩
            rw [tL]
            refine sw_nil ?_
            refine sw_nil ?_
            refine sw_nil ?_
            exact go2 (r := (e.1, e.2.1, p.2, false)) rfl rfl fun x a b => (hres x a b).symm
          · refine sw_cons ?_
            refine sw_expr ?_
            refine ew_append ?_
            refine ew_name 2 rfl ?_
            refine ⟨st0.length, _, rfl, gL _, ?_⟩
            refine ew_tup ?_
            refine aw_cons ?_
            refine ew_name 4 rfl ?_
            refine aw_cons ?_
            refine ew_name 5 rfl ?_
            refine aw_cons ?_
            refine ew_name 4 rfl ?_
            refine aw_cons ?_
            refine ew_bl ?_
            refine aw_nil ?_
            refine ⟨_, rfl, (by show 4 ≤ sizeLine; decide), ?_⟩
            refine ⟨_, gL _, hrl, ?_⟩
            rw [tL]
            refine sw_nil ?_
            refine sw_nil ?_
            refine sw_nil ?_
            refine go2 (r := (e.1, e.2.1, e.1, true)) rfl rfl fun x a b => ?_
            have z := c4 x a b
            have z2 : sgn (F x - x) = 0 := by omega
            have := sgn_0 z2
            rw [rest_fx (by omega)]
            show e.1 + (x - e.1) = x
            omega
    · obtain ⟨lo, k, rws, x4, x5, x6, l1, l2, l0, hlen, hk, hlow, hcov, rfl, rfl⟩ := hI
      have e := l2 (by rw [List.length_map, List.length_map])
      subst e
      rw [show t + 1 - 1 = t by omega] at hcov
      rw [List.length_map, List.length_map] at hlen
      exact ⟨rws, _, _, _, _, rfl, rfl, hcov, by omega⟩
  · rintro sl st ⟨rws, x3, x4, x5, x6, rfl, rfl, hcov, hlen⟩
    refine sw_frz 2 rfl (gL _) (by show Al.length ≤ _; omega) ?_
    rw [tL]
    show SW _ _ _ [some (.dat d), some (.dat (.tup (fp.map fxD))), some (.dat (.lst (rws.map rowD))), x3, x4, x5, x6] _ _
    refine sw_cons ?_
    refine sw_ret ?_
    refine ew_call C_passage_of hr (by decide) xk ?_
    refine aw_cons ?_
    refine ew_fld ?_
    refine ew_name 0 rfl ?_
    refine ⟨_, _, _, by rw [hP.1]; rfl, T.cls, T.no_top, fsP_top _ _ _, ?_⟩
    refine aw_cons ?_
    refine ew_fld ?_
    refine ew_name 0 rfl ?_
    refine ⟨_, _, _, by rw [hP.1]; rfl, T.cls, T.no_target, fsP_target _ _ _, ?_⟩
    refine aw_cons ?_
    refine ew_name 2 rfl ?_
    refine aw_nil ?_
    exact ⟨rws, restF F t, t, t, 3 * N, rfl, hcov, rest_good hg, hlen, by omega, fun q' hq => krE_app hcl (q q' hq)⟩
end Kf
namespace Kf
open PySem PySem.Spec L2 StX ClX Dn
open PyProof.Rows hiding St
variable {P : Program} {w : World} {K : PySem.W.Frag} {mg : Str → Option Value} {base : Heap}
def absI (i : Int) : Int := if i < 0 then -i else i
def rdN (F : Int → Int) : Nat → Int → Nat
  | 0, _ => 0
  | n + 1, x => if F x = x then 0 else rdN F n (F x) + 1
def rdF (F : Int → Int) (t x : Int) : Nat := rdN F (t + 1).toNat x
def itF (F : Int → Int) : Nat → Int → Int
  | 0, x => x
  | n + 1, x => itF F n (F x)
section
variable {F : Int → Int} {t : Int}
theorem rest_step {x : Int} (h : Good F t t) (h0 : 0 ≤ x) (h1 : x ≤ t) : restF F t (F x) = restF F t x := by
  have a := rest_at h h0 h1
  have n0 := h.nn h0 h1
  have n1 := h.ub h0 h1
  generalize restF F t x = r at a
  have hr := a.fx
  rcases Int.lt_trichotomy (F x) x with q | q | q
  · obtain ⟨a1, a2⟩ := a.dn q
    have hle := h.le a.r0 (Int.le_of_lt a1) h1
    by_cases e : F x = r
    · rw [e, rest_fx hr]
    · exact rest_dn (a2 (F x) (by omega) (by omega)) a.r0 (by omega) hr fun z z0 z1 => by have := a2 z z0 (by omega); omega
  · have := a.st q
    rw [q, rest_fx q]
    omega
  · obtain ⟨a1, a2⟩ := a.up q
    have hle := h.le h0 (Int.le_of_lt a1) a.r1
    by_cases e : F x = r
    · rw [e, rest_fx hr]
    · exact rest_up (a2 (F x) (by omega) (by omega)) (by omega) a.r1 hr fun z z0 z1 => by have := a2 z (by omega) z1; omega
theorem rest_near {x : Int} (h : Good F t t) (h0 : 0 ≤ x) (h1 : x ≤ t) (hx : F x ≠ x) : (restF F t x - F x).natAbs < (restF F t x - x).natAbs := by
  have a := rest_at h h0 h1
  generalize restF F t x = r at a
  have hr := a.fx
  rcases Int.lt_trichotomy (F x) x with q | q | q
  · obtain ⟨a1, a2⟩ := a.dn q
    have hle := h.le a.r0 (Int.le_of_lt a1) h1
    omega
  · exact absurd q hx
  · obtain ⟨a1, a2⟩ := a.up q
    have hle := h.le h0 (Int.le_of_lt a1) a.r1
    omega
theorem rdN_more (h : Good F t t) : ∀ (n : Nat) (x : Int), 0 ≤ x → x ≤ t → (restF F t x - x).natAbs ≤ n → rdN F n x = rdN F (n + 1) x
  | 0, x, h0, h1, hd => by
    have a := rest_at h h0 h1
    have e : restF F t x = x := by omega
    have hx : F x = x := by
      have := a.fx
      rw [e] at this
      exact this
    show 0 = if F x = x then 0 else _
    rw [if_pos hx]
  | n + 1, x, h0, h1, hd => by
    by_cases hx : F x = x
    · show (if F x = x then 0 else _) = if F x = x then 0 else _
      rw [if_pos hx, if_pos hx]
    · have near := rest_near h h0 h1 hx
      have ih := rdN_more h n (F x) (h.nn h0 h1) (h.ub h0 h1) (by rw [rest_step h h0 h1]; omega)
      show (if F x = x then 0 else rdN F n (F x) + 1) = if F x = x then 0 else rdN F (n + 1) (F x) + 1
      rw [if_neg hx, if_neg hx, ih]
theorem rd_fix {x : Int} (t0 : 0 ≤ t) (hx : F x = x) : rdF F t x = 0 := by
  unfold rdF
  obtain ⟨k, hk⟩ : ∃ k, (t + 1).toNat = k + 1 := ⟨t.toNat, by omega⟩
  rw [hk]
  show (if F x = x then 0 else _) = 0
  rw [if_pos hx]
theorem rd_step {x : Int} (h : Good F t t) (h0 : 0 ≤ x) (h1 : x ≤ t) (hx : F x ≠ x) : rdF F t x = rdF F t (F x) + 1 := by
  unfold rdF
  obtain ⟨k, hk⟩ : ∃ k, (t + 1).toNat = k + 1 := ⟨t.toNat, by have := h.t0; omega⟩
  rw [hk]
  have a := rest_at h (h.nn h0 h1) (h.ub h0 h1)
  have n0 := h.nn h0 h1
  have n1 := h.ub h0 h1
  have a0 := a.r0
  have a1 := a.r1
  have more := rdN_more h k (F x) n0 n1 (by omega)
  show (if F x = x then 0 else rdN F k (F x) + 1) = _
  rw [if_neg hx, more]
theorem rd_pos {x : Int} (h : Good F t t) (h0 : 0 ≤ x) (h1 : x ≤ t) : rdF F t x = 0 ↔ F x = x := by
  constructor
  · intro e
    by_cases hx : F x = x
    · exact hx
    · rw [rd_step h h0 h1 hx] at e
      omega
  · exact rd_fix h.t0
theorem it_in (h : Good F t t) : ∀ (n : Nat) (x : Int), 0 ≤ x → x ≤ t → 0 ≤ itF F n x ∧ itF F n x ≤ t
  | 0, x, h0, h1 => ⟨h0, h1⟩
  | n + 1, x, h0, h1 => it_in h n (F x) (h.nn h0 h1) (h.ub h0 h1)
theorem it_mono (h : Good F t t) : ∀ (n : Nat) (x y : Int), 0 ≤ x → x ≤ y → y ≤ t → itF F n x ≤ itF F n y
  | 0, x, y, h0, h1, h2 => h1
  | n + 1, x, y, h0, h1, h2 => it_mono h n (F x) (F y) (h.nn h0 (by omega)) (h.le h0 h1 h2) (h.ub (by omega) h2)
theorem it_fix {x : Int} (hx : F x = x) : ∀ n : Nat, itF F n x = x
  | 0 => rfl
  | n + 1 => by
    show itF F n (F x) = x
    rw [hx]
    exact it_fix hx n
theorem rd_le (h : Good F t t) : ∀ (n : Nat) (x : Int), 0 ≤ x → x ≤ t → (rdF F t x ≤ n ↔ itF F n x = restF F t x)
  | 0, x, h0, h1 => by
    have a := rest_at h h0 h1
    show rdF F t x ≤ 0 ↔ x = restF F t x
    rw [Nat.le_zero, rd_pos h h0 h1]
    constructor
    · intro e
      exact (a.st e).symm
    · intro e
      have := a.fx
      rw [← e] at this
      exact this
  | n + 1, x, h0, h1 => by
    by_cases hx : F x = x
    · have a := rest_at h h0 h1
      rw [rd_fix h.t0 hx, it_fix hx (n + 1), a.st hx]
      simp
    · rw [rd_step h h0 h1 hx, ← rest_step h h0 h1]
      show _ ↔ itF F n (F x) = _
      rw [← rd_le h n (F x) (h.nn h0 h1) (h.ub h0 h1)]
      omega
theorem rd_fall {x y s : Int} (h : Good F t t) (hs : F s = s) (s0 : 0 ≤ s) (sx : s ≤ x) (xy : x ≤ y) (y1 : y ≤ t) (ex : restF F t x = s) (ey : restF F t y = s) : rdF F t x ≤ rdF F t y := by
  have e := (rd_le h (rdF F t y) y (by omega) y1).mp (Nat.le_refl _)
  refine (rd_le h (rdF F t y) x (by omega) (by omega)).mpr ?_
  have a := it_mono h (rdF F t y) x y (by omega) xy y1
  have b := it_mono h (rdF F t y) s x s0 sx (by omega)
  rw [it_fix hs] at b
  rw [ey] at e
  rw [ex]
  omega
theorem rd_rise {x y s : Int} (h : Good F t t) (hs : F s = s) (x0 : 0 ≤ x) (xy : x ≤ y) (ys : y ≤ s) (s1 : s ≤ t) (ex : restF F t x = s) (ey : restF F t y = s) : rdF F t y ≤ rdF F t x := by
  have e := (rd_le h (rdF F t x) x x0 (by omega)).mp (Nat.le_refl _)
  refine (rd_le h (rdF F t x) y (by omega) (by omega)).mpr ?_
  have a := it_mono h (rdF F t x) x y x0 xy (by omega)
  have b := it_mono h (rdF F t x) y s (by omega) ys s1
  rw [it_fix hs] at b
  rw [ex] at e
  rw [ey]
  omega
theorem part_fall {a b x y : Int} (h : Good F t t) (a0 : 0 ≤ a) (bt : b ≤ t) (hf : ∀ z, a ≤ z → z ≤ b → F z < z) (ax : a ≤ x) (xy : x ≤ y) (yb : y ≤ b) : rdF F t x ≤ rdF F t y := by
  have r := rest_at h (x := x) (by omega) (by omega)
  obtain ⟨r1, r2⟩ := r.dn (hf x ax (by omega))
  have ey : restF F t y = restF F t x := by
    refine rest_dn (hf y (by omega) yb) r.r0 (by omega) r.fx fun z z0 z1 => ?_
    by_cases q : z ≤ x
    · have := r2 z z0 q
      omega
    · have := hf z (by omega) (by omega)
      omega
  exact rd_fall h r.fx r.r0 (by omega) xy (by omega) rfl ey
theorem part_rise {a b x y : Int} (h : Good F t t) (a0 : 0 ≤ a) (bt : b ≤ t) (hf : ∀ z, a ≤ z → z ≤ b → z < F z) (ax : a ≤ x) (xy : x ≤ y) (yb : y ≤ b) : rdF F t y ≤ rdF F t x := by
  have r := rest_at h (x := y) (by omega) (by omega)
  obtain ⟨r1, r2⟩ := r.up (hf y (by omega) yb)
  have ex : restF F t x = restF F t y := by
    refine rest_up (hf x ax (by omega)) (by omega) r.r1 r.fx fun z z0 z1 => ?_
    by_cases q : y ≤ z
    · have := r2 z q z1
      omega
    · have := hf z (by omega) (by omega)
      omega
  exact rd_rise h r.fx (by omega) xy (by omega) r.r1 ex rfl
theorem rd_jump (h : Good F t t) {c : Int} (hc : c ≠ 0) : ∀ (k : Nat) (x : Int), (∀ j : Nat, j < k → 0 ≤ x + j * c ∧ x + j * c ≤ t ∧ F (x + j * c) = x + j * c + c) → rdF F t x = k + rdF F t (x + k * c)
  | 0, x, _ => by simp
  | k + 1, x, hj => by
    obtain ⟨a, b, e⟩ := hj 0 (by omega)
    have z : x + ((0 : Nat) : Int) * c = x := by simp
    rw [z] at a b e
    have ih := rd_jump h hc k (x + c) fun j hk => by
      have := hj (j + 1) (by omega)
      have z : x + ((j + 1 : Nat) : Int) * c = x + c + j * c := by
        rw [Int.natCast_add, Int.add_mul]
        simp
        omega
      rw [z] at this
      exact this
    rw [rd_step h a b (by omega), e, ih]
    have z : x + ((k + 1 : Nat) : Int) * c = x + c + k * c := by
      rw [Int.natCast_add, Int.add_mul]
      simp
      omega
    rw [z]
    omega
end
def ronF (r : Row) (x : Int) : Int := if r.2.2.2 = true then ((if onRow r x - x > 0 then r.2.1 - x else x - r.1).fdiv (absI (onRow r x - x))) + 1 else 1
theorem ron_jump {F : Int → Int} {t x : Int} {r : Row} (h : Good F t t) (r0 : 0 ≤ r.1) (r1 : r.2.1 ≤ t) (x0 : r.1 ≤ x) (x1 : x ≤ r.2.1) (hF : ∀ z, r.1 ≤ z → z ≤ r.2.1 → onRow r z = F z) (hx : onRow r x ≠ x) :
    1 ≤ ronF r x ∧ 0 ≤ x + ronF r x * (onRow r x - x) ∧ x + ronF r x * (onRow r x - x) ≤ t ∧ (rdF F t x : Int) = ronF r x + rdF F t (x + ronF r x * (onRow r x - x)) := by
  have hc : onRow r x - x ≠ 0 := by omega
  have key : ∀ k : Nat, 1 ≤ k → (∀ j : Nat, j < k → r.1 ≤ x + j * (onRow r x - x) ∧ x + j * (onRow r x - x) ≤ r.2.1 ∧ F (x + j * (onRow r x - x)) = x + j * (onRow r x - x) + (onRow r x - x)) → 0 ≤ x + k * (onRow r x - x) ∧ x + k * (onRow r x - x) ≤ t ∧ rdF F t x = k + rdF F t (x + k * (onRow r x - x)) := by
    intro k hk hj
    have j1 := rd_jump h hc k x fun j hjk => by
      obtain ⟨a, b, c⟩ := hj j hjk
      exact ⟨by omega, by omega, c⟩
    obtain ⟨a, b, c⟩ := hj (k - 1) (by omega)
    have e : x + (k : Int) * (onRow r x - x) = x + ((k - 1 : Nat) : Int) * (onRow r x - x) + (onRow r x - x) := by
      have : (k : Int) = ((k - 1 : Nat) : Int) + 1 := by omega
      rw [this, Int.add_mul]
      omega
    have n0 := h.nn (x := x + ((k - 1 : Nat) : Int) * (onRow r x - x)) (by omega) (by omega)
    have n1 := h.ub (x := x + ((k - 1 : Nat) : Int) * (onRow r x - x)) (by omega) (by omega)
    exact ⟨by omega, by omega, j1⟩
  unfold ronF
  by_cases hr : r.2.2.2 = true
  · rw [if_pos hr]
    have hv : ∀ z, r.1 ≤ z → z ≤ r.2.1 → F z = z + (onRow r x - x) := fun z a b => by
      rw [← hF z a b]
      unfold onRow
      rw [if_pos hr, if_pos hr]
      omega
    by_cases hp : onRow r x - x > 0
    · rw [if_pos hp]
      have ea : absI (onRow r x - x) = onRow r x - x := by unfold absI; rw [if_neg (by omega)]
      rw [ea]
      generalize hcc : onRow r x - x = c at *
      have d0 : 0 ≤ (r.2.1 - x).fdiv c := Int.fdiv_nonneg (by omega) (by omega)
      have dl : (r.2.1 - x).fdiv c * c ≤ r.2.1 - x := by
        have := Int.fmod_add_mul_fdiv (r.2.1 - x) c
        have m0 := Int.fmod_nonneg_of_pos (r.2.1 - x) hp
        rw [Int.mul_comm]
        omega
      obtain ⟨k, hk⟩ : ∃ k : Nat, (r.2.1 - x).fdiv c = (k : Int) := ⟨((r.2.1 - x).fdiv c).toNat, by omega⟩
      rw [hk] at dl ⊢
      have z := key (k + 1) (by omega) fun j hj => by
        have m1 : (j : Int) * c ≤ (k : Int) * c := Int.mul_le_mul_of_nonneg_right (by omega) (by omega)
        have m2 : 0 ≤ (j : Int) * c := Int.mul_nonneg (by omega) (by omega)
        exact ⟨by omega, by omega, hv _ (by omega) (by omega)⟩
      rw [show ((k + 1 : Nat) : Int) = (k : Int) + 1 by omega] at z
      exact ⟨by omega, z.1, z.2.1, by rw [z.2.2]; omega⟩
    · rw [if_neg hp]
      have ea : absI (onRow r x - x) = -(onRow r x - x) := by unfold absI; rw [if_pos (by omega)]
      rw [ea]
      generalize hcc : onRow r x - x = c at *
      have d0 : 0 ≤ (x - r.1).fdiv (-c) := Int.fdiv_nonneg (by omega) (by omega)
      have dl : (x - r.1).fdiv (-c) * (-c) ≤ x - r.1 := by
        have := Int.fmod_add_mul_fdiv (x - r.1) (-c)
        have m0 := Int.fmod_nonneg_of_pos (x - r.1) (b := -c) (by omega)
        rw [Int.mul_comm]
        omega
      obtain ⟨k, hk⟩ : ∃ k : Nat, (x - r.1).fdiv (-c) = (k : Int) := ⟨((x - r.1).fdiv (-c)).toNat, by omega⟩
      rw [hk] at dl ⊢
      rw [Int.mul_neg] at dl
      have z := key (k + 1) (by omega) fun j hj => by
        have m1 : (j : Int) * (-c) ≤ (k : Int) * (-c) := Int.mul_le_mul_of_nonneg_right (by omega) (by omega)
        have m2 : 0 ≤ (j : Int) * (-c) := Int.mul_nonneg (by omega) (by omega)
        rw [Int.mul_neg] at m1 m2
        rw [Int.mul_neg] at m1
        exact ⟨by omega, by omega, hv _ (by omega) (by omega)⟩
      rw [show ((k + 1 : Nat) : Int) = (k : Int) + 1 by omega] at z
      exact ⟨by omega, z.1, z.2.1, by rw [z.2.2]; omega⟩
  · rw [if_neg hr]
    have z := key 1 (by omega) fun j hj => by
      have : j = 0 := by omega
      subst this
      simp
      refine ⟨x0, x1, ?_⟩
      rw [← hF x x0 x1]
      omega
    simp at z
    refine ⟨Int.le_refl _, ?_, ?_, ?_⟩
    · rw [Int.one_mul]; omega
    · rw [Int.one_mul]; omega
    · rw [Int.one_mul, z.2.2, show x + (onRow r x - x) = onRow r x by omega]
      omega
end Kf
namespace Kf
open PySem PySem.Spec L2 StX ClX Dn
open PyProof.Rows hiding St
variable {P : Program} {w : World} {K : PySem.W.Frag} {mg : Str → Option Value} {base : Heap}
theorem o_isub {X : Cx} {G : Ent} {sl : Sls} {st : List Ob} {Φ : WK} {i j : Int} (h : Φ (.dat (.int (i - j))) st) : OW X G (inplaceOp .Sub) sl st (.dat (.int i)) (.dat (.int j)) Φ := fun A σ H H0 R v1 v2 r1 r2 Q k pins s σ' u1 u2 I q1 q2 => by
  cases r1
  cases r2
  exact ip_sub pins s σ' H _ _ u1 u2 Q I q1 q2 ⟨i, j, rfl, rfl, k _ st _ A H H0 h R (Ext.refl _) (Same.refl _) (.int _)⟩
def F_ron : FT := fun args st Ret _ => ∃ (r : Row) (x : Int), args = [.dat (rowD r), .dat (.int x)] ∧ onRow r x - x ≠ 0 ∧ (onRow r x - x).natAbs < 18446744073709551616 ∧ Ret (.dat (.int (ronF r x))) st
theorem ok_ron {f : Addr} {fd : FuncData} (B : Bl mg) (C_value_on : Cal P w K mg base 1 "value_on" F_value_on) (Fn : Fun K "rounds_on" "rounds_on" s_rounds_on f fd) (b : Binds K fd p_rounds_on []) : FnG P w K mg base (L2.CX P w) 2 f (spD K F_ron) := by
  refine fnD Fn sc_rounds_on b (fun args st0 Ret Exc h => ?_) ?_
  · obtain ⟨r, x, rfl, _⟩ := h
    rfl
  intro cdv A outer s H E H0 Al args st0 Ret Exc hr xk hp hal hcl hF
  obtain ⟨r, x, rfl, hne, hbig, q⟩ := hF
  unfold ronF at q
  refine sw_cons ?_
  refine sw_asg ?_
  refine ew_name 0 rfl ?_
  refine gw_tup rfl ?_
  refine gs_cons ?_
  refine gw_name 4 ?_ sc_rounds_on.nd
  refine gs_cons ?_
  refine gw_name 5 ?_ sc_rounds_on.nd
  refine gs_cons ?_
  refine gw_name 6 ?_ sc_rounds_on.nd
  refine gs_cons ?_
  refine gw_name 7 ?_ sc_rounds_on.nd
  refine gs_nil ?_
  show SW _ _ _ [some (.dat (rowD r)), some (.dat (.int x)), none, none, some (.dat (.int r.1)), some (.dat (.int r.2.1)), some (.dat (.int r.2.2.1)), some (.dat (.bl r.2.2.2))] _ _
  refine sw_cons ?_
  refine sw_set 2 ?_ sc_rounds_on.nd
  refine ew_bin ?_
  refine ew_call C_value_on hr (by decide) xk ?_
  refine aw_cons ?_
  refine ew_name 0 rfl ?_
  refine aw_cons ?_
  refine ew_name 1 rfl ?_
  refine aw_nil ?_
  refine ⟨r, x, rfl, ?_⟩
  refine ew_name 1 rfl ?_
  refine o_sub ?_
  show SW _ _ _ [some (.dat (rowD r)), some (.dat (.int x)), some (.dat (.int (onRow r x - x))), none, some (.dat (.int r.1)), some (.dat (.int r.2.1)), some (.dat (.int r.2.2.1)), some (.dat (.bl r.2.2.2))] _ _
  generalize onRow r x - x = c at hne hbig q ⊢
  refine sw_cons ?_
  refine sw_if ?_
  refine tw_not ?_
  refine tw_val ?_
  refine ew_name 7 rfl ?_
  refine ⟨_, rfl, ?_⟩
  refine ifN (fun h => ?_) (fun h => ?_)
  · rw [if_neg (by rw [h]; decide)] at q
    refine sw_cons ?_
    refine sw_ret ?_
    refine ew_int ?_
    exact krE_of hcl q
  · rw [if_pos h] at q
    refine sw_nil ?_
    refine sw_cons ?_
    refine sw_set 3 ?_ sc_rounds_on.nd
    refine ew_midS (fun w st => w = .dat (.int (if c > 0 then r.2.1 - x else x - r.1)) ∧ st = st0) ?_ ?_
    · refine ew_if ?_
      refine tw_cmp (nomark _) ?_
      refine ew_name 2 rfl ?_
      refine ew_int ?_
      refine o_gt ?_
      refine ⟨_, rfl, ?_⟩
      refine ifD (fun h2 => ?_) (fun h2 => ?_)
      · refine ew_bin ?_
        refine ew_name 5 rfl ?_
        refine ew_name 1 rfl ?_
        refine o_sub ?_
        rw [if_pos h2]
        exact ⟨rfl, rfl⟩
      · refine ew_bin ?_
        refine ew_name 1 rfl ?_
        refine ew_name 4 rfl ?_
        refine o_sub ?_
        rw [if_neg h2]
        exact ⟨rfl, rfl⟩
    rintro w st ⟨rfl, rfl⟩
    refine sw_cons ?_
    refine sw_ret ?_
    refine ew_bin ?_
    refine ew_bin ?_
    refine ew_name 3 rfl ?_
    refine ew_blt bt_abs B.abs ?_
    refine aw_cons ?_
    refine ew_name 2 rfl ?_
    refine aw_nil ?_
    refine c_abs ?_
    have ha : (if c < 0 then -c else c) = absI c := rfl
    rw [ha]
    refine o_divL (divL_of (by unfold absI; split <;> omega) (by unfold absI; split <;> omega)) ?_
    refine ew_int ?_
    refine o_add ?_
    exact krE_of hcl q
theorem row_more {F : Int → Int} {rs : List Row} {t x : Int} {k : Nat} {r : Row} (c : Cov F rs 0 t) (hr : rs[k]? = some r) (hx : r.2.1 < x) (x1 : x ≤ t) : k + 1 < rs.length := by
  have hk := (List.getElem?_eq_some_iff.mp hr).1
  by_cases q : k + 1 < rs.length
  · exact q
  · have := cov_last c hr (List.getElem?_eq_none (by omega))
    omega
theorem row_less {F : Int → Int} {rs : List Row} {t x : Int} {k : Nat} {r : Row} (c : Cov F rs 0 t) (hr : rs[k]? = some r) (hx : x < r.1) (x0 : 0 ≤ x) : 0 < k ∧ ∃ q, rs[k - 1]? = some q ∧ x ≤ q.2.1 := by
  have hk := (List.getElem?_eq_some_iff.mp hr).1
  have k0 : 0 < k := by
    by_cases q : k = 0
    · subst q
      have := cov_first c hr
      omega
    · omega
  have hq := List.getElem?_eq_getElem (show k - 1 < rs.length by omega)
  have := cov_next c hq (by rw [show k - 1 + 1 = k by omega]; exact hr)
  exact ⟨k0, _, hq, by omega⟩
def F_rfrom : FT := fun args st Ret _ => ∃ (F : Int → Int) (rs : List Row) (t x : Int), args = [.dat (.lst (rs.map rowD)), .dat (.int x)] ∧ Cov F rs 0 t ∧ Good F t t ∧ t < 1152921504606846976 ∧ 0 ≤ x ∧ x ≤ t ∧ Ret (.dat (.int ((rdF F t x : Nat) : Int))) st
theorem ok_rfrom {f : Addr} {fd : FuncData} (C_value_on : Cal P w K mg base 1 "value_on" F_value_on) (C_ron : Cal P w K mg base 2 "rounds_on" F_ron) (Fn : Fun K "rounds_from" "rounds_from" s_rounds_from f fd) (b : Binds K fd p_rounds_from []) : FnG P w K mg base (L2.CX P w) 3 f (spD K F_rfrom) := by
  refine fnD Fn sc_rounds_from b (fun args st0 Ret Exc h => ?_) ?_
  · obtain ⟨F, rs, t, x, rfl, _⟩ := h
    rfl
  intro cdv A outer s H E H0 Al args st0 Ret Exc hr xk hp hal hcl hF
  obtain ⟨F, rs, t, x, rfl, c, hg, ht, x0, x1, q⟩ := hF
  have len0 := cov_ne c hg.t0
  have rowat : ∀ k : Nat, k < rs.length → ∃ r, rs[k]? = some r ∧ 0 ≤ r.1 ∧ r.1 ≤ r.2.1 ∧ r.2.1 ≤ t ∧ ∀ z, r.1 ≤ z → z ≤ r.2.1 → onRow r z = F z := fun k hk => by
    have e := List.getElem?_eq_getElem hk
    obtain ⟨a, b, d, g⟩ := cov_get c e
    exact ⟨_, e, a, b, d, g⟩
  refine sw_cons ?_
  refine sw_set 2 ?_ sc_rounds_from.nd
  refine ew_int ?_
  refine sw_cons ?_
  refine sw_set 3 ?_ sc_rounds_from.nd
  refine ew_int ?_
  show SW _ _ _ [some (.dat (.lst (rs.map rowD))), some (.dat (.int x)), some (.dat (.int 0)), some (.dat (.int 0)), none] _ _
  refine sw_cons ?_
  refine sw_mid1 (fun sl st => st = st0 ∧ ∃ (k : Nat) (r : Row), rs[k]? = some r ∧ r.1 ≤ x ∧ x ≤ r.2.1 ∧ sl = [some (.dat (.lst (rs.map rowD))), some (.dat (.int x)), some (.dat (.int 0)), some (.dat (.int (k : Int))), none]) ?_ ?_
  · refine sw_while hp (fun m sl st => st = st0 ∧ ∃ (k : Nat) (r : Row), m = rs.length - k ∧ rs[k]? = some r ∧ r.1 ≤ x ∧ sl = [some (.dat (.lst (rs.map rowD))), some (.dat (.int x)), some (.dat (.int 0)), some (.dat (.int (k : Int))), none]) rs.length ?_ (fun m sl st hI => ?_)
    · obtain ⟨r, e, _⟩ := rowat 0 len0
      have := cov_first c e
      exact ⟨rfl, 0, r, by omega, e, by omega, rfl⟩
    · obtain ⟨rfl, k, r, rfl, hk, hs, rfl⟩ := hI
      refine tw_cmp (nomark _) ?_
      refine ew_ix ?_
      refine ew_ix ?_
      refine ew_name 0 rfl ?_
      refine ew_name 3 rfl ?_
      refine ⟨_, _, rfl, itm_lst (j := k) (d := rowD r) rfl (by rw [List.getElem?_map, hk]; rfl), ?_⟩
      refine ew_int ?_
      refine ⟨_, _, rfl, itm_tup (j := 1) rfl rfl, ?_⟩
      refine ew_name 1 rfl ?_
      refine o_lt ?_
      refine ⟨_, rfl, ?_⟩
      refine ifD (fun h => ?_) (fun h => ?_)
      · have hk2 := row_more c hk h x1
        obtain ⟨r2, e2, _⟩ := rowat (k + 1) hk2
        have := cov_next c hk e2
        refine sw_cons ?_
        refine sw_aug 3 rfl ?_ sc_rounds_from.nd
        refine ew_int ?_
        refine o_iadd ?_
        refine sw_nil ?_
        refine ⟨rs.length - (k + 1), by omega, rfl, k + 1, r2, rfl, e2, by omega, ?_⟩
        rw [show ((k : Nat) : Int) + 1 = ((k + 1 : Nat) : Int) by omega]
        rfl
      · exact ⟨rfl, k, r, hk, hs, by omega, rfl⟩
  · rintro sl st ⟨rfl, k, r, hk, hs, he, rfl⟩
    refine sw_cons ?_
    refine sw_mid1 (fun sl s9 => s9 = st ∧ ∃ (w1 w3 w4 : Option W), sl = [some (.dat (.lst (rs.map rowD))), w1, some (.dat (.int ((rdF F t x : Nat) : Int))), w3, w4]) ?_ ?_
    · refine sw_while hp (fun m sl s9 => s9 = st ∧ ∃ (y : Int) (n k : Nat) (r : Row) (x4 : Option W), m = rdF F t y ∧ 0 ≤ y ∧ y ≤ t ∧ rdF F t x = n + rdF F t y ∧ rs[k]? = some r ∧ r.1 ≤ y ∧ y ≤ r.2.1 ∧ sl = [some (.dat (.lst (rs.map rowD))), some (.dat (.int y)), some (.dat (.int (n : Int))), some (.dat (.int (k : Int))), x4]) (rdF F t x) ?_ (fun m sl st2 hI => ?_)
      · exact ⟨rfl, x, 0, k, r, none, rfl, x0, x1, by omega, hk, hs, he, rfl⟩
      · obtain ⟨rfl, y, n, k, r, x4, rfl, y0, y1, hn, hk, hs, he, rfl⟩ := hI
        have hkl := (List.getElem?_eq_some_iff.mp hk).1
        obtain ⟨r', hk', a0, a1, a2, a3⟩ := rowat k hkl
        rw [hk] at hk'
        cases hk'
        refine tw_cmp (nomark _) ?_
        refine ew_call C_value_on hr (by decide) xk ?_
        refine aw_cons ?_
        refine ew_ix ?_
        refine ew_name 0 rfl ?_
        refine ew_name 3 rfl ?_
        refine ⟨_, _, rfl, itm_lst (j := k) (d := rowD r) rfl (by rw [List.getElem?_map, hk]; rfl), ?_⟩
        refine aw_cons ?_
        refine ew_name 1 rfl ?_
        refine aw_nil ?_
        refine ⟨r, y, rfl, ?_⟩
        refine ew_name 1 rfl ?_
        refine o_neI ?_
        refine ⟨_, rfl, ?_⟩
        refine ifN' (fun h => ?_) (fun h => ?_)
        · obtain ⟨j1, j2, j3, j4⟩ := ron_jump hg a0 a2 hs he a3 h
          have nv := a3 y hs he
          have b0 := hg.nn y0 y1
          have b1 := hg.ub y0 y1
          refine sw_cons ?_
          refine sw_set 4 ?_ sc_rounds_from.nd
          refine ew_call C_ron hr (by decide) xk ?_
          refine aw_cons ?_
          refine ew_ix ?_
          refine ew_name 0 rfl ?_
          refine ew_name 3 rfl ?_
          refine ⟨_, _, rfl, itm_lst (j := k) (d := rowD r) rfl (by rw [List.getElem?_map, hk]; rfl), ?_⟩
          refine aw_cons ?_
          refine ew_name 1 rfl ?_
          refine aw_nil ?_
          refine ⟨r, y, rfl, by omega, by omega, ?_⟩
          show SW _ _ _ [some (.dat (.lst (rs.map rowD))), some (.dat (.int y)), some (.dat (.int (n : Int))), some (.dat (.int (k : Int))), some (.dat (.int (ronF r y)))] _ _
          refine sw_cons ?_
          refine sw_aug 1 rfl ?_ sc_rounds_from.nd
          refine ew_bin ?_
          refine ew_name 4 rfl ?_
          refine ew_bin ?_
          refine ew_call C_value_on hr (by decide) xk ?_
          refine aw_cons ?_
          refine ew_ix ?_
          refine ew_name 0 rfl ?_
          refine ew_name 3 rfl ?_
          refine ⟨_, _, rfl, itm_lst (j := k) (d := rowD r) rfl (by rw [List.getElem?_map, hk]; rfl), ?_⟩
          refine aw_cons ?_
          refine ew_name 1 rfl ?_
          refine aw_nil ?_
          refine ⟨r, y, rfl, ?_⟩
          refine ew_name 1 rfl ?_
          refine o_sub ?_
          refine o_mul (.inr ⟨by omega, by omega⟩) ?_
          refine o_iadd ?_
          refine sw_cons ?_
          refine sw_aug 2 rfl ?_ sc_rounds_from.nd
          refine ew_name 4 rfl ?_
          refine o_iadd ?_
          generalize hy2 : y + ronF r y * (onRow r y - y) = y2 at j2 j3 j4 ⊢
          have hlt : rdF F t y2 < rdF F t y := by omega
          obtain ⟨n2, hn2⟩ : ∃ n2 : Nat, (n : Int) + ronF r y = (n2 : Int) := ⟨((n : Int) + ronF r y).toNat, by omega⟩
          rw [hn2]
          have hn3 : rdF F t x = n2 + rdF F t y2 := by omega
          show SW _ _ _ [some (.dat (.lst (rs.map rowD))), some (.dat (.int y2)), some (.dat (.int (n2 : Int))), some (.dat (.int (k : Int))), some (.dat (.int (ronF r y)))] _ _
          refine sw_cons ?_
          refine sw_mid1 (fun sl s9 => s9 = st2 ∧ ∃ (k : Nat) (r2 : Row), rs[k]? = some r2 ∧ y2 ≤ r2.2.1 ∧ sl = [some (.dat (.lst (rs.map rowD))), some (.dat (.int y2)), some (.dat (.int (n2 : Int))), some (.dat (.int (k : Int))), some (.dat (.int (ronF r y)))]) ?_ ?_
          · refine sw_while hp (fun m sl s9 => s9 = st2 ∧ ∃ (k : Nat) (r2 : Row), m = rs.length - k ∧ rs[k]? = some r2 ∧ sl = [some (.dat (.lst (rs.map rowD))), some (.dat (.int y2)), some (.dat (.int (n2 : Int))), some (.dat (.int (k : Int))), some (.dat (.int (ronF r y)))]) (rs.length - k) ?_ (fun m sl st3 hI => ?_)
            · exact ⟨rfl, k, r, rfl, hk, rfl⟩
            · obtain ⟨rfl, k, r2, rfl, hk, rfl⟩ := hI
              refine tw_cmp (nomark _) ?_
              refine ew_ix ?_
              refine ew_ix ?_
              refine ew_name 0 rfl ?_
              refine ew_name 3 rfl ?_
              refine ⟨_, _, rfl, itm_lst (j := k) (d := rowD r2) rfl (by rw [List.getElem?_map, hk]; rfl), ?_⟩
              refine ew_int ?_
              refine ⟨_, _, rfl, itm_tup (j := 1) rfl rfl, ?_⟩
              refine ew_name 1 rfl ?_
              refine o_lt ?_
              refine ⟨_, rfl, ?_⟩
              refine ifD (fun h => ?_) (fun h => ?_)
              · have hk2 := row_more c hk h j3
                obtain ⟨r3, e3, _⟩ := rowat (k + 1) hk2
                refine sw_cons ?_
                refine sw_aug 3 rfl ?_ sc_rounds_from.nd
                refine ew_int ?_
                refine o_iadd ?_
                refine sw_nil ?_
                refine ⟨rs.length - (k + 1), by omega, rfl, k + 1, r3, rfl, e3, ?_⟩
                rw [show ((k : Nat) : Int) + 1 = ((k + 1 : Nat) : Int) by omega]
                rfl
              · exact ⟨rfl, k, r2, hk, by omega, rfl⟩
          · rintro sl st3 ⟨rfl, k, r2, hk, he2, rfl⟩
            refine sw_cons ?_
            refine sw_mid1 (fun sl s9 => s9 = st3 ∧ ∃ (k : Nat) (r2 : Row), rs[k]? = some r2 ∧ r2.1 ≤ y2 ∧ y2 ≤ r2.2.1 ∧ sl = [some (.dat (.lst (rs.map rowD))), some (.dat (.int y2)), some (.dat (.int (n2 : Int))), some (.dat (.int (k : Int))), some (.dat (.int (ronF r y)))]) ?_ ?_
            · refine sw_while hp (fun m sl s9 => s9 = st3 ∧ ∃ (r2 : Row), rs[m]? = some r2 ∧ y2 ≤ r2.2.1 ∧ sl = [some (.dat (.lst (rs.map rowD))), some (.dat (.int y2)), some (.dat (.int (n2 : Int))), some (.dat (.int (m : Int))), some (.dat (.int (ronF r y)))]) k ?_ (fun m sl st4 hI => ?_)
              · exact ⟨rfl, r2, hk, he2, rfl⟩
              · obtain ⟨rfl, r4, hk4, he4, rfl⟩ := hI
                refine tw_cmp (nomark _) ?_
                refine ew_ix ?_
                refine ew_ix ?_
                refine ew_name 0 rfl ?_
                refine ew_name 3 rfl ?_
                refine ⟨_, _, rfl, itm_lst (j := m) (d := rowD r4) rfl (by rw [List.getElem?_map, hk4]; rfl), ?_⟩
                refine ew_int ?_
                refine ⟨_, _, rfl, itm_tup (j := 0) rfl rfl, ?_⟩
                refine ew_name 1 rfl ?_
                refine o_gt ?_
                refine ⟨_, rfl, ?_⟩
                refine ifD (fun h => ?_) (fun h => ?_)
                · obtain ⟨m0, q5, hq5, he5⟩ := row_less c hk4 h j2
                  refine sw_cons ?_
                  refine sw_aug 3 rfl ?_ sc_rounds_from.nd
                  refine ew_int ?_
                  refine o_isub ?_
                  refine sw_nil ?_
                  refine ⟨m - 1, by omega, rfl, q5, hq5, he5, ?_⟩
                  rw [show ((m : Nat) : Int) - 1 = ((m - 1 : Nat) : Int) by omega]
                  rfl
                · exact ⟨rfl, m, r4, hk4, by omega, he4, rfl⟩
            · rintro sl st4 ⟨rfl, k, r6, hk, hs6, he6, rfl⟩
              refine sw_nil ?_
              exact ⟨rdF F t y2, hlt, rfl, y2, n2, k, r6, _, rfl, j2, j3, hn3, hk, hs6, he6, rfl⟩
        · have e0 : rdF F t y = 0 := rd_fix hg.t0 (by rw [← a3 y hs he]; exact h)
          rw [e0] at hn
          refine ⟨rfl, some (.dat (.int y)), some (.dat (.int (k : Int))), x4, ?_⟩
          rw [hn]
          rfl
    · rintro sl st2 ⟨rfl, w1, w3, w4, rfl⟩
      refine sw_cons ?_
      refine sw_ret ?_
      refine ew_name 2 rfl ?_
      exact krE_of hcl q
end Kf
namespace Kf
open PySem PySem.Spec L2 StX ClX Dn
open PyProof.Rows hiding St
variable {P : Program} {w : World} {K : PySem.W.Frag} {mg : Str → Option Value} {base : Heap}
def F_rounds (C : Addr) : FT := fun args st Ret _ => ∃ (F : Int → Int) (t : Int) (N : Nat) (d : D) (x : Int), args = [.dat d, .dat (.int x)] ∧ IsP C t t F N d ∧ N ≤ 1000 ∧ t < 1152921504606846976 ∧ 0 ≤ x ∧ x ≤ t ∧ Ret (.dat (.int ((rdF F t x : Nat) : Int))) st
theorem ok_rounds {f C : Addr} {fd : FuncData} (T : PTxt K C) (C_steady : Cal P w K mg base 1 "check_steady" (F_steady C)) (C_is_value : Cal P w K mg base 2 "is_value" F_is_value) (C_rows_of : Cal P w K mg base 2 "rows_of" (F_rows_of C)) (C_rfrom : Cal P w K mg base 3 "rounds_from" F_rfrom) (Fn : Fun K "rounds" "rounds" s_rounds f fd) (b : Binds K fd p_rounds []) : FnG P w K mg base (L2.CX P w) 4 f (spD K (F_rounds C)) := by
  refine fnD Fn sc_rounds b (fun args st0 Ret Exc h => ?_) ?_
  · obtain ⟨F, t, N, d, x, rfl, _⟩ := h
    rfl
  intro cdv A outer s H E H0 Al args st0 Ret Exc hr xk hp hal hcl hF
  obtain ⟨F, t, N, d, x, rfl, hP, hN, ht, x0, x1, q⟩ := hF
  refine sw_cons ?_
  refine sw_expr ?_
  refine ew_call C_steady hr (by decide) xk ?_
  refine aw_cons ?_
  refine ew_name 0 rfl ?_
  refine aw_nil ?_
  refine ⟨t, nf F t, by rw [hP.1], ?_⟩
  refine sw_cons ?_
  refine sw_if ?_
  refine tw_not ?_
  refine tw_val ?_
  refine ew_call C_is_value hr (by decide) xk ?_
  refine aw_cons ?_
  refine ew_name 1 rfl ?_
  refine aw_cons ?_
  refine ew_fld ?_
  refine ew_name 0 rfl ?_
  refine ⟨_, _, _, by rw [hP.1]; rfl, T.cls, T.no_top, fsP_top _ _ _, ?_⟩
  refine aw_nil ?_
  refine ⟨_, _, _, rfl, rfl, ?_⟩
  refine ⟨_, rfl, ?_⟩
  have hv : isVal (.int x) t = true := by
    show (decide (0 ≤ x) && decide (x ≤ t)) = true
    rw [decide_eq_true x0, decide_eq_true x1]
    rfl
  refine ifF (by rw [hv]; rfl) ?_
  refine sw_nil ?_
  refine sw_cons ?_
  refine sw_ret ?_
  refine ew_call C_rfrom hr (by decide) xk ?_
  refine aw_cons ?_
  refine ew_call C_rows_of hr (by decide) xk ?_
  refine aw_cons ?_
  refine ew_name 0 rfl ?_
  refine aw_nil ?_
  refine ⟨F, t, t, N, d, rfl, hP, hN, fun rs cF hl _ => ?_⟩
  refine aw_cons ?_
  refine ew_name 1 rfl ?_
  refine aw_nil ?_
  exact ⟨F, rs, t, x, rfl, cF, hP.2.2.2.1, ht, x0, x1, krE_of hcl q⟩
def F_lwith : FT := fun args st Ret _ => ∃ (F : Int → Int) (rs : List Row) (t a b : Int) (m : Nat), args = [.dat (.lst (rs.map rowD)), .dat (.int a), .dat (.int b), .dat (.int (m : Int))] ∧ Cov F rs 0 t ∧ Good F t t ∧ t < 1152921504606846976 ∧ 0 ≤ a ∧ a ≤ b ∧ b ≤ t ∧ (∀ x y, a ≤ x → x ≤ y → y ≤ b → rdF F t x ≤ rdF F t y) ∧ m ≤ rdF F t b ∧
  ∀ l, a ≤ l → l ≤ b → m ≤ rdF F t l → (∀ z, a ≤ z → z < l → rdF F t z < m) → Ret (.dat (.int l)) st
theorem ok_lwith {f : Addr} {fd : FuncData} (C_rfrom : Cal P w K mg base 3 "rounds_from" F_rfrom) (Fn : Fun K "least_with" "least_with" s_least_with f fd) (b : Binds K fd p_least_with []) : FnG P w K mg base (L2.CX P w) 4 f (spD K F_lwith) := by
  refine fnD Fn sc_least_with b (fun args st0 Ret Exc h => ?_) ?_
  · obtain ⟨F, rs, t, a, b, m, rfl, _⟩ := h
    rfl
  intro cdv A outer s H E H0 Al args st0 Ret Exc hr xk hp hal hcl hF
  obtain ⟨F, rs, t, a, b, m, rfl, cF, hg, ht, a0, ab, bt, mono, mb, q⟩ := hF
  refine sw_cons ?_
  refine sw_mid1 (fun sl st => st = st0 ∧ ∃ (l : Int) (w0 w2 w3 w4 : Option W), a ≤ l ∧ l ≤ b ∧ m ≤ rdF F t l ∧ (∀ z, a ≤ z → z < l → rdF F t z < m) ∧ sl = [w0, some (.dat (.int l)), w2, w3, w4]) ?_ ?_
  · refine sw_while hp (fun n sl st => st = st0 ∧ ∃ (u v : Int) (w4 : Option W), n = (v - u).toNat ∧ a ≤ u ∧ u ≤ v ∧ v ≤ b ∧ m ≤ rdF F t v ∧ (∀ z, a ≤ z → z < u → rdF F t z < m) ∧ sl = [some (.dat (.lst (rs.map rowD))), some (.dat (.int u)), some (.dat (.int v)), some (.dat (.int (m : Int))), w4]) (b - a).toNat ?_ (fun n sl st hI => ?_)
    · exact ⟨rfl, a, b, none, rfl, Int.le_refl _, ab, Int.le_refl _, mb, fun z z0 z1 => by omega, rfl⟩
    · obtain ⟨rfl, u, v, w4, rfl, u0, uv, v1, mv, low, rfl⟩ := hI
      refine tw_cmp (nomark _) ?_
      refine ew_name 1 rfl ?_
      refine ew_name 2 rfl ?_
      refine o_lt ?_
      refine ⟨_, rfl, ?_⟩
      refine ifD (fun h => ?_) (fun h => ?_)
      · refine sw_cons ?_
        refine sw_set 4 ?_ sc_least_with.nd
        refine ew_bin ?_
        refine ew_bin ?_
        refine ew_name 1 rfl ?_
        refine ew_name 2 rfl ?_
        refine o_add ?_
        refine ew_int ?_
        refine o_div ⟨by decide, by decide⟩ ?_
        have em : (u + v).fdiv 2 = (u + v) / 2 := Int.fdiv_eq_ediv_of_nonneg _ (by decide)
        rw [em]
        generalize hm : (u + v) / 2 = c
        have c0 : u ≤ c := by omega
        have c1 : c < v := by omega
        show SW _ _ _ [some (.dat (.lst (rs.map rowD))), some (.dat (.int u)), some (.dat (.int v)), some (.dat (.int (m : Int))), some (.dat (.int c))] _ _
        refine sw_cons ?_
        refine sw_if ?_
        refine tw_cmp (nomark _) ?_
        refine ew_call C_rfrom hr (by decide) xk ?_
        refine aw_cons ?_
        refine ew_name 0 rfl ?_
        refine aw_cons ?_
        refine ew_name 4 rfl ?_
        refine aw_nil ?_
        refine ⟨F, rs, t, c, rfl, cF, hg, ht, by omega, by omega, ?_⟩
        refine ew_name 3 rfl ?_
        refine o_lt ?_
        refine ⟨_, rfl, ?_⟩
        refine ifD (fun h2 => ?_) (fun h2 => ?_)
        · refine sw_cons ?_
          refine sw_set 1 ?_ sc_least_with.nd
          refine ew_bin ?_
          refine ew_name 4 rfl ?_
          refine ew_int ?_
          refine o_add ?_
          refine sw_nil ?_
          refine sw_nil ?_
          refine ⟨(v - (c + 1)).toNat, by omega, rfl, c + 1, v, _, rfl, by omega, by omega, v1, mv, fun z z0 z1 => ?_, rfl⟩
          have := mono z c z0 (by omega) (by omega)
          omega
        · refine sw_cons ?_
          refine sw_set 2 ?_ sc_least_with.nd
          refine ew_name 4 rfl ?_
          refine sw_nil ?_
          refine sw_nil ?_
          exact ⟨(c - u).toNat, by omega, rfl, u, c, _, rfl, u0, c0, by omega, by omega, low, rfl⟩
      · have e : u = v := by omega
        subst e
        exact ⟨rfl, u, _, _, _, _, u0, v1, mv, low, rfl⟩
  · rintro sl st ⟨rfl, l, w0, w2, w3, w4, l0, l1, l2, l3, rfl⟩
    refine sw_cons ?_
    refine sw_ret ?_
    refine ew_name 1 rfl ?_
    exact krE_of hcl (q l l0 l1 l2 l3)
structure Slow (F : Int → Int) (t x : Int) (m : Nat) : Prop where
  x0 : 0 ≤ x
  x1 : x ≤ t
  at_ : rdF F t x = m
  le : ∀ y, 0 ≤ y → y ≤ t → rdF F t y ≤ m ∧ (rdF F t y = m → x ≤ y)
def dEnd (e : Dr) : Int := if e.2.2 < 0 then e.2.1 else e.1
structure SPx (F : Int → Int) (t lo : Int) (e : Dr) (m : Nat) : Prop where
  le : ∀ y, 0 ≤ y → y < lo → rdF F t y ≤ m
  or : (e = (0, 0, 0) ∧ m = 0) ∨ (0 < m ∧ 0 ≤ e.1 ∧ e.1 ≤ e.2.1 ∧ e.2.1 ≤ t ∧ (∀ z, e.1 ≤ z → z ≤ e.2.1 → sgn (F z - z) = e.2.2) ∧ rdF F t (dEnd e) = m ∧ ∀ y, 0 ≤ y → y < e.1 → rdF F t y < m)
theorem part_max {F : Int → Int} {t : Int} {e : Dr} (h : Good F t t) (e0 : 0 ≤ e.1) (e1 : e.1 ≤ e.2.1) (e2 : e.2.1 ≤ t) (hs : ∀ z, e.1 ≤ z → z ≤ e.2.1 → sgn (F z - z) = e.2.2) {y : Int} (y0 : e.1 ≤ y) (y1 : y ≤ e.2.1) : rdF F t y ≤ rdF F t (dEnd e) := by
  unfold dEnd
  by_cases s1 : e.2.2 < 0
  · rw [if_pos s1]
    refine part_fall h e0 e2 (fun z a b => ?_) y0 y1 (Int.le_refl _)
    have := hs z a b
    rw [← this] at s1
    have := sgn_n s1
    omega
  · rw [if_neg s1]
    by_cases s0 : e.2.2 = 0
    · have := hs y y0 y1
      rw [s0] at this
      have := sgn_0 this
      rw [rd_fix h.t0 (by omega : F y = y)]
      exact Nat.zero_le _
    · refine part_rise h e0 e2 (fun z a b => ?_) (Int.le_refl _) y0 y1
      have := hs z a b
      have s2 : 0 < e.2.2 := by omega
      rw [← this] at s2
      have := sgn_p s2
      omega
theorem sp_next {F : Int → Int} {t lo : Int} {e d : Dr} {m : Nat} (h : Good F t t) (sp : SPx F t lo e m) (l0 : 0 ≤ lo) (d0 : d.1 = lo) (d1 : d.1 ≤ d.2.1) (d2 : d.2.1 ≤ t) (hs : ∀ z, d.1 ≤ z → z ≤ d.2.1 → sgn (F z - z) = d.2.2) :
    (m < rdF F t (dEnd d) → SPx F t (d.2.1 + 1) d (rdF F t (dEnd d))) ∧ (¬ m < rdF F t (dEnd d) → SPx F t (d.2.1 + 1) e m) := by
  have pm := fun y y0 y1 => part_max h (by omega : 0 ≤ d.1) d1 d2 hs (y := y) y0 y1
  refine ⟨fun hlt => ⟨fun y y0 y1 => ?_, .inr ⟨by omega, by omega, d1, d2, hs, rfl, fun y y0 y1 => ?_⟩⟩, fun hle => ⟨fun y y0 y1 => ?_, sp.or⟩⟩
  · by_cases q : y < lo
    · have := sp.le y y0 q
      omega
    · exact pm y (by omega) (by omega)
  · have := sp.le y y0 (by omega)
    omega
  · by_cases q : y < lo
    · exact sp.le y y0 q
    · have := pm y (by omega) (by omega)
      omega
def F_slowest (C : Addr) : FT := fun args st Ret _ => ∃ (F : Int → Int) (t : Int) (N : Nat) (d : D), args = [.dat d] ∧ IsP C t t F N d ∧ N ≤ 1000 ∧ t < 1152921504606846976 ∧ ∀ x m, Slow F t x m → Ret (.dat (.tup [.int x, .int (m : Int)])) st
theorem ok_slowest {f C : Addr} {fd : FuncData} (C_steady : Cal P w K mg base 1 "check_steady" (F_steady C)) (C_rows_of : Cal P w K mg base 2 "rows_of" (F_rows_of C)) (C_drifts : Cal P w K mg base 3 "drifts" (F_drifts C)) (C_rfrom : Cal P w K mg base 3 "rounds_from" F_rfrom) (C_lwith : Cal P w K mg base 4 "least_with" F_lwith)
    (Fn : Fun K "slowest" "slowest" s_slowest f fd) (b : Binds K fd p_slowest []) : FnG P w K mg base (L2.CX P w) 5 f (spD K (F_slowest C)) := by
  refine fnD Fn sc_slowest b (fun args st0 Ret Exc h => ?_) ?_
  · obtain ⟨F, t, N, d, rfl, _⟩ := h
    rfl
  intro cdv A outer s H E H0 Al args st0 Ret Exc hr xk hp hal hcl hF
  obtain ⟨F, t, N, d, rfl, hP, hN, ht, q⟩ := hF
  have hg := hP.2.2.2.1
  have t0 := hg.t0
  refine sw_cons ?_
  refine sw_expr ?_
  refine ew_call C_steady hr (by decide) xk ?_
  refine aw_cons ?_
  refine ew_name 0 rfl ?_
  refine aw_nil ?_
  refine ⟨t, nf F t, by rw [hP.1], ?_⟩
  refine sw_cons ?_
  refine sw_set 1 ?_ sc_slowest.nd
  refine ew_call C_rows_of hr (by decide) xk ?_
  refine aw_cons ?_
  refine ew_name 0 rfl ?_
  refine aw_nil ?_
  refine ⟨F, t, t, N, d, rfl, hP, hN, fun rs cF hl _ => ?_⟩
  refine sw_cons ?_
  refine sw_set 2 ?_ sc_slowest.nd
  refine ew_tup ?_
  refine aw_cons ?_
  refine ew_int ?_
  refine aw_cons ?_
  refine ew_int ?_
  refine aw_cons ?_
  refine ew_int ?_
  refine aw_nil ?_
  refine ⟨_, rfl, (by show 3 ≤ sizeLine; decide), ?_⟩
  refine sw_cons ?_
  refine sw_set 3 ?_ sc_slowest.nd
  refine ew_int ?_
  show SW _ _ _ [some (.dat d), some (.dat (.lst (rs.map rowD))), some (.dat (drD (0, 0, 0))), some (.dat (.int 0)), none, none, none, none] _ _
  refine sw_cut (fun sl st => st = st0 ∧ ∃ (e : Dr) (m : Nat) (x4 x5 x6 x7 : Option W), SPx F t (t + 1) e m ∧ sl = [some (.dat d), some (.dat (.lst (rs.map rowD))), some (.dat (drD e)), some (.dat (.int (m : Int))), x4, x5, x6, x7]) ?_ ?_
  · refine sw_for hp rfl ?_
    refine iw_list ?_
    refine ew_call C_drifts hr (by decide) xk ?_
    refine aw_cons ?_
    refine ew_name 0 rfl ?_
    refine aw_nil ?_
    refine ⟨F, t, t, N, d, rfl, hP, hN, fun ds hds hdl => ?_⟩
    refine ⟨_, rfl, ?_⟩
    refine ⟨fun i sl st => st = st0 ∧ ∃ (lo : Int) (e : Dr) (m : Nat) (x4 x5 x6 x7 : Option W), (∀ e, ds[i]? = some e → e.1 = lo) ∧ (i = ds.length → lo = t + 1) ∧ 0 ≤ lo ∧ SPx F t lo e m ∧ sl = [some (.dat d), some (.dat (.lst (rs.map rowD))), some (.dat (drD e)), some (.dat (.int (m : Int))), x4, x5, x6, x7], ?_, fun i w sl st hw hI => ?_, fun sl st hI => ?_⟩
    · refine ⟨rfl, 0, (0, 0, 0), 0, _, _, _, _, fun e he => ?_, fun e => ?_, Int.le_refl _, ⟨fun y a b => by omega, .inl ⟨rfl, rfl⟩⟩, rfl⟩
      · cases ds with
        | nil => cases he
        | cons d1 ds =>
          cases he
          exact hds.1
      · cases ds with
        | nil =>
          have z : (0 : Int) = t + 1 := hds
          omega
        | cons d1 ds => cases e
    · obtain ⟨rfl, lo, e, m, x4, x5, x6, x7, l1, l2, l0, hsp, rfl⟩ := hI
      obtain ⟨d1, hd, rfl⟩ := getElem?_mapW hw
      rw [List.getElem?_map] at hd
      obtain ⟨e', he, rfl⟩ := Option.map_eq_some_iff.mp hd
      have hi := (List.getElem?_eq_some_iff.mp he).1
      have e1 := l1 e' he
      obtain ⟨c1, c2, c3, c4⟩ := drc_get hds he
      have nxt : (∀ e2, ds[i + 1]? = some e2 → e2.1 = e'.2.1 + 1) ∧ (i + 1 = ds.length → e'.2.1 + 1 = t + 1) := by
        refine ⟨fun e2 he2 => drc_next hds he he2, fun z => ?_⟩
        have := drc_last hds he (List.getElem?_eq_none (by omega))
        omega
      obtain ⟨n1, n2⟩ := sp_next hg hsp l0 e1 c2 c3 c4
      refine gw_tup rfl ?_
      refine gs_cons ?_
      refine gw_name 4 ?_ sc_slowest.nd
      refine gs_cons ?_
      refine gw_name 5 ?_ sc_slowest.nd
      refine gs_cons ?_
      refine gw_name 6 ?_ sc_slowest.nd
      refine gs_nil ?_
      show SW _ _ _ [some (.dat d), some (.dat (.lst (rs.map rowD))), some (.dat (drD e)), some (.dat (.int (m : Int))), some (.dat (.int e'.1)), some (.dat (.int e'.2.1)), some (.dat (.int e'.2.2)), x7] _ _
      refine sw_cons ?_
      refine sw_set 7 ?_ sc_slowest.nd
      refine ew_call C_rfrom hr (by decide) xk ?_
      refine aw_cons ?_
      refine ew_name 1 rfl ?_
      refine aw_cons ?_
      refine ew_midS (fun w st2 => w = .dat (.int (dEnd e')) ∧ st2 = st) ?_ ?_
      · refine ew_if ?_
        refine tw_cmp (nomark _) ?_
        refine ew_name 6 rfl ?_
        refine ew_int ?_
        refine o_lt ?_
        refine ⟨_, rfl, ?_⟩
        unfold dEnd
        refine ifD (fun h => ?_) (fun h => ?_)
        · rw [if_pos h]
          exact ew_name 5 rfl ⟨rfl, rfl⟩
        · rw [if_neg h]
          exact ew_name 4 rfl ⟨rfl, rfl⟩
      rintro w st2 ⟨rfl, rfl⟩
      have de0 : 0 ≤ dEnd e' := by unfold dEnd; split <;> omega
      have de1 : dEnd e' ≤ t := by unfold dEnd; split <;> omega
      refine aw_nil ?_
      refine ⟨F, rs, t, dEnd e', rfl, cF, hg, ht, de0, de1, ?_⟩
      show SW _ _ _ [some (.dat d), some (.dat (.lst (rs.map rowD))), some (.dat (drD e)), some (.dat (.int (m : Int))), some (.dat (.int e'.1)), some (.dat (.int e'.2.1)), some (.dat (.int e'.2.2)), some (.dat (.int ((rdF F t (dEnd e') : Nat) : Int)))] _ _
      refine sw_cons ?_
      refine sw_if ?_
      refine tw_cmp (nomark _) ?_
      refine ew_name 7 rfl ?_
      refine ew_name 3 rfl ?_
      refine o_gt ?_
      refine ⟨_, rfl, ?_⟩
      refine ifD (fun h => ?_) (fun h => ?_)
      · refine sw_cons ?_
        refine sw_set 2 ?_ sc_slowest.nd
        refine ew_tup ?_
        refine aw_cons ?_
        refine ew_name 4 rfl ?_
        refine aw_cons ?_
        refine ew_name 5 rfl ?_
        refine aw_cons ?_
        refine ew_name 6 rfl ?_
        refine aw_nil ?_
        refine ⟨_, rfl, (by show 3 ≤ sizeLine; decide), ?_⟩
        refine sw_cons ?_
        refine sw_set 3 ?_ sc_slowest.nd
        refine ew_name 7 rfl ?_
        refine sw_nil ?_
        refine sw_nil ?_
        exact ⟨rfl, e'.2.1 + 1, e', rdF F t (dEnd e'), _, _, _, _, nxt.1, nxt.2, by omega, n1 (by omega), rfl⟩
      · refine sw_nil ?_
        refine sw_nil ?_
        exact ⟨rfl, e'.2.1 + 1, e, m, _, _, _, _, nxt.1, nxt.2, by omega, n2 (by omega), rfl⟩
    · obtain ⟨rfl, lo, e, m, x4, x5, x6, x7, l1, l2, l0, hsp, rfl⟩ := hI
      have e0 := l2 (by rw [List.length_map, List.length_map])
      subst e0
      exact ⟨rfl, e, m, _, _, _, _, hsp, rfl⟩
  · rintro sl st ⟨rfl, e, m, x4, x5, x6, x7, hsp, rfl⟩
    refine sw_cons ?_
    refine sw_asg ?_
    refine ew_name 2 rfl ?_
    refine gw_tup rfl ?_
    refine gs_cons ?_
    refine gw_name 4 ?_ sc_slowest.nd
    refine gs_cons ?_
    refine gw_name 5 ?_ sc_slowest.nd
    refine gs_cons ?_
    refine gw_name 6 ?_ sc_slowest.nd
    refine gs_nil ?_
    show SW _ _ _ [some (.dat d), some (.dat (.lst (rs.map rowD))), some (.dat (drD e)), some (.dat (.int (m : Int))), some (.dat (.int e.1)), some (.dat (.int e.2.1)), some (.dat (.int e.2.2)), x7] _ _
    refine sw_cons ?_
    refine sw_ret ?_
    refine ew_tup ?_
    refine aw_cons ?_
    refine ew_midS (fun w st2 => ∃ l, w = .dat (.int l) ∧ st2 = st ∧ Slow F t l m) ?_ ?_
    · refine ew_if ?_
      refine tw_cmp (nomark _) ?_
      refine ew_name 6 rfl ?_
      refine ew_int ?_
      refine o_lt ?_
      refine ⟨_, rfl, ?_⟩
      refine ifD (fun h => ?_) (fun h => ?_)
      · rcases hsp.or with ⟨rfl, _⟩ | ⟨m0, g0, g1, g2, g3, g4, g5⟩
        · exact absurd h (by decide)
        · have hf : ∀ z, e.1 ≤ z → z ≤ e.2.1 → F z < z := fun z a b => by
            have z1 := g3 z a b
            have h2 := h
            rw [← z1] at h2
            have := sgn_n h2
            omega
          have ed : dEnd e = e.2.1 := by unfold dEnd; rw [if_pos h]
          rw [ed] at g4
          refine ew_call C_lwith hr (by decide) xk ?_
          refine aw_cons ?_
          refine ew_name 1 rfl ?_
          refine aw_cons ?_
          refine ew_name 4 rfl ?_
          refine aw_cons ?_
          refine ew_name 5 rfl ?_
          refine aw_cons ?_
          refine ew_name 3 rfl ?_
          refine aw_nil ?_
          refine ⟨F, rs, t, e.1, e.2.1, m, rfl, cF, hg, ht, g0, g1, g2, fun x y a b c => part_fall hg g0 g2 hf a b c, by omega, fun l l0 l1 l2 l3 => ⟨l, rfl, rfl, ?_⟩⟩
          have lm := hsp.le l (by omega) (by omega)
          refine ⟨by omega, by omega, by omega, fun y y0 y1 => ⟨hsp.le y y0 (by omega), fun ey => ?_⟩⟩
          by_cases c1 : y < e.1
          · have := g5 y y0 c1
            omega
          · by_cases c2 : y < l
            · have := l3 y (by omega) c2
              omega
            · omega
      · refine ew_name 4 rfl ?_
        refine ⟨e.1, rfl, rfl, ?_⟩
        rcases hsp.or with ⟨rfl, rfl⟩ | ⟨m0, g0, g1, g2, g3, g4, g5⟩
        · have z := hsp.le 0 (Int.le_refl _) (by omega)
          exact ⟨Int.le_refl _, t0, Nat.le_zero.mp z, fun y y0 y1 => ⟨hsp.le y y0 (by omega), fun _ => y0⟩⟩
        · have ed : dEnd e = e.1 := by unfold dEnd; rw [if_neg h]
          rw [ed] at g4
          refine ⟨g0, by omega, g4, fun y y0 y1 => ⟨hsp.le y y0 (by omega), fun ey => ?_⟩⟩
          by_cases c1 : y < e.1
          · have := g5 y y0 c1
            omega
          · omega
    rintro w st2 ⟨l, rfl, rfl, hsl⟩
    refine aw_cons ?_
    refine ew_name 3 rfl ?_
    refine aw_nil ?_
    refine ⟨_, rfl, (by show 2 ≤ sizeLine; decide), ?_⟩
    exact krE_of hcl (q l m hsl)
end Kf
namespace Kf
open PySem PySem.Spec L2 StX ClX Dn
open PyProof.Rows hiding St
variable {P : Program} {w : World} {K : PySem.W.Frag} {mg : Str → Option Value} {base : Heap}
theorem weight_int {i : Int} (h : i.natAbs < 10 ^ 19) : (PyData.int i).weight ≤ 65 := by
  simp only [PyData.weight]
  split
  · omega
  · have : i.natAbs.log2 < 64 := by
      by_cases h0 : i.natAbs = 0
      · rw [h0]; decide
      · exact (Nat.log2_lt h0).mpr (Nat.lt_of_lt_of_le h (by decide))
    omega
theorem shows_int {i : Int} (h : i.natAbs < 10 ^ 19) : Shows (.int i) (.int i) := .of rfl (int_shows h) (by simp [PyData.depth]) (int_short h) (Nat.le_trans (weight_int h) (by decide))
theorem shows_bool (b : Bool) : Shows (.bl b) (.bool b) := .of rfl rfl (by simp [PyData.depth]) rfl (by simp [PyData.weight])
theorem shows_none : Shows .non .none := .of rfl rfl (by simp [PyData.depth]) rfl (by simp [PyData.weight])
theorem shows_pair {i j : Int} (hi : i.natAbs < 10 ^ 19) (hj : j.natAbs < 10 ^ 19) : Shows (.tup [.int i, .int j]) (.tuple [.int i, .int j]) := by
  have h1 := weight_int hi
  have h2 := weight_int hj
  refine .of rfl ?_ ?_ ?_ ?_
  · simp only [PyData.showable, PyData.showableAll, Bool.and_true, Bool.and_eq_true]
    exact ⟨int_shows hi, int_shows hj⟩
  · simp [PyData.depth, PyData.depthAll]
  · simp only [PyData.leavesShort, PyData.leavesShortAll, Bool.and_true, Bool.and_eq_true]
    exact ⟨int_short hi, int_short hj⟩
  · simp only [PyData.weight, PyData.weightAll] at h1 h2 ⊢
    omega
end Kf
namespace Kf
open PySem PySem.Spec L2 StX ClX Dn
open PyProof.Rows hiding St
variable {P : Program} {w : World} {K : PySem.W.Frag} {mg : Str → Option Value} {base : Heap}
theorem tab_at {zs : List Int} {x : Int} (h0 : 0 ≤ x) (h1 : x < zs.length) : zs[x.toNat]? = some (tabF zs x) := by
  unfold tabF
  rw [List.getD_eq_getElem?_getD, List.getElem?_eq_getElem (by omega)]
  rfl
theorem first_at {m : Int} : ∀ {xs : List Int}, m ∈ xs → ∃ j : Nat, xs[j]? = some m ∧ ∀ k : Nat, k < j → xs[k]? ≠ some m
  | x :: xs, h => by
    by_cases e : x = m
    · exact ⟨0, by rw [e]; rfl, fun k hk => by omega⟩
    · have h2 : m ∈ xs := by
        rcases List.mem_cons.mp h with q | q
        · exact absurd q.symm e
        · exact q
      obtain ⟨j, h3, h4⟩ := first_at h2
      refine ⟨j + 1, h3, fun k hk => ?_⟩
      cases k with
      | zero => exact fun q => e (Option.some.inj q)
      | succ k => exact h4 k (by omega)
end Kf
namespace Kf
open PySem PySem.Spec L2 StX ClX Dn
open PyProof.Rows hiding St
variable {P : Program} {w : World} {K : PySem.W.Frag} {mg : Str → Option Value} {base : Heap}
def pyPr (p : Pr) : PyData := .tuple [.int p.1, .int p.2]
theorem toPys_prs : ∀ ps : List Pr, toPys (ps.map fxD) = some (ps.map pyPr)
  | [] => rfl
  | p :: ps => by
    show (match toPy (fxD p) with | none => none | some q => (toPys (ps.map fxD)).map (q :: ·)) = _
    rw [toPys_prs ps]
    rfl
theorem toPy_prs (ps : List Pr) : toPy (.tup (ps.map fxD)) = some (.tuple (ps.map pyPr)) := by
  show (toPys (ps.map fxD)).map PyData.tuple = _
  rw [toPys_prs]
  rfl
theorem canLay_prs : ∀ ps : List Pr, PyData.canLayAll0 (ps.map pyPr) = true
  | [] => rfl
  | p :: ps => by
    have ih := canLay_prs ps
    rw [List.map_cons]
    simp only [PyData.canLayAll0, Bool.and_eq_true]
    exact ⟨rfl, ih⟩
theorem depth_prs : ∀ ps : List Pr, PyData.depthAll (ps.map pyPr) ≤ 1
  | [] => by simp [PyData.depthAll]
  | p :: ps => by
    have ih := depth_prs ps
    rw [List.map_cons]
    simp only [PyData.depthAll]
    have : (pyPr p).depth = 1 := by simp [pyPr, PyData.depth, PyData.depthAll]
    omega
theorem eqv_prs : ∀ ps : List Pr, PyData.eqvAll (ps.map pyPr) (ps.map pyPr) = true
  | [] => rfl
  | p :: ps => by
    have ih := eqv_prs ps
    rw [List.map_cons]
    simp only [PyData.eqvAll, Bool.and_eq_true]
    refine ⟨?_, ih⟩
    show PyData.eqv (.tuple [.int p.1, .int p.2]) (.tuple [.int p.1, .int p.2]) = true
    simp [PyData.eqv, PyData.eqvAll]
theorem shaped_prs (ps : List Pr) : SeqAt.shaped (.tuple (ps.map pyPr)) = true := by
  have := depth_prs ps
  unfold SeqAt.shaped
  have e1 : PyData.canLay0 (.tuple (ps.map pyPr)) = true := by simp only [PyData.canLay0, canLay_prs, Bool.and_self, Bool.true_and]
  have e2 : PyData.depth (.tuple (ps.map pyPr)) ≤ 2 := by
    simp only [PyData.depth]
    omega
  rw [e1, decide_eq_true (by omega)]
  rfl
theorem eqv_prsT (ps : List Pr) : PyData.eqv (.tuple (ps.map pyPr)) (.tuple (ps.map pyPr)) = true := eqv_prs ps
theorem rdN_le (F : Int → Int) : ∀ (n : Nat) (x : Int), rdN F n x ≤ n
  | 0, _ => Nat.le_refl _
  | n + 1, x => by
    show (if F x = x then 0 else rdN F n (F x) + 1) ≤ n + 1
    have := rdN_le F n (F x)
    split <;> omega
theorem rd_le_top (F : Int → Int) (t x : Int) : rdF F t x ≤ (t + 1).toNat := rdN_le F _ x
theorem canLay_ints35 : ∀ zs : List Int, PyData.canLayAll0 (zs.map PyData.int) = true
  | [] => rfl
  | z :: zs => by
    rw [List.map_cons]
    simp only [PyData.canLayAll0, Bool.and_eq_true]
    exact ⟨rfl, canLay_ints35 zs⟩
theorem eqv_ints35 (zs : List Int) : (!PyData.eqv (.list (zs.map PyData.int)) (.list (zs.map PyData.int))) = false := by
  have : PyData.eqv (.list (zs.map PyData.int)) (.list (zs.map PyData.int)) = true := by
    refine SeqAt.eqv_refl _ ?_
    simp only [PyData.canLay0, canLay_ints35, Bool.and_self, Bool.true_and]
  rw [this]
  rfl
theorem ints_show : ∀ (zs : List Int), (∀ z ∈ zs, z.natAbs < 10 ^ 19) → PyData.showableAll (zs.map PyData.int) = true ∧ PyData.leavesShortAll 20 (zs.map PyData.int) = true ∧ PyData.weightAll (zs.map PyData.int) ≤ 66 * zs.length ∧ PyData.depthAll (zs.map PyData.int) ≤ 1
  | [], _ => ⟨rfl, rfl, by simp [PyData.weightAll], by simp [PyData.depthAll]⟩
  | z :: zs, h => by
    obtain ⟨a, b, c, d⟩ := ints_show zs fun q hq => h q (List.mem_cons_of_mem _ hq)
    have h1 := h z List.mem_cons_self
    have w1 := weight_int h1
    refine ⟨?_, ?_, ?_, ?_⟩
    · simp only [List.map_cons, PyData.showableAll, Bool.and_eq_true]
      exact ⟨int_shows h1, a⟩
    · simp only [List.map_cons, PyData.leavesShortAll, Bool.and_eq_true]
      exact ⟨int_short h1, b⟩
    · simp only [List.map_cons, PyData.weightAll, List.length_cons]
      omega
    · simp only [List.map_cons, PyData.depthAll]
      have : (PyData.int z).depth ≤ 1 := by simp [PyData.depth]
      omega
theorem shows_ints {zs : List Int} (hl : zs.length ≤ 400) (h : ∀ z ∈ zs, z.natAbs < 10 ^ 19) : Shows (.lst (zs.map D.int)) (.list (zs.map PyData.int)) := by
  obtain ⟨a, b, c, d⟩ := ints_show zs h
  refine .of (toPy_ints zs) (by simpa [PyData.showable] using a) (by simp only [PyData.depth]; omega) (by simpa [PyData.leavesShort] using b) ?_
  simp only [PyData.weight]
  omega
def F_lrun : FT := fun args st Ret _ => ∃ (zs : List Int) (top x : Int), args = [.dat (.lst (zs.map D.int)), .dat (.int x)] ∧ Good (tabF zs) top top ∧ (zs.length : Int) = top + 1 ∧ 0 ≤ x ∧ x ≤ top ∧ Ret (.dat (.tup [.int (restF (tabF zs) top x), .int ((rdF (tabF zs) top x : Nat) : Int)])) st
theorem ok_lrun {f : Addr} {fd : FuncData} (Fn : Fun K "_law_run" "_law_run" s__law_run f fd) (b : Binds K fd p__law_run []) : FnG P w K mg base (L2.CX P w) 2 f (spD K F_lrun) := by
  refine fnD Fn sc__law_run b (fun args st0 Ret Exc h => ?_) ?_
  · obtain ⟨zs, top, x, rfl, _⟩ := h
    rfl
  intro cdv A outer s H E H0 Al args st0 Ret Exc hr xk hp hal hcl hF
  obtain ⟨zs, top, x, rfl, hg, hl, x0, x1, q⟩ := hF
  refine sw_cons ?_
  refine sw_set 2 ?_ sc__law_run.nd
  refine ew_int ?_
  refine sw_cons ?_
  refine sw_mid1 (fun sl s9 => s9 = st0 ∧ sl = [some (.dat (.lst (zs.map D.int))), some (.dat (.int (restF (tabF zs) top x))), some (.dat (.int ((rdF (tabF zs) top x : Nat) : Int)))]) ?_ ?_
  · refine sw_while hp (fun m sl s9 => s9 = st0 ∧ ∃ (y : Int) (n : Nat), m = rdF (tabF zs) top y ∧ 0 ≤ y ∧ y ≤ top ∧ rdF (tabF zs) top x = n + rdF (tabF zs) top y ∧ restF (tabF zs) top y = restF (tabF zs) top x ∧ sl = [some (.dat (.lst (zs.map D.int))), some (.dat (.int y)), some (.dat (.int (n : Int)))]) (rdF (tabF zs) top x) ?_ (fun m sl st2 hI => ?_)
    · exact ⟨rfl, x, 0, rfl, x0, x1, by omega, rfl, rfl⟩
    · obtain ⟨rfl, y, n, rfl, y0, y1, hn, hre, rfl⟩ := hI
      refine tw_cmp (nomark _) ?_
      refine ew_ix ?_
      refine ew_name 0 rfl ?_
      refine ew_name 1 rfl ?_
      refine ⟨_, _, rfl, itm_lst (j := (y).toNat) (d := .int (tabF zs y)) (by omega) (by rw [List.getElem?_map, tab_at (by omega) (by omega)]; rfl), ?_⟩
      refine ew_name 1 rfl ?_
      refine o_neI ?_
      refine ⟨_, rfl, ?_⟩
      refine ifN' (fun h => ?_) (fun h => ?_)
      · have hs := rd_step hg y0 y1 h
        have hs2 := rest_step hg y0 y1
        refine sw_cons ?_
        refine sw_par 1 2 rfl ?_ sc__law_run.nd
        refine aw_cons ?_
        refine ew_ix ?_
        refine ew_name 0 rfl ?_
        refine ew_name 1 rfl ?_
        refine ⟨_, _, rfl, itm_lst (j := (y).toNat) (d := .int (tabF zs y)) (by omega) (by rw [List.getElem?_map, tab_at (by omega) (by omega)]; rfl), ?_⟩
        refine aw_cons ?_
        refine ew_bin ?_
        refine ew_name 2 rfl ?_
        refine ew_int ?_
        refine o_add ?_
        refine aw_nil ?_
        refine ⟨_, _, rfl, ?_⟩
        refine sw_nil ?_
        refine ⟨rdF (tabF zs) top (tabF zs y), by omega, rfl, tabF zs y, n + 1, rfl, hg.nn y0 y1, hg.ub y0 y1, by omega, by rw [hs2]; exact hre, ?_⟩
        rw [show ((n + 1 : Nat) : Int) = (n : Int) + 1 by omega]
        rfl
      · have e0 : rdF (tabF zs) top y = 0 := rd_fix hg.t0 h
        rw [e0] at hn
        rw [rest_fx h] at hre
        refine ⟨rfl, ?_⟩
        rw [hn, ← hre]
        rfl
  · rintro sl st2 ⟨rfl, rfl⟩
    refine sw_cons ?_
    refine sw_ret ?_
    refine ew_tup ?_
    refine aw_cons ?_
    refine ew_name 1 rfl ?_
    refine aw_cons ?_
    refine ew_name 2 rfl ?_
    refine aw_nil ?_
    refine ⟨_, rfl, (by show 2 ≤ sizeLine; decide), ?_⟩
    exact krE_of hcl q
theorem fxs_add {F : Int → Int} {a b : Int} (a0 : 0 ≤ a) (ab : a < b) (h : ∀ z, a ≤ z → z < b → F z = z) (hj : ∀ p, (fxs F a.toNat).getLast? = some p → p.2 ≠ a - 1) : fxs F b.toNat = fxs F a.toNat ++ [(a, b - 1)] := by
  have z := fxs_on (F := F) (n := a.toNat) (b - 1 - a).toNat fun x c d => h x (by omega) (by omega)
  rw [show a.toNat + (b - 1 - a).toNat + 1 = b.toNat by omega, show ((a.toNat : Nat) : Int) = a by omega] at z
  rw [z]
  unfold fxAdd
  have e : a + ((b - 1 - a).toNat : Int) = b - 1 := by omega
  rw [e]
  cases q : (fxs F a.toNat).getLast? with
  | none => rfl
  | some p => exact if_neg (hj p q)
theorem fxs_len (F : Int → Int) : ∀ n : Nat, (fxs F n).length ≤ n
  | 0 => Nat.le_refl _
  | n + 1 => by
    have ih := fxs_len F n
    by_cases e : F (n : Int) = (n : Int)
    · have z := fxs_on (F := F) (n := n) 0 fun x c d => by
        rw [show x = (n : Int) by omega]
        exact e
      have z2 := fxAdd_len (fxs F n) (n : Int) ((n : Int) + (0 : Nat))
      rw [← z] at z2
      show (fxs F (n + 0 + 1)).length ≤ n + 1
      omega
    · have z := fxs_off (F := F) (n := n) 1 fun x c d => by
        rw [show x = (n : Int) by omega]
        exact e
      rw [z]
      omega
def F_lstr : FT := fun args st Ret _ => ∃ (zs : List Int) (top : Int), args = [.dat (.lst (zs.map D.int))] ∧ 0 ≤ top ∧ top ≤ 900 ∧ (zs.length : Int) = top + 1 ∧ Ret (.dat (.tup ((fxs (tabF zs) (top + 1).toNat).map fxD))) st
theorem ok_lstr {f : Addr} {fd : FuncData} (B : Bl mg) (Fn : Fun K "_law_stretches" "_law_stretches" s__law_stretches f fd) (b : Binds K fd p__law_stretches []) : FnG P w K mg base (L2.CX P w) 2 f (spD K F_lstr) := by
  refine fnD Fn sc__law_stretches b (fun args st0 Ret Exc h => ?_) ?_
  · obtain ⟨zs, top, rfl, _⟩ := h
    rfl
  intro cdv A outer s H E H0 Al args st0 Ret Exc hr xk hp hal hcl hF
  obtain ⟨zs, top, rfl, t0, t1, hl, q⟩ := hF
  have gL : ∀ o : Ob, (st0 ++ [o])[st0.length]? = some o := fun o => by simp
  have tL : ∀ o u : Ob, (st0 ++ [o]).set st0.length u = st0 ++ [u] := fun o u => by simp
  refine sw_cons ?_
  refine sw_par 1 2 rfl ?_ sc__law_stretches.nd
  refine aw_cons ?_
  refine ew_lstM ?_
  refine aw_nil ?_
  refine ⟨(by show 0 ≤ sizeLine; decide), ?_⟩
  refine aw_cons ?_
  refine ew_int ?_
  refine aw_nil ?_
  refine ⟨_, _, rfl, ?_⟩
  refine sw_cons ?_
  refine sw_mid1 (fun sl s9 => ∃ (x2 x3 : Option W), s9 = st0 ++ [.lst (((fxs (tabF zs) (top + 1).toNat).map fxD).map W.dat)] ∧ sl = [some (.dat (.lst (zs.map D.int))), some (.ptr st0.length), x2, x3]) ?_ ?_
  · refine sw_while hp (fun m sl s9 => ∃ (x : Int) (x3 : Option W), m = (top + 1 - x).toNat ∧ 0 ≤ x ∧ x ≤ top + 1 ∧ (∀ p, (fxs (tabF zs) x.toNat).getLast? = some p → p.2 ≠ x - 1 ∨ (x ≤ top → tabF zs x ≠ x)) ∧ s9 = st0 ++ [.lst (((fxs (tabF zs) x.toNat).map fxD).map W.dat)] ∧ sl = [some (.dat (.lst (zs.map D.int))), some (.ptr st0.length), some (.dat (.int x)), x3]) (top + 1).toNat ?_ (fun m sl st2 hI => ?_)
    · exact ⟨0, none, by omega, by omega, by omega, fun p hp => (by cases hp), rfl, rfl⟩
    · obtain ⟨x, x3, rfl, x0, x1, hj, rfl, rfl⟩ := hI
      refine tw_cmp (nomark _) ?_
      refine ew_name 2 rfl ?_
      refine ew_blt bt_len B.len ?_
      refine aw_cons ?_
      refine ew_name 0 rfl ?_
      refine aw_nil ?_
      refine c_len rfl ?_
      rw [List.length_map, hl]
      refine o_lt ?_
      refine ⟨_, rfl, ?_⟩
      refine ifD (fun h => ?_) (fun h => ?_)
      · refine sw_cons ?_
        refine sw_set 3 ?_ sc__law_stretches.nd
        refine ew_name 2 rfl ?_
        show SW _ _ _ [some (.dat (.lst (zs.map D.int))), some (.ptr st0.length), some (.dat (.int x)), some (.dat (.int x))] _ _
        refine sw_cons ?_
        refine sw_mid1 (fun sl s9 => ∃ (e : Int), s9 = st0 ++ [.lst (((fxs (tabF zs) x.toNat).map fxD).map W.dat)] ∧ x ≤ e ∧ e ≤ top + 1 ∧ (∀ z, x ≤ z → z < e → tabF zs z = z) ∧ (e ≤ top → tabF zs e ≠ e) ∧ sl = [some (.dat (.lst (zs.map D.int))), some (.ptr st0.length), some (.dat (.int x)), some (.dat (.int e))]) ?_ ?_
        · refine sw_while hp (fun m sl s9 => ∃ (e : Int), m = (top + 1 - e).toNat ∧ s9 = st0 ++ [.lst (((fxs (tabF zs) x.toNat).map fxD).map W.dat)] ∧ x ≤ e ∧ e ≤ top + 1 ∧ (∀ z, x ≤ z → z < e → tabF zs z = z) ∧ sl = [some (.dat (.lst (zs.map D.int))), some (.ptr st0.length), some (.dat (.int x)), some (.dat (.int e))]) (top + 1 - x).toNat ?_ (fun m sl st2 hI => ?_)
          · exact ⟨x, rfl, rfl, Int.le_refl _, by omega, fun z a b => by omega, rfl⟩
          · obtain ⟨e, rfl, rfl, e0, e1, hz, rfl⟩ := hI
            refine tw_bool ?_
            refine bw_and ?_
            refine tw_cmp (nomark _) ?_
            refine ew_name 3 rfl ?_
            refine ew_blt bt_len B.len ?_
            refine aw_cons ?_
            refine ew_name 0 rfl ?_
            refine aw_nil ?_
            refine c_len rfl ?_
            rw [List.length_map, hl]
            refine o_lt ?_
            refine ⟨_, rfl, ?_⟩
            refine ifD (fun h => ?_) (fun h => ?_)
            · refine bw_and1 ?_
              refine tw_cmp (nomark _) ?_
              refine ew_ix ?_
              refine ew_name 0 rfl ?_
              refine ew_name 3 rfl ?_
              refine ⟨_, _, rfl, itm_lst (j := (e).toNat) (d := .int (tabF zs e)) (by omega) (by rw [List.getElem?_map, tab_at (by omega) (by omega)]; rfl), ?_⟩
              refine ew_name 3 rfl ?_
              refine o_eqI ?_
              refine ⟨_, rfl, ?_⟩
              refine ifD (fun h2 => ?_) (fun h2 => ?_)
              · refine sw_cons ?_
                refine sw_set 3 ?_ sc__law_stretches.nd
                refine ew_bin ?_
                refine ew_name 3 rfl ?_
                refine ew_int ?_
                refine o_add ?_
                refine sw_nil ?_
                refine ⟨(top + 1 - (e + 1)).toNat, by omega, e + 1, rfl, rfl, by omega, by omega, fun z a b => ?_, rfl⟩
                by_cases ez : z = e
                · rw [ez]; exact h2
                · exact hz z a (by omega)
              · exact ⟨e, rfl, e0, e1, hz, fun _ => h2, rfl⟩
            · refine ifF rfl ?_
              exact ⟨e, rfl, e0, e1, hz, fun z => absurd z (by omega), rfl⟩
        · rintro sl st2 ⟨e, rfl, e0, e1, hz, he, rfl⟩
          have hlen := fxs_len (tabF zs) x.toNat
          refine sw_cons ?_
          refine sw_mid1 (fun sl s9 => s9 = st0 ++ [.lst (((fxs (tabF zs) e.toNat).map fxD).map W.dat)] ∧ sl = [some (.dat (.lst (zs.map D.int))), some (.ptr st0.length), some (.dat (.int x)), some (.dat (.int e))]) ?_ ?_
          · refine sw_if ?_
            refine tw_cmp (nomark _) ?_
            refine ew_name 3 rfl ?_
            refine ew_name 2 rfl ?_
            refine o_gt ?_
            refine ⟨_, rfl, ?_⟩
            refine ifD (fun h2 => ?_) (fun h2 => ?_)
            · have hadd := fxs_add x0 (show x < e by omega) hz fun p hp => by
                rcases hj p hp with z | z
                · exact z
                · exact absurd (hz x (Int.le_refl _) (by omega)) (z (by omega))
              refine sw_cons ?_
              refine sw_expr ?_
              refine ew_append ?_
              refine ew_name 1 rfl ?_
              refine ⟨st0.length, _, rfl, gL _, ?_⟩
              refine ew_tup ?_
              refine aw_cons ?_
              refine ew_name 2 rfl ?_
              refine aw_cons ?_
              refine ew_bin ?_
              refine ew_name 3 rfl ?_
              refine ew_int ?_
              refine o_sub ?_
              refine aw_nil ?_
              refine ⟨_, rfl, (by show 2 ≤ sizeLine; decide), ?_⟩
              refine ⟨_, gL _, szl (by rw [List.length_map, List.length_map]; omega), ?_⟩
              rw [tL]
              refine sw_nil ?_
              refine ⟨?_, rfl⟩
              rw [hadd]
              simp
            · refine sw_nil ?_
              have : e = x := by omega
              subst this
              exact ⟨rfl, rfl⟩
          · rintro sl st2 ⟨rfl, rfl⟩
            refine sw_cons ?_
            refine sw_set 2 ?_ sc__law_stretches.nd
            refine ew_blt bt_max B.max ?_
            refine aw_cons ?_
            refine ew_bty bt_int B.int ?_
            refine aw_cons ?_
            refine ew_name 3 rfl ?_
            refine aw_nil ?_
            refine c_int ?_
            refine aw_cons ?_
            refine ew_bty bt_int B.int ?_
            refine aw_cons ?_
            refine ew_bin ?_
            refine ew_name 2 rfl ?_
            refine ew_int ?_
            refine o_add ?_
            refine aw_nil ?_
            refine c_int ?_
            refine aw_nil ?_
            refine c_max rfl ?_
            refine sw_nil ?_
            by_cases h2 : e = x
            · subst h2
              have hoff : fxs (tabF zs) (e + 1).toNat = fxs (tabF zs) e.toNat := by
                have z := fxs_off (F := tabF zs) (n := e.toNat) 1 fun y a b => by
                  rw [show y = e by omega]
                  exact he (by omega)
                rw [show (e + 1).toNat = e.toNat + 1 by omega]
                exact z
              have hmx : (if e + 1 > e then e + 1 else e) = e + 1 := if_pos (by omega)
              rw [hmx]
              refine ⟨(top + 1 - (e + 1)).toNat, by omega, e + 1, _, rfl, by omega, by omega, fun p hp => .inl ?_, by rw [hoff], rfl⟩
              rw [hoff] at hp
              have := ((fxs_ok (tabF zs) e.toNat).le p (List.mem_of_getLast? hp)).2.2
              omega
            · have hmx : (if x + 1 > e then x + 1 else e) = e := by split <;> omega
              rw [hmx]
              exact ⟨(top + 1 - e).toNat, by omega, e, _, rfl, by omega, by omega, fun p hp => .inr he, rfl, rfl⟩
      · have : x = top + 1 := by omega
        subst this
        exact ⟨_, _, rfl, rfl⟩
  · rintro sl st2 ⟨x2, x3, rfl, rfl⟩
    refine sw_cons ?_
    refine sw_ret ?_
    refine ew_bty bt_tuple B.tuple ?_
    refine aw_cons ?_
    refine ew_name 1 rfl ?_
    refine aw_nil ?_
    refine c_tupleM (xs := (fxs (tabF zs) (top + 1).toNat).map fxD) (by simp) ?_
    exact krE_app hcl q
end Kf
namespace Kf
open PySem PySem.Spec L2 StX ClX Dn
open PyProof.Rows hiding St
variable {P : Program} {w : World} {K : PySem.W.Frag} {mg : Str → Option Value} {base : Heap}
theorem ok_law {f C : Addr} {fd : FuncData} (B : Bl mg) (hrp : mg "repr" = none) (C_lpassage : Cal P w K mg base 7 "_law_passage" (F_lpassage C)) (C_lresults : Cal P w K mg base 4 "_law_results" (F_lresults C))
    (C_rest : Cal P w K mg base 7 "rest" (F_rest C)) (C_fixed : Cal P w K mg base 4 "fixed" (F_fixed C)) (C_rounds : Cal P w K mg base 4 "rounds" (F_rounds C)) (C_slowest : Cal P w K mg base 5 "slowest" (F_slowest C))
    (C_seed : Cal P w K mg base 1 "_law_seed" F_seed) (C_choose : Cal P w K mg base 1 "_law_choose" F_choose) (C_one_of : Cal P w K mg base 2 "_law_one_of" F_one_of) (C_ltable : Cal P w K mg base 3 "_law_table" F_ltable) (C_lrun : Cal P w K mg base 2 "_law_run" F_lrun) (C_lstr : Cal P w K mg base 2 "_law_stretches" F_lstr) (Fn : Fun K "law" "law" s_law f fd) : FnGo P w K mg base (L2.CX P w) 8 f fd p_law (spD K LawF) := by
  refine fnDok Fn sc_law (fun args st0 Ret Exc h => ?_) ?_
  · obtain ⟨ns, _, rfl, _⟩ := h
    rfl
  intro cdv A outer s H E H0 Al args st0 Ret Exc hr xk hp hal hcl hF
  obtain ⟨ns, _, rfl, q⟩ := hF
  refine sw_cut (fun sl st => ∃ (g : List Ob) (x1 x2 x3 x4 x5 x6 x7 x8 x9 x10 x11 x12 : Option W), sl = [some (.dat (.scr ns)), x1, x2, x3, x4, x5, x6, x7, x8, x9, x10, x11, x12] ∧ st = st0 ++ g) ?_ ?_
  · refine sw_for hp rfl ?_
    refine iw_range1 B.range ?_
    refine aw_cons ?_
    refine ew_blt bt_max B.max ?_
    refine aw_cons ?_
    refine ew_int ?_
    refine aw_cons ?_
    refine ew_blt bt_min B.min ?_
    refine aw_cons ?_
    refine ew_int ?_
    refine aw_cons ?_
    refine ew_blt bt_len B.len ?_
    refine aw_cons ?_
    refine ew_name 0 rfl ?_
    refine aw_nil ?_
    refine c_len rfl ?_
    refine aw_nil ?_
    refine c_min rfl ?_
    refine aw_nil ?_
    refine c_max rfl ?_
    refine aw_nil ?_
    have hm : ∀ n : Int, 0 ≤ n → -(2 ^ 62) ≤ (if (if n < 5 then n else 5) > 2 then (if n < 5 then n else 5) else 2) ∧ (if (if n < 5 then n else 5) > 2 then (if n < 5 then n else 5) else 2) < 2 ^ 62 := by
      intro n hn
      repeat' split
      all_goals omega
    refine ⟨_, rfl, (hm _ (by omega)).1, (hm _ (by omega)).2, ?_⟩
    refine ⟨fun i sl st => ∃ (g : List Ob) (x1 x2 x3 x4 x5 x6 x7 x8 x9 x10 x11 x12 : Option W), sl = [some (.dat (.scr ns)), x1, x2, x3, x4, x5, x6, x7, x8, x9, x10, x11, x12] ∧ st = st0 ++ g, ?_, fun i w sl st hw hI => ?_, fun sl st hI => hI⟩
    · exact ⟨[], none, none, none, none, none, none, none, none, none, none, none, none, rfl, by simp⟩
    · obtain ⟨g, x1, x2, x3, x4, x5, x6, x7, x8, x9, x10, x11, x12, rfl, rfl⟩ := hI
      obtain ⟨hi, rfl⟩ := getElem?_rng hw
      refine gw_name 1 ?_ sc_law.nd
      refine sw_cons ?_
      refine sw_set 2 ?_ sc_law.nd
      refine ew_call C_seed hr (by decide) xk ?_
      refine aw_cons ?_
      refine ew_name 0 rfl ?_
      refine aw_cons ?_
      refine ew_name 1 rfl ?_
      refine aw_nil ?_
      refine ⟨ns, _, rfl, by omega, fun a0 b0 => ?_⟩
      refine sw_cut (fun sl st => ∃ (g : List Ob) (x1 x2 x3 x4 x5 x6 x7 x8 x9 x10 x11 x12 : Option W), sl = [some (.dat (.scr ns)), x1, x2, x3, x4, x5, x6, x7, x8, x9, x10, x11, x12] ∧ st = st0 ++ g) ?_ (fun sl st hI => sw_nil hI)
      generalize eS : st0 ++ g = S
      refine sw_for hp rfl ?_
      refine iw_range1 B.range ?_
      refine aw_cons ?_
      refine ew_int ?_
      refine aw_nil ?_
      refine ⟨_, rfl, by decide, by decide, ?_⟩
      refine ⟨fun i sl st => ∃ (a b : Int) (gs : List Ob) (x1 x3 x4 x5 x6 x7 x8 x9 x10 x11 x12 : Option W), sl = [some (.dat (.scr ns)), x1, some (.ptr S.length), x3, x4, x5, x6, x7, x8, x9, x10, x11, x12] ∧ st = S ++ bx a b :: gs, ?_, fun i w sl st hw hI => ?_, fun sl st hI => ?_⟩
      · exact ⟨a0, b0, [], _, _, _, _, _, _, _, _, _, _, _, rfl, rfl⟩
      · obtain ⟨a, b, gs, x1, x3, x4, x5, x6, x7, x8, x9, x10, x11, x12, rfl, rfl⟩ := hI
        obtain ⟨hi2, rfl⟩ := getElem?_rng hw
        refine gw_name 3 ?_ sc_law.nd
        refine sw_cons ?_
        refine sw_set 4 ?_ sc_law.nd
        refine ew_call C_one_of hr (by decide) xk ?_
        refine aw_cons ?_
        refine ew_name 2 rfl ?_
        refine aw_cons ?_
        refine ew_lst ?_
        refine aw_cons ?_
        refine ew_int ?_
        refine aw_cons ?_
        refine ew_int ?_
        refine aw_cons ?_
        refine ew_int ?_
        refine aw_cons ?_
        refine ew_int ?_
        refine aw_cons ?_
        refine ew_int ?_
        refine aw_cons ?_
        refine ew_int ?_
        refine aw_cons ?_
        refine ew_int ?_
        refine aw_nil ?_
        refine ⟨_, rfl, (by show 7 ≤ sizeLine; decide), ?_⟩
        refine aw_nil ?_
        refine ⟨S.length, a, b, _, rfl, bx_at _ _ _ _, by show 0 < 7; decide, by show 7 ≤ 1000; decide, fun topx a b toph => ?_⟩
        rw [bx_set]
        obtain ⟨top, rfl, top0, top1⟩ : ∃ top : Int, topx = .int top ∧ 0 ≤ top ∧ top ≤ 20 := by
          simp only [List.mem_cons, List.not_mem_nil, or_false] at toph
          rcases toph with rfl | rfl | rfl | rfl | rfl | rfl | rfl <;> exact ⟨_, rfl, by decide, by decide⟩
        show SW _ _ _ [some (.dat (.scr ns)), x1, some (.ptr S.length), some (.dat (.int (0 + (i : Int)))), some (.dat (.int top)), x5, x6, x7, x8, x9, x10, x11, x12] _ _
        refine sw_cons ?_
        refine sw_set 5 ?_ sc_law.nd
        refine ew_call C_ltable hr (by decide) xk ?_
        refine aw_cons ?_
        refine ew_name 2 rfl ?_
        refine aw_cons ?_
        refine ew_name 4 rfl ?_
        refine aw_cons ?_
        refine ew_name 4 rfl ?_
        refine aw_nil ?_
        refine ⟨S.length, a, b, top, top, rfl, bx_at _ _ _ _, by omega, by omega, by omega, fun a b zs zsz zsl => ?_⟩
        rw [bx_set]
        show SW _ _ _ [some (.dat (.scr ns)), x1, some (.ptr S.length), some (.dat (.int (0 + (i : Int)))), some (.dat (.int top)), some (.dat (.lst (zs.map D.int))), x6, x7, x8, x9, x10, x11, x12] _ _
        refine sw_cons ?_
        refine sw_mid1 (fun sl st => ∃ (a b : Int) (zs : List Int) (x1 x6 x7 x8 x9 x10 x11 x12 : Option W), TabZ top zs ∧ (zs.length : Int) = top + 1 ∧ sl = [some (.dat (.scr ns)), x1, some (.ptr S.length), some (.dat (.int (0 + (i : Int)))), some (.dat (.int top)), some (.dat (.lst (zs.map D.int))), x6, x7, x8, x9, x10, x11, x12] ∧ st = S ++ bx a b :: gs) ?_ ?_
        · refine sw_if ?_
          refine tw_cmp (nomark _) ?_
          refine ew_call C_choose hr (by decide) xk ?_
          refine aw_cons ?_
          refine ew_name 2 rfl ?_
          refine aw_cons ?_
          refine ew_int ?_
          refine aw_nil ?_
          refine ⟨S.length, a, b, 3, rfl, bx_at _ _ _ _, by omega, by omega, fun c3 a b c30 c31 => ?_⟩
          rw [bx_set]
          refine ew_int ?_
          refine o_eqI ?_
          refine ⟨_, rfl, ?_⟩
          refine ifD (fun h => ?_) (fun h => ?_)
          · refine sw_cons ?_
            refine sw_mid1 (fun sl st => ∃ (a b : Int) (vs : List Int), vs.length = (top + 1).toNat ∧ (∀ z ∈ vs, 0 ≤ z ∧ z ≤ top) ∧ sl = [some (.dat (.scr ns)), x1, some (.ptr S.length), some (.dat (.int (0 + (i : Int)))), some (.dat (.int top)), some (.dat (.lst (vs.map D.int))), x6, x7, x8, x9, x10, x11, x12] ∧ st = S ++ bx a b :: gs) ?_ ?_
            · refine sw_asg ?_
              refine ew_lc (own := [("_law_y", 9)]) (tb := false) (is := [9]) rfl sc_law.nd (blkOk_by (N := n_law) (sc := defScope s_law) (by decide +kernel)) (fun _ _ _ _ _ => pg_name (i := 9) sc_law.nd rfl (Or.inl rfl)) (by decide) ?_
              refine iw_range1 B.range ?_
              refine aw_cons ?_
              refine ew_bin ?_
              refine ew_name 4 rfl ?_
              refine ew_int ?_
              first | refine o_add ?_ | refine o_cat (by walk_at "len") ?_ | refine o_addS (by walk_at "len") ?_
              refine aw_nil ?_
              refine ⟨_, rfl, by omega, by omega, ?_⟩
              refine ⟨fun i acc st => (∃ a b, st = S ++ bx a b :: gs) ∧ ∃ us : List Int, acc = us.map D.int ∧ us.length = i ∧ ∀ z ∈ us, 0 ≤ z ∧ z ≤ top, ⟨⟨_, _, rfl⟩, [], rfl, rfl, fun z hz => absurd hz List.not_mem_nil⟩, fun i w acc st hw hI => ?_, fun acc st hI => ?_⟩
              · obtain ⟨⟨a, b, rfl⟩, us, rfl, hal2, hall⟩ := hI
                obtain ⟨hi3, rfl⟩ := getElem?_rng hw
                refine ⟨_, rfl, fun G1 sb Hb Cb cl fp => ?_⟩
                refine ew_blt bt_max B.max ?_
                refine aw_cons ?_
                refine ew_int ?_
                refine aw_cons ?_
                refine ew_bty bt_int B.int ?_
                refine aw_cons ?_
                refine ew_bin ?_
                refine ew_name 9 rfl ?_
                refine ew_call C_one_of hr (by decide) xok_false ?_
                refine aw_cons ?_
                refine ew_name 2 rfl ?_
                refine aw_cons ?_
                refine ew_lst ?_
                refine aw_cons ?_
                refine ew_int ?_
                refine aw_cons ?_
                refine ew_int ?_
                refine aw_nil ?_
                refine ⟨_, rfl, (by show 2 ≤ sizeLine; decide), ?_⟩
                refine aw_nil ?_
                refine ⟨S.length, a, b, _, rfl, bx_at _ _ _ _, by show 0 < 2; decide, by show 2 ≤ 1000; decide, fun ox a b oh => ?_⟩
                rw [bx_set]
                obtain ⟨o, rfl, o0, o1⟩ : ∃ o : Int, ox = .int o ∧ 1 ≤ o ∧ o ≤ 2 := by
                  simp only [List.mem_cons, List.not_mem_nil, or_false] at oh
                  rcases oh with rfl | rfl <;> exact ⟨_, rfl, by decide, by decide⟩
                refine o_sub ?_
                refine aw_nil ?_
                refine c_int ?_
                refine aw_nil ?_
                refine c_max rfl ?_
                refine ⟨_, rfl, szl (by rw [List.length_map]; omega), ⟨_, _, rfl⟩, us ++ [_], by rw [List.map_append]; rfl, by rw [List.length_append, hal2]; rfl, fun z hz => ?_⟩
                rcases List.mem_append.mp hz with hz | hz
                · exact hall z hz
                · rw [List.mem_singleton.mp hz]
                  split <;> omega
              · obtain ⟨⟨a, b, rfl⟩, us, rfl, hal2, hall⟩ := hI
                rw [rng_length] at hal2
                refine gw_name 5 ?_ sc_law.nd
                exact ⟨a, b, us, hal2, hall, rfl, rfl⟩
            · rintro sl st ⟨a, b, vs, hvl, hva, rfl, rfl⟩
              refine sw_cons ?_
              refine sw_asg ?_
              refine ew_lc (own := [("_law_x", 10)]) (tb := false) (is := [10]) rfl sc_law.nd (blkOk_by (N := n_law) (sc := defScope s_law) (by decide +kernel)) (fun _ _ _ _ _ => pg_name (i := 10) sc_law.nd rfl (Or.inl rfl)) (by decide) ?_
              refine iw_range1 B.range ?_
              refine aw_cons ?_
              refine ew_bin ?_
              refine ew_name 4 rfl ?_
              refine ew_int ?_
              first | refine o_add ?_ | refine o_cat (by walk_at "len") ?_ | refine o_addS (by walk_at "len") ?_
              refine aw_nil ?_
              refine ⟨_, rfl, by omega, by omega, ?_⟩
              refine ⟨fun i acc st => st = S ++ bx a b :: gs ∧ ∃ us : List Int, acc = us.map D.int ∧ us.length = i ∧ ∀ (j : Nat) (u : Int), us[j]? = some u → u ∈ vs.take (j + 1) ∧ ∀ z ∈ vs.take (j + 1), z ≤ u, ⟨rfl, [], rfl, rfl, fun j u hu => by cases hu⟩, fun i w acc st hw hI => ?_, fun acc st hI => ?_⟩
              · obtain ⟨rfl, us, rfl, hal2, hall⟩ := hI
                obtain ⟨hi3, rfl⟩ := getElem?_rng hw
                refine ⟨_, rfl, fun G1 sb Hb Cb cl fp => ?_⟩
                refine ew_blt bt_max B.max ?_
                refine aw_cons ?_
                refine ew_lc (own := [("_law_y", 9)]) (tb := false) (is := [9]) rfl sc_law.nd (blkOk_by (N := n_law) (by rfl)) (fun _ _ _ _ _ => pg_name (i := 9) sc_law.nd rfl (Or.inl rfl)) (by decide) ?_
                refine lcj_map (vs.take (i + 1)) D.int D.int (szl (by rw [List.length_take]; omega)) ?_ ?_ ?_
                · refine iw_list ?_
                  refine ew_slice ?_
                  refine ew_name 5 rfl ?_
                  refine pt_none ?_
                  refine pt_some ?_
                  refine ew_bin ?_
                  refine ew_name 10 rfl ?_
                  refine ew_int ?_
                  refine o_add ?_
                  refine ⟨_, rfl, ?_⟩
                  refine ⟨_, rfl, ?_⟩
                  refine ⟨_, rfl, rfl, ?_⟩
                  rw [show (0 : Int) + (i : Int) + 1 = ((i + 1 : Nat) : Int) by omega, cutL_to (vs.map D.int) (i + 1), List.map_take, List.map_take, List.map_take]
                · intro k hk
                  refine ⟨_, rfl, ?_⟩
                  intro G2 sb2 Hb2 Cb2 cl2 fp2
                  refine ew_bty bt_int B.int ?_
                  refine aw_cons ?_
                  refine ew_name 9 rfl ?_
                  refine aw_nil ?_
                  exact c_int ⟨rfl, rfl⟩
                refine aw_nil ?_
                refine c_maxL rfl (by rw [List.length_take]; omega) fun m hm hmax => ?_
                refine ⟨_, rfl, szl (by rw [List.length_map]; omega), rfl, us ++ [m], by rw [List.map_append]; rfl, by rw [List.length_append, hal2]; rfl, fun j u hu => ?_⟩
                rcases Nat.lt_or_ge j us.length with q | q
                · rw [List.getElem?_append_left q] at hu
                  exact hall j u hu
                · rw [List.getElem?_append_right q] at hu
                  have e : j = i := by
                    have := (List.getElem?_eq_some_iff.mp hu).1
                    simp at this
                    omega
                  subst e
                  rw [hal2, Nat.sub_self] at hu
                  cases hu
                  exact ⟨hm, hmax⟩
              · obtain ⟨rfl, us, rfl, hal2, hall⟩ := hI
                rw [rng_length] at hal2
                refine gw_name 5 ?_ sc_law.nd
                refine sw_nil ?_
                refine ⟨a, b, us, _, _, _, _, _, _, _, _, ⟨fun z hz => ?_, fun j x y hx hy => ?_⟩, by omega, rfl, rfl⟩
                · obtain ⟨j, hj⟩ := List.getElem?_of_mem hz
                  exact hva z (List.mem_of_mem_take (hall j z hj).1)
                · exact (hall (j + 1) y hy).2 x (List.mem_of_mem_take (i := j + 1) (by rw [List.take_take, Nat.min_eq_left (by omega)]; exact (hall j x hx).1))
          · refine sw_nil ?_
            exact ⟨a, b, zs, _, _, _, _, _, _, _, _, zsz, zsl, rfl, rfl⟩
        clear zsz zsl zs
        rintro sl st ⟨a, b, zs, x1, x6, x7, x8, x9, x10, x11, x12, zsz, zsl, rfl, rfl⟩
        have ez : (zs.length : Int) - 1 = top := by omega
        have hg := tab_good zsz (by omega) (by omega)
        rw [ez] at hg
        have hrd := fun x => rd_le_top (tabF zs) top x
        refine sw_cons ?_
        refine sw_asg ?_
        refine ew_tup ?_
        refine aw_cons ?_
        refine ew_call C_lpassage hr (by decide) xk ?_
        refine aw_cons ?_
        refine ew_name 5 rfl ?_
        refine aw_cons ?_
        refine ew_name 4 rfl ?_
        refine aw_nil ?_
        refine ⟨zs, top, rfl, zsz, by omega, by omega, by omega, fun dp hP => ?_⟩
        rw [ez] at hP
        refine aw_cons ?_
        refine ew_lc (own := [("_law_x", 10)]) (tb := false) (is := [10]) rfl sc_law.nd (blkOk_by (N := n_law) (sc := defScope s_law) (by decide +kernel)) (fun _ _ _ _ _ => pg_name (i := 10) sc_law.nd rfl (Or.inl rfl)) (by decide) ?_
        refine lcj_map (List.range (top + 1).toNat) (fun (k : Nat) => .int (0 + (k : Int))) (fun (k : Nat) => D.tup [.int (restF (tabF zs) top (k : Int)), .int ((rdF (tabF zs) top (k : Int) : Nat) : Int)]) (szl (by rw [List.length_range]; omega)) ?_ ?_ ?_
        · refine iw_range1 B.range ?_
          refine aw_cons ?_
          refine ew_bin ?_
          refine ew_name 4 rfl ?_
          refine ew_int ?_
          first | refine o_add ?_ | refine o_cat (by walk_at "len") ?_ | refine o_addS (by walk_at "len") ?_
          refine aw_nil ?_
          exact ⟨_, rfl, by omega, by omega, rfl, rng_map _ _⟩
        · intro k hk
          have hk := List.mem_range.mp hk
          refine ⟨_, rfl, ?_⟩
          intro G1 sb Hb Cb cl fp
          refine ew_call C_lrun hr (by decide) xok_false ?_
          refine aw_cons ?_
          refine ew_name 5 rfl ?_
          refine aw_cons ?_
          refine ew_name 10 rfl ?_
          refine aw_nil ?_
          refine ⟨zs, top, _, rfl, hg, zsl, by omega, by omega, ?_, rfl⟩
          rw [show (0 : Int) + (k : Int) = (k : Int) by omega]
        refine aw_nil ?_
        refine ⟨_, rfl, (by show 2 ≤ sizeLine; decide), ?_⟩
        refine gw_tup rfl ?_
        refine gs_cons ?_
        refine gw_name 7 ?_ sc_law.nd
        refine gs_cons ?_
        refine gw_name 8 ?_ sc_law.nd
        refine gs_nil ?_
        show SW _ _ _ [some (.dat (.scr ns)), x1, some (.ptr S.length), some (.dat (.int (0 + (i : Int)))), some (.dat (.int top)), some (.dat (.lst (zs.map D.int))), x6, some (.dat dp), some (.dat (.lst ((List.range (top + 1).toNat).map (fun (k : Nat) => D.tup [.int (restF (tabF zs) top (k : Int)), .int ((rdF (tabF zs) top (k : Int) : Nat) : Int)])))), x9, x10, x11, x12] _ _
        have hzl : zs.length ≤ 21 := by omega
        refine sw_cons ?_
        refine sw_if ?_
        refine tw_mid false ?_ ?_
        · refine tw_bool ?_
          refine bw_or ?_
          refine tw_cmp (nomark _) ?_
          refine ew_call C_lresults hr (by decide) xk ?_
          refine aw_cons ?_
          refine ew_call C_rest hr (by decide) xk ?_
          refine aw_cons ?_
          refine ew_name 7 rfl ?_
          refine aw_nil ?_
          refine ⟨_, _, _, _, rfl, hP, by omega, fun dh hH => ?_⟩
          refine aw_nil ?_
          refine ⟨_, _, _, _, _, rfl, hH, by omega, by omega, ?_⟩
          refine ew_lc (own := [("_law_end", 11), ("_law_many", 12)]) (tb := true) (is := [11, 12]) rfl sc_law.nd (blkOk_by (N := n_law) (sc := defScope s_law) (by decide +kernel)) (fun _ _ _ _ _ => pg_tup rfl (pgs_cons (pg_name (i := 11) sc_law.nd rfl (Or.inl rfl)) (pgs_cons (pg_name (i := 12) sc_law.nd rfl (Or.inl rfl)) (pgs_nil)))) (by decide) ?_
          refine lcj_map (List.range (top + 1).toNat) (fun (k : Nat) => D.tup [.int (restF (tabF zs) top (k : Int)), .int ((rdF (tabF zs) top (k : Int) : Nat) : Int)]) (fun (k : Nat) => .int (restF (tabF zs) top (k : Int))) (szl (by rw [List.length_range]; omega)) ?_ ?_ ?_
          · refine iw_list ?_
            refine ew_name 8 rfl ?_
            exact ⟨_, rfl, rfl, rfl⟩
          · intro k hk
            refine ⟨_, rfl, ?_⟩
            intro G1 sb Hb Cb cl fp
            exact ew_name 11 rfl ⟨rfl, rfl⟩
          rw [show (List.range (top + 1).toNat).map (fun (k : Nat) => D.int (restF (tabF zs) top (k : Int))) = ((List.range (top + 1).toNat).map fun (k : Nat) => restF (tabF zs) top (k : Int)).map D.int by rw [List.map_map]; rfl]
          refine o_neD hr (toPy_ints _) (toPy_ints _) (shaped_ints _) (shaped_ints _) ?_
          refine ⟨_, rfl, ?_⟩
          refine ifF (eqv_ints35 _) ?_
          refine bw_or1 ?_
          refine tw_cmp (nomark _) ?_
          refine ew_call C_fixed hr (by decide) xk ?_
          refine aw_cons ?_
          refine ew_name 7 rfl ?_
          refine aw_nil ?_
          refine ⟨_, _, _, _, rfl, hP, by omega, fun _ => ?_⟩
          refine ew_call C_lstr hr (by decide) xk ?_
          refine aw_cons ?_
          refine ew_name 5 rfl ?_
          refine aw_nil ?_
          refine ⟨zs, top, rfl, by omega, by omega, zsl, ?_⟩
          refine o_neD hr (toPy_prs _) (toPy_prs _) (shaped_prs _) (shaped_prs _) ?_
          rw [eqv_prsT]
          exact ⟨_, rfl, rfl, rfl⟩
        refine ifF rfl ?_
        refine sw_nil ?_
        have hms : ∀ z ∈ ((List.range (top + 1).toNat).map fun (k : Nat) => ((rdF (tabF zs) top (k : Int) : Nat) : Int)), z.natAbs < 10 ^ 19 := fun z hz => by
          obtain ⟨k, _, rfl⟩ := List.mem_map.mp hz
          have := hrd (k : Int)
          omega
        have hml : ((List.range (top + 1).toNat).map fun (k : Nat) => ((rdF (tabF zs) top (k : Int) : Nat) : Int)).length = (top + 1).toNat := by rw [List.length_map, List.length_range]
        refine sw_cons ?_
        refine sw_if ?_
        refine tw_mid false ?_ ?_
        · refine tw_cmp (nomark _) ?_
          refine ew_blt rfl hrp ?_
          refine aw_cons ?_
          refine ew_lc (own := [("_law_x", 10)]) (tb := false) (is := [10]) rfl sc_law.nd (blkOk_by (N := n_law) (sc := defScope s_law) (by decide +kernel)) (fun _ _ _ _ _ => pg_name (i := 10) sc_law.nd rfl (Or.inl rfl)) (by decide) ?_
          refine lcj_map (List.range (top + 1).toNat) (fun (k : Nat) => .int (0 + (k : Int))) (fun (k : Nat) => .int ((rdF (tabF zs) top (k : Int) : Nat) : Int)) (szl (by rw [List.length_range]; omega)) ?_ ?_ ?_
          · refine iw_range1 B.range ?_
            refine aw_cons ?_
            refine ew_bin ?_
            refine ew_name 4 rfl ?_
            refine ew_int ?_
            first | refine o_add ?_ | refine o_cat (by walk_at "len") ?_ | refine o_addS (by walk_at "len") ?_
            refine aw_nil ?_
            exact ⟨_, rfl, by omega, by omega, rfl, rng_map _ _⟩
          · intro k hk
            have hk := List.mem_range.mp hk
            refine ⟨_, rfl, ?_⟩
            intro G1 sb Hb Cb cl fp
            refine ew_call C_rounds hr (by decide) xok_false ?_
            refine aw_cons ?_
            refine ew_name 7 rfl ?_
            refine aw_cons ?_
            refine ew_name 10 rfl ?_
            refine aw_nil ?_
            refine ⟨_, _, _, _, _, rfl, hP, by omega, by omega, by omega, by omega, ?_, rfl⟩
            rw [show (0 : Int) + (k : Int) = (k : Int) by omega]
          rw [show (List.range (top + 1).toNat).map (fun (k : Nat) => D.int ((rdF (tabF zs) top (k : Int) : Nat) : Int)) = ((List.range (top + 1).toNat).map fun (k : Nat) => ((rdF (tabF zs) top (k : Int) : Nat) : Int)).map D.int by rw [List.map_map]; rfl]
          refine aw_nil ?_
          refine c_repr hr (shows_ints (by omega) hms) ?_
          refine ew_blt rfl hrp ?_
          refine aw_cons ?_
          refine ew_lc (own := [("_law_end", 11), ("_law_many", 12)]) (tb := true) (is := [11, 12]) rfl sc_law.nd (blkOk_by (N := n_law) (sc := defScope s_law) (by decide +kernel)) (fun _ _ _ _ _ => pg_tup rfl (pgs_cons (pg_name (i := 11) sc_law.nd rfl (Or.inl rfl)) (pgs_cons (pg_name (i := 12) sc_law.nd rfl (Or.inl rfl)) (pgs_nil)))) (by decide) ?_
          refine lcj_map (List.range (top + 1).toNat) (fun (k : Nat) => D.tup [.int (restF (tabF zs) top (k : Int)), .int ((rdF (tabF zs) top (k : Int) : Nat) : Int)]) (fun (k : Nat) => .int ((rdF (tabF zs) top (k : Int) : Nat) : Int)) (szl (by rw [List.length_range]; omega)) ?_ ?_ ?_
          · refine iw_list ?_
            refine ew_name 8 rfl ?_
            exact ⟨_, rfl, rfl, rfl⟩
          · intro k hk
            refine ⟨_, rfl, ?_⟩
            intro G1 sb Hb Cb cl fp
            exact ew_name 12 rfl ⟨rfl, rfl⟩
          rw [show (List.range (top + 1).toNat).map (fun (k : Nat) => D.int ((rdF (tabF zs) top (k : Int) : Nat) : Int)) = ((List.range (top + 1).toNat).map fun (k : Nat) => ((rdF (tabF zs) top (k : Int) : Nat) : Int)).map D.int by rw [List.map_map]; rfl]
          refine aw_nil ?_
          refine c_repr hr (shows_ints (by omega) hms) ?_
          refine o_neS ?_
          refine ⟨_, rfl, ?_, rfl⟩
          simp
        refine ifF rfl ?_
        refine sw_nil ?_
        refine sw_cons ?_
        refine sw_set 6 ?_ sc_law.nd
        refine ew_blt bt_max B.max ?_
        refine aw_cons ?_
        refine ew_lc (own := [("_law_end", 11), ("_law_many", 12)]) (tb := true) (is := [11, 12]) rfl sc_law.nd (blkOk_by (N := n_law) (sc := defScope s_law) (by decide +kernel)) (fun _ _ _ _ _ => pg_tup rfl (pgs_cons (pg_name (i := 11) sc_law.nd rfl (Or.inl rfl)) (pgs_cons (pg_name (i := 12) sc_law.nd rfl (Or.inl rfl)) (pgs_nil)))) (by decide) ?_
        refine lcj_map (List.range (top + 1).toNat) (fun (k : Nat) => D.tup [.int (restF (tabF zs) top (k : Int)), .int ((rdF (tabF zs) top (k : Int) : Nat) : Int)]) (fun (k : Nat) => .int ((rdF (tabF zs) top (k : Int) : Nat) : Int)) (szl (by rw [List.length_range]; omega)) ?_ ?_ ?_
        · refine iw_list ?_
          refine ew_name 8 rfl ?_
          exact ⟨_, rfl, rfl, rfl⟩
        · intro k hk
          refine ⟨_, rfl, ?_⟩
          intro G1 sb Hb Cb cl fp
          refine ew_bty bt_int B.int ?_
          refine aw_cons ?_
          refine ew_name 12 rfl ?_
          refine aw_nil ?_
          exact c_int ⟨rfl, rfl⟩
        rw [show (List.range (top + 1).toNat).map (fun (k : Nat) => D.int ((rdF (tabF zs) top (k : Int) : Nat) : Int)) = ((List.range (top + 1).toNat).map fun (k : Nat) => ((rdF (tabF zs) top (k : Int) : Nat) : Int)).map D.int by rw [List.map_map]; rfl]
        refine aw_nil ?_
        refine c_maxL rfl (by omega) fun m hm hmax => ?_
        show SW _ _ _ [some (.dat (.scr ns)), x1, some (.ptr S.length), some (.dat (.int (0 + (i : Int)))), some (.dat (.int top)), some (.dat (.lst (zs.map D.int))), some (.dat (.int m)), some (.dat dp), some (.dat (.lst ((List.range (top + 1).toNat).map (fun (k : Nat) => D.tup [.int (restF (tabF zs) top (k : Int)), .int ((rdF (tabF zs) top (k : Int) : Nat) : Int)])))), x9, x10, x11, x12] _ _
        obtain ⟨j, hj, hjn⟩ := first_at hm
        have hjl := (List.getElem?_eq_some_iff.mp hj).1
        have hAt : ∀ k : Nat, (k : Int) ≤ top → ((List.range (top + 1).toNat).map fun (k : Nat) => ((rdF (tabF zs) top (k : Int) : Nat) : Int))[k]? = some ((rdF (tabF zs) top (k : Int) : Nat) : Int) := fun k hk => by
          rw [List.getElem?_map, List.getElem?_range (by omega)]
          rfl
        have hmb := hms m hm
        refine sw_cons ?_
        refine sw_if ?_
        refine tw_mid false ?_ ?_
        · refine tw_cmp (nomark _) ?_
          refine ew_blt rfl hrp ?_
          refine aw_cons ?_
          refine ew_call C_slowest hr (by decide) xk ?_
          refine aw_cons ?_
          refine ew_name 7 rfl ?_
          refine aw_nil ?_
          refine ⟨_, _, _, _, rfl, hP, by omega, by omega, fun xs mm hsl => ?_⟩
          have em : (mm : Int) = m := by
            have z1 := hAt xs.toNat (by have := hsl.x1; omega)
            rw [show ((xs.toNat : Nat) : Int) = xs by have := hsl.x0; omega, hsl.at_] at z1
            have z2 := hmax _ (List.mem_of_getElem? z1)
            have z3 := hAt j (by omega)
            rw [hj] at z3
            have z4 := (hsl.le (j : Int) (by omega) (by omega)).1
            have z5 := Option.some.inj z3
            omega
          have ex : xs = (j : Int) := by
            have z3 := hAt j (by omega)
            rw [hj] at z3
            have z5 := Option.some.inj z3
            have z4 := (hsl.le (j : Int) (by omega) (by omega)).2 (by omega)
            rcases Int.lt_or_eq_of_le z4 with q | q
            · have z1 := hAt xs.toNat (by have := hsl.x1; omega)
              rw [show ((xs.toNat : Nat) : Int) = xs by have := hsl.x0; omega, hsl.at_, em] at z1
              exact absurd z1 (hjn xs.toNat (by have := hsl.x0; omega))
            · exact q
          rw [em, ex]
          refine aw_nil ?_
          refine c_repr hr (shows_pair (by omega) hmb) ?_
          refine ew_blt rfl hrp ?_
          refine aw_cons ?_
          refine ew_tup ?_
          refine aw_cons ?_
          refine ew_index ?_
          refine ew_lc (own := [("_law_end", 11), ("_law_many", 12)]) (tb := true) (is := [11, 12]) rfl sc_law.nd (blkOk_by (N := n_law) (sc := defScope s_law) (by decide +kernel)) (fun _ _ _ _ _ => pg_tup rfl (pgs_cons (pg_name (i := 11) sc_law.nd rfl (Or.inl rfl)) (pgs_cons (pg_name (i := 12) sc_law.nd rfl (Or.inl rfl)) (pgs_nil)))) (by decide) ?_
          refine lcj_map (List.range (top + 1).toNat) (fun (k : Nat) => D.tup [.int (restF (tabF zs) top (k : Int)), .int ((rdF (tabF zs) top (k : Int) : Nat) : Int)]) (fun (k : Nat) => .int ((rdF (tabF zs) top (k : Int) : Nat) : Int)) (szl (by rw [List.length_range]; omega)) ?_ ?_ ?_
          · refine iw_list ?_
            refine ew_name 8 rfl ?_
            exact ⟨_, rfl, rfl, rfl⟩
          · intro k hk
            refine ⟨_, rfl, ?_⟩
            intro G1 sb Hb Cb cl fp
            exact ew_name 12 rfl ⟨rfl, rfl⟩
          rw [show (List.range (top + 1).toNat).map (fun (k : Nat) => D.int ((rdF (tabF zs) top (k : Int) : Nat) : Int)) = ((List.range (top + 1).toNat).map fun (k : Nat) => ((rdF (tabF zs) top (k : Int) : Nat) : Int)).map D.int by rw [List.map_map]; rfl]
          refine ⟨((List.range (top + 1).toNat).map fun (k : Nat) => ((rdF (tabF zs) top (k : Int) : Nat) : Int)), rfl, ?_⟩
          refine ew_name 6 rfl ?_
          refine ⟨_, j, rfl, hj, hjn, ?_⟩
          refine aw_cons ?_
          refine ew_name 6 rfl ?_
          refine aw_nil ?_
          refine ⟨_, rfl, (by show 2 ≤ sizeLine; decide), ?_⟩
          refine aw_nil ?_
          refine c_repr hr (shows_pair (by omega) hmb) ?_
          refine o_neS ?_
          refine ⟨_, rfl, ?_, rfl⟩
          simp
        refine ifF rfl ?_
        refine sw_nil ?_
        refine sw_nil ?_
        exact ⟨a, b, gs, _, _, _, _, _, _, _, _, _, _, _, rfl, rfl⟩
      · obtain ⟨a, b, gs, x1, x3, x4, x5, x6, x7, x8, x9, x10, x11, x12, rfl, rfl⟩ := hI
        refine ⟨g ++ bx a b :: gs, _, _, _, _, _, _, _, _, _, _, _, _, rfl, ?_⟩
        rw [← eS, List.append_assoc]
  rintro sl st ⟨g, x1, x2, x3, x4, x5, x6, x7, x8, x9, x10, x11, x12, rfl, rfl⟩
  refine sw_cons ?_
  refine sw_ret ?_
  refine ew_bl ?_
  exact krE_app hcl q
end Kf
namespace Kf
open PySem PySem.Spec L2 StX ClX Dn
open PyProof.Rows hiding St
variable {P : Program} {w : World} {K : PySem.W.Frag} {mg : Str → Option Value} {base : Heap}
theorem all_mk {l : PySem.W.OpenLaw} {w : World} {K : PySem.W.Frag} {h : Heap} {mg : Str → Option Value} {fa C CE fE fis_number fis_value fis_sequence fis_table fvalue_at fvalue_on flast_value fstays_within fnormal fstretches fis_piece fare_pieces flesser fgreater fpassage_of frows_of fcheck_steady fsign fdrifts_on fdrifts ffixed frest frounds_on frounds_from frounds fleast_with fslowest flaw_seed flaw_choose flaw_one_of flaw_table flaw_passage flaw_results flaw_run flaw_stretches flaw finit fctable fcsame fcall ptable psame : Addr} (X : K.In h) (G : h.Ns mainGlobals mg) (hfa : mg "law" = some (.ref fa))
    {odis_number anis_number odis_value anis_value odis_sequence anis_sequence odis_table anis_table odvalue_at anvalue_at odvalue_on anvalue_on odlast_value anlast_value odstays_within anstays_within odnormal annormal odstretches anstretches odis_piece anis_piece odare_pieces anare_pieces odlesser anlesser odgreater angreater odpassage_of anpassage_of odrows_of anrows_of odcheck_steady ancheck_steady odsign ansign oddrifts_on andrifts_on oddrifts andrifts odfixed anfixed odrest anrest odrounds_on anrounds_on odrounds_from anrounds_from odrounds anrounds odleast_with anleast_with odslowest anslowest odlaw_seed anlaw_seed odlaw_choose anlaw_choose odlaw_one_of anlaw_one_of odlaw_table anlaw_table odlaw_passage anlaw_passage odlaw_results anlaw_results odlaw_run anlaw_run odlaw_stretches anlaw_stretches odlaw anlaw odinit aninit odctable anctable odcsame ancsame odcall ancall : Option Addr} {slis_number slis_value slis_sequence slis_table slvalue_at slvalue_on sllast_value slstays_within slnormal slstretches slis_piece slare_pieces sllesser slgreater slpassage_of slrows_of slcheck_steady slsign sldrifts_on sldrifts slfixed slrest slrounds_on slrounds_from slrounds slleast_with slslowest sllaw_seed sllaw_choose sllaw_one_of sllaw_table sllaw_passage sllaw_results sllaw_run sllaw_stretches sllaw slinit slctable slcsame slcall : Array (Option Value)} {ocis_number kVis_number dcis_number pmis_number cdis_number ctis_number ocis_value kVis_value dcis_value pmis_value cdis_value ctis_value ocis_sequence kVis_sequence dcis_sequence pmis_sequence cdis_sequence ctis_sequence ocis_table kVis_table dcis_table pmis_table cdis_table ctis_table ocvalue_at kVvalue_at dcvalue_at pmvalue_at cdvalue_at ctvalue_at ocvalue_on kVvalue_on dcvalue_on pmvalue_on cdvalue_on ctvalue_on oclast_value kVlast_value dclast_value pmlast_value cdlast_value ctlast_value ocstays_within kVstays_within dcstays_within pmstays_within cdstays_within ctstays_within ocnormal kVnormal dcnormal pmnormal cdnormal ctnormal ocstretches kVstretches dcstretches pmstretches cdstretches ctstretches ocis_piece kVis_piece dcis_piece pmis_piece cdis_piece ctis_piece ocare_pieces kVare_pieces dcare_pieces pmare_pieces cdare_pieces ctare_pieces oclesser kVlesser dclesser pmlesser cdlesser ctlesser ocgreater kVgreater dcgreater pmgreater cdgreater ctgreater ocpassage_of kVpassage_of dcpassage_of pmpassage_of cdpassage_of ctpassage_of ocrows_of kVrows_of dcrows_of pmrows_of cdrows_of ctrows_of occheck_steady kVcheck_steady dccheck_steady pmcheck_steady cdcheck_steady ctcheck_steady ocsign kVsign dcsign pmsign cdsign ctsign ocdrifts_on kVdrifts_on dcdrifts_on pmdrifts_on cddrifts_on ctdrifts_on ocdrifts kVdrifts dcdrifts pmdrifts cddrifts ctdrifts ocfixed kVfixed dcfixed pmfixed cdfixed ctfixed ocrest kVrest dcrest pmrest cdrest ctrest ocrounds_on kVrounds_on dcrounds_on pmrounds_on cdrounds_on ctrounds_on ocrounds_from kVrounds_from dcrounds_from pmrounds_from cdrounds_from ctrounds_from ocrounds kVrounds dcrounds pmrounds cdrounds ctrounds ocleast_with kVleast_with dcleast_with pmleast_with cdleast_with ctleast_with ocslowest kVslowest dcslowest pmslowest cdslowest ctslowest oclaw_seed kVlaw_seed dclaw_seed pmlaw_seed cdlaw_seed ctlaw_seed oclaw_choose kVlaw_choose dclaw_choose pmlaw_choose cdlaw_choose ctlaw_choose oclaw_one_of kVlaw_one_of dclaw_one_of pmlaw_one_of cdlaw_one_of ctlaw_one_of oclaw_table kVlaw_table dclaw_table pmlaw_table cdlaw_table ctlaw_table oclaw_passage kVlaw_passage dclaw_passage pmlaw_passage cdlaw_passage ctlaw_passage oclaw_results kVlaw_results dclaw_results pmlaw_results cdlaw_results ctlaw_results oclaw_run kVlaw_run dclaw_run pmlaw_run cdlaw_run ctlaw_run oclaw_stretches kVlaw_stretches dclaw_stretches pmlaw_stretches cdlaw_stretches ctlaw_stretches oclaw kVlaw dclaw pmlaw cdlaw ctlaw ocinit kVinit dcinit pminit cdinit ctinit occtable kVctable dcctable pmctable cdctable ctctable occsame kVcsame dccsame pmcsame cdcsame ctcsame occall kVcall dccall pmcall cdcall ctcall : Value}
    {nm q : Str} {N : Addr} {bs bm : List Value} {sn : List Str} {sub : List Value} {ab : Bool} {col : Option Bool} {dd : Option Addr} {m0 m1 m2 m3 m5 : Option Value} {ocE dcE pmE cdE ctE mc : Value} {odE anE : Option Addr} {slE : Array (Option Value)} {rtable rsame : List Value}
    (ais_number : PySem.W.nsIn K mainGlobals "is_number" = some (some (.ref fis_number))) (lis_number : K.lookup fis_number = some ⟨ocis_number, odis_number, .func (PySem.W.fnOf "is_number" "is_number" (defArgs s_is_number) (defBody s_is_number) (defScope s_is_number) .none kVis_number dcis_number pmis_number anis_number cdis_number ctis_number), slis_number⟩) (cis_number : PySem.W.codeIn K cdis_number "is_number" = true) (kis_number : PySem.W.keepIn K (.ref fis_number) = true)
    (ais_value : PySem.W.nsIn K mainGlobals "is_value" = some (some (.ref fis_value))) (lis_value : K.lookup fis_value = some ⟨ocis_value, odis_value, .func (PySem.W.fnOf "is_value" "is_value" (defArgs s_is_value) (defBody s_is_value) (defScope s_is_value) .none kVis_value dcis_value pmis_value anis_value cdis_value ctis_value), slis_value⟩) (cis_value : PySem.W.codeIn K cdis_value "is_value" = true) (kis_value : PySem.W.keepIn K (.ref fis_value) = true)
    (ais_sequence : PySem.W.nsIn K mainGlobals "is_sequence" = some (some (.ref fis_sequence))) (lis_sequence : K.lookup fis_sequence = some ⟨ocis_sequence, odis_sequence, .func (PySem.W.fnOf "is_sequence" "is_sequence" (defArgs s_is_sequence) (defBody s_is_sequence) (defScope s_is_sequence) .none kVis_sequence dcis_sequence pmis_sequence anis_sequence cdis_sequence ctis_sequence), slis_sequence⟩) (cis_sequence : PySem.W.codeIn K cdis_sequence "is_sequence" = true) (kis_sequence : PySem.W.keepIn K (.ref fis_sequence) = true)
    (ais_table : PySem.W.nsIn K mainGlobals "is_table" = some (some (.ref fis_table))) (lis_table : K.lookup fis_table = some ⟨ocis_table, odis_table, .func (PySem.W.fnOf "is_table" "is_table" (defArgs s_is_table) (defBody s_is_table) (defScope s_is_table) .none kVis_table dcis_table pmis_table anis_table cdis_table ctis_table), slis_table⟩) (cis_table : PySem.W.codeIn K cdis_table "is_table" = true) (kis_table : PySem.W.keepIn K (.ref fis_table) = true)
    (avalue_at : PySem.W.nsIn K mainGlobals "value_at" = some (some (.ref fvalue_at))) (lvalue_at : K.lookup fvalue_at = some ⟨ocvalue_at, odvalue_at, .func (PySem.W.fnOf "value_at" "value_at" (defArgs s_value_at) (defBody s_value_at) (defScope s_value_at) .none kVvalue_at dcvalue_at pmvalue_at anvalue_at cdvalue_at ctvalue_at), slvalue_at⟩) (cvalue_at : PySem.W.codeIn K cdvalue_at "value_at" = true) (kvalue_at : PySem.W.keepIn K (.ref fvalue_at) = true)
    (avalue_on : PySem.W.nsIn K mainGlobals "value_on" = some (some (.ref fvalue_on))) (lvalue_on : K.lookup fvalue_on = some ⟨ocvalue_on, odvalue_on, .func (PySem.W.fnOf "value_on" "value_on" (defArgs s_value_on) (defBody s_value_on) (defScope s_value_on) .none kVvalue_on dcvalue_on pmvalue_on anvalue_on cdvalue_on ctvalue_on), slvalue_on⟩) (cvalue_on : PySem.W.codeIn K cdvalue_on "value_on" = true) (kvalue_on : PySem.W.keepIn K (.ref fvalue_on) = true)
    (alast_value : PySem.W.nsIn K mainGlobals "last_value" = some (some (.ref flast_value))) (llast_value : K.lookup flast_value = some ⟨oclast_value, odlast_value, .func (PySem.W.fnOf "last_value" "last_value" (defArgs s_last_value) (defBody s_last_value) (defScope s_last_value) .none kVlast_value dclast_value pmlast_value anlast_value cdlast_value ctlast_value), sllast_value⟩) (clast_value : PySem.W.codeIn K cdlast_value "last_value" = true) (klast_value : PySem.W.keepIn K (.ref flast_value) = true)
    (astays_within : PySem.W.nsIn K mainGlobals "stays_within" = some (some (.ref fstays_within))) (lstays_within : K.lookup fstays_within = some ⟨ocstays_within, odstays_within, .func (PySem.W.fnOf "stays_within" "stays_within" (defArgs s_stays_within) (defBody s_stays_within) (defScope s_stays_within) .none kVstays_within dcstays_within pmstays_within anstays_within cdstays_within ctstays_within), slstays_within⟩) (cstays_within : PySem.W.codeIn K cdstays_within "stays_within" = true) (kstays_within : PySem.W.keepIn K (.ref fstays_within) = true)
    (anormal : PySem.W.nsIn K mainGlobals "normal" = some (some (.ref fnormal))) (lnormal : K.lookup fnormal = some ⟨ocnormal, odnormal, .func (PySem.W.fnOf "normal" "normal" (defArgs s_normal) (defBody s_normal) (defScope s_normal) .none kVnormal dcnormal pmnormal annormal cdnormal ctnormal), slnormal⟩) (cnormal : PySem.W.codeIn K cdnormal "normal" = true) (knormal : PySem.W.keepIn K (.ref fnormal) = true)
    (astretches : PySem.W.nsIn K mainGlobals "stretches" = some (some (.ref fstretches))) (lstretches : K.lookup fstretches = some ⟨ocstretches, odstretches, .func (PySem.W.fnOf "stretches" "stretches" (defArgs s_stretches) (defBody s_stretches) (defScope s_stretches) .none kVstretches dcstretches pmstretches anstretches cdstretches ctstretches), slstretches⟩) (cstretches : PySem.W.codeIn K cdstretches "stretches" = true) (kstretches : PySem.W.keepIn K (.ref fstretches) = true)
    (ais_piece : PySem.W.nsIn K mainGlobals "is_piece" = some (some (.ref fis_piece))) (lis_piece : K.lookup fis_piece = some ⟨ocis_piece, odis_piece, .func (PySem.W.fnOf "is_piece" "is_piece" (defArgs s_is_piece) (defBody s_is_piece) (defScope s_is_piece) .none kVis_piece dcis_piece pmis_piece anis_piece cdis_piece ctis_piece), slis_piece⟩) (cis_piece : PySem.W.codeIn K cdis_piece "is_piece" = true) (kis_piece : PySem.W.keepIn K (.ref fis_piece) = true)
    (aare_pieces : PySem.W.nsIn K mainGlobals "are_pieces" = some (some (.ref fare_pieces))) (lare_pieces : K.lookup fare_pieces = some ⟨ocare_pieces, odare_pieces, .func (PySem.W.fnOf "are_pieces" "are_pieces" (defArgs s_are_pieces) (defBody s_are_pieces) (defScope s_are_pieces) .none kVare_pieces dcare_pieces pmare_pieces anare_pieces cdare_pieces ctare_pieces), slare_pieces⟩) (care_pieces : PySem.W.codeIn K cdare_pieces "are_pieces" = true) (kare_pieces : PySem.W.keepIn K (.ref fare_pieces) = true)
    (alesser : PySem.W.nsIn K mainGlobals "lesser" = some (some (.ref flesser))) (llesser : K.lookup flesser = some ⟨oclesser, odlesser, .func (PySem.W.fnOf "lesser" "lesser" (defArgs s_lesser) (defBody s_lesser) (defScope s_lesser) .none kVlesser dclesser pmlesser anlesser cdlesser ctlesser), sllesser⟩) (clesser : PySem.W.codeIn K cdlesser "lesser" = true) (klesser : PySem.W.keepIn K (.ref flesser) = true)
    (agreater : PySem.W.nsIn K mainGlobals "greater" = some (some (.ref fgreater))) (lgreater : K.lookup fgreater = some ⟨ocgreater, odgreater, .func (PySem.W.fnOf "greater" "greater" (defArgs s_greater) (defBody s_greater) (defScope s_greater) .none kVgreater dcgreater pmgreater angreater cdgreater ctgreater), slgreater⟩) (cgreater : PySem.W.codeIn K cdgreater "greater" = true) (kgreater : PySem.W.keepIn K (.ref fgreater) = true)
    (apassage_of : PySem.W.nsIn K mainGlobals "passage_of" = some (some (.ref fpassage_of))) (lpassage_of : K.lookup fpassage_of = some ⟨ocpassage_of, odpassage_of, .func (PySem.W.fnOf "passage_of" "passage_of" (defArgs s_passage_of) (defBody s_passage_of) (defScope s_passage_of) .none kVpassage_of dcpassage_of pmpassage_of anpassage_of cdpassage_of ctpassage_of), slpassage_of⟩) (cpassage_of : PySem.W.codeIn K cdpassage_of "passage_of" = true) (kpassage_of : PySem.W.keepIn K (.ref fpassage_of) = true)
    (arows_of : PySem.W.nsIn K mainGlobals "rows_of" = some (some (.ref frows_of))) (lrows_of : K.lookup frows_of = some ⟨ocrows_of, odrows_of, .func (PySem.W.fnOf "rows_of" "rows_of" (defArgs s_rows_of) (defBody s_rows_of) (defScope s_rows_of) .none kVrows_of dcrows_of pmrows_of anrows_of cdrows_of ctrows_of), slrows_of⟩) (crows_of : PySem.W.codeIn K cdrows_of "rows_of" = true) (krows_of : PySem.W.keepIn K (.ref frows_of) = true)
    (acheck_steady : PySem.W.nsIn K mainGlobals "check_steady" = some (some (.ref fcheck_steady))) (lcheck_steady : K.lookup fcheck_steady = some ⟨occheck_steady, odcheck_steady, .func (PySem.W.fnOf "check_steady" "check_steady" (defArgs s_check_steady) (defBody s_check_steady) (defScope s_check_steady) .none kVcheck_steady dccheck_steady pmcheck_steady ancheck_steady cdcheck_steady ctcheck_steady), slcheck_steady⟩) (ccheck_steady : PySem.W.codeIn K cdcheck_steady "check_steady" = true) (kcheck_steady : PySem.W.keepIn K (.ref fcheck_steady) = true)
    (asign : PySem.W.nsIn K mainGlobals "sign" = some (some (.ref fsign))) (lsign : K.lookup fsign = some ⟨ocsign, odsign, .func (PySem.W.fnOf "sign" "sign" (defArgs s_sign) (defBody s_sign) (defScope s_sign) .none kVsign dcsign pmsign ansign cdsign ctsign), slsign⟩) (csign : PySem.W.codeIn K cdsign "sign" = true) (ksign : PySem.W.keepIn K (.ref fsign) = true)
    (adrifts_on : PySem.W.nsIn K mainGlobals "drifts_on" = some (some (.ref fdrifts_on))) (ldrifts_on : K.lookup fdrifts_on = some ⟨ocdrifts_on, oddrifts_on, .func (PySem.W.fnOf "drifts_on" "drifts_on" (defArgs s_drifts_on) (defBody s_drifts_on) (defScope s_drifts_on) .none kVdrifts_on dcdrifts_on pmdrifts_on andrifts_on cddrifts_on ctdrifts_on), sldrifts_on⟩) (cdrifts_on : PySem.W.codeIn K cddrifts_on "drifts_on" = true) (kdrifts_on : PySem.W.keepIn K (.ref fdrifts_on) = true)
    (adrifts : PySem.W.nsIn K mainGlobals "drifts" = some (some (.ref fdrifts))) (ldrifts : K.lookup fdrifts = some ⟨ocdrifts, oddrifts, .func (PySem.W.fnOf "drifts" "drifts" (defArgs s_drifts) (defBody s_drifts) (defScope s_drifts) .none kVdrifts dcdrifts pmdrifts andrifts cddrifts ctdrifts), sldrifts⟩) (cdrifts : PySem.W.codeIn K cddrifts "drifts" = true) (kdrifts : PySem.W.keepIn K (.ref fdrifts) = true)
    (afixed : PySem.W.nsIn K mainGlobals "fixed" = some (some (.ref ffixed))) (lfixed : K.lookup ffixed = some ⟨ocfixed, odfixed, .func (PySem.W.fnOf "fixed" "fixed" (defArgs s_fixed) (defBody s_fixed) (defScope s_fixed) .none kVfixed dcfixed pmfixed anfixed cdfixed ctfixed), slfixed⟩) (cfixed : PySem.W.codeIn K cdfixed "fixed" = true) (kfixed : PySem.W.keepIn K (.ref ffixed) = true)
    (arest : PySem.W.nsIn K mainGlobals "rest" = some (some (.ref frest))) (lrest : K.lookup frest = some ⟨ocrest, odrest, .func (PySem.W.fnOf "rest" "rest" (defArgs s_rest) (defBody s_rest) (defScope s_rest) .none kVrest dcrest pmrest anrest cdrest ctrest), slrest⟩) (crest : PySem.W.codeIn K cdrest "rest" = true) (krest : PySem.W.keepIn K (.ref frest) = true)
    (arounds_on : PySem.W.nsIn K mainGlobals "rounds_on" = some (some (.ref frounds_on))) (lrounds_on : K.lookup frounds_on = some ⟨ocrounds_on, odrounds_on, .func (PySem.W.fnOf "rounds_on" "rounds_on" (defArgs s_rounds_on) (defBody s_rounds_on) (defScope s_rounds_on) .none kVrounds_on dcrounds_on pmrounds_on anrounds_on cdrounds_on ctrounds_on), slrounds_on⟩) (crounds_on : PySem.W.codeIn K cdrounds_on "rounds_on" = true) (krounds_on : PySem.W.keepIn K (.ref frounds_on) = true)
    (arounds_from : PySem.W.nsIn K mainGlobals "rounds_from" = some (some (.ref frounds_from))) (lrounds_from : K.lookup frounds_from = some ⟨ocrounds_from, odrounds_from, .func (PySem.W.fnOf "rounds_from" "rounds_from" (defArgs s_rounds_from) (defBody s_rounds_from) (defScope s_rounds_from) .none kVrounds_from dcrounds_from pmrounds_from anrounds_from cdrounds_from ctrounds_from), slrounds_from⟩) (crounds_from : PySem.W.codeIn K cdrounds_from "rounds_from" = true) (krounds_from : PySem.W.keepIn K (.ref frounds_from) = true)
    (arounds : PySem.W.nsIn K mainGlobals "rounds" = some (some (.ref frounds))) (lrounds : K.lookup frounds = some ⟨ocrounds, odrounds, .func (PySem.W.fnOf "rounds" "rounds" (defArgs s_rounds) (defBody s_rounds) (defScope s_rounds) .none kVrounds dcrounds pmrounds anrounds cdrounds ctrounds), slrounds⟩) (crounds : PySem.W.codeIn K cdrounds "rounds" = true) (krounds : PySem.W.keepIn K (.ref frounds) = true)
    (aleast_with : PySem.W.nsIn K mainGlobals "least_with" = some (some (.ref fleast_with))) (lleast_with : K.lookup fleast_with = some ⟨ocleast_with, odleast_with, .func (PySem.W.fnOf "least_with" "least_with" (defArgs s_least_with) (defBody s_least_with) (defScope s_least_with) .none kVleast_with dcleast_with pmleast_with anleast_with cdleast_with ctleast_with), slleast_with⟩) (cleast_with : PySem.W.codeIn K cdleast_with "least_with" = true) (kleast_with : PySem.W.keepIn K (.ref fleast_with) = true)
    (aslowest : PySem.W.nsIn K mainGlobals "slowest" = some (some (.ref fslowest))) (lslowest : K.lookup fslowest = some ⟨ocslowest, odslowest, .func (PySem.W.fnOf "slowest" "slowest" (defArgs s_slowest) (defBody s_slowest) (defScope s_slowest) .none kVslowest dcslowest pmslowest anslowest cdslowest ctslowest), slslowest⟩) (cslowest : PySem.W.codeIn K cdslowest "slowest" = true) (kslowest : PySem.W.keepIn K (.ref fslowest) = true)
    (alaw_seed : PySem.W.nsIn K mainGlobals "_law_seed" = some (some (.ref flaw_seed))) (llaw_seed : K.lookup flaw_seed = some ⟨oclaw_seed, odlaw_seed, .func (PySem.W.fnOf "_law_seed" "_law_seed" (defArgs s__law_seed) (defBody s__law_seed) (defScope s__law_seed) .none kVlaw_seed dclaw_seed pmlaw_seed anlaw_seed cdlaw_seed ctlaw_seed), sllaw_seed⟩) (claw_seed : PySem.W.codeIn K cdlaw_seed "_law_seed" = true) (klaw_seed : PySem.W.keepIn K (.ref flaw_seed) = true)
    (alaw_choose : PySem.W.nsIn K mainGlobals "_law_choose" = some (some (.ref flaw_choose))) (llaw_choose : K.lookup flaw_choose = some ⟨oclaw_choose, odlaw_choose, .func (PySem.W.fnOf "_law_choose" "_law_choose" (defArgs s__law_choose) (defBody s__law_choose) (defScope s__law_choose) .none kVlaw_choose dclaw_choose pmlaw_choose anlaw_choose cdlaw_choose ctlaw_choose), sllaw_choose⟩) (claw_choose : PySem.W.codeIn K cdlaw_choose "_law_choose" = true) (klaw_choose : PySem.W.keepIn K (.ref flaw_choose) = true)
    (alaw_one_of : PySem.W.nsIn K mainGlobals "_law_one_of" = some (some (.ref flaw_one_of))) (llaw_one_of : K.lookup flaw_one_of = some ⟨oclaw_one_of, odlaw_one_of, .func (PySem.W.fnOf "_law_one_of" "_law_one_of" (defArgs s__law_one_of) (defBody s__law_one_of) (defScope s__law_one_of) .none kVlaw_one_of dclaw_one_of pmlaw_one_of anlaw_one_of cdlaw_one_of ctlaw_one_of), sllaw_one_of⟩) (claw_one_of : PySem.W.codeIn K cdlaw_one_of "_law_one_of" = true) (klaw_one_of : PySem.W.keepIn K (.ref flaw_one_of) = true)
    (alaw_table : PySem.W.nsIn K mainGlobals "_law_table" = some (some (.ref flaw_table))) (llaw_table : K.lookup flaw_table = some ⟨oclaw_table, odlaw_table, .func (PySem.W.fnOf "_law_table" "_law_table" (defArgs s__law_table) (defBody s__law_table) (defScope s__law_table) .none kVlaw_table dclaw_table pmlaw_table anlaw_table cdlaw_table ctlaw_table), sllaw_table⟩) (claw_table : PySem.W.codeIn K cdlaw_table "_law_table" = true) (klaw_table : PySem.W.keepIn K (.ref flaw_table) = true)
    (alaw_passage : PySem.W.nsIn K mainGlobals "_law_passage" = some (some (.ref flaw_passage))) (llaw_passage : K.lookup flaw_passage = some ⟨oclaw_passage, odlaw_passage, .func (PySem.W.fnOf "_law_passage" "_law_passage" (defArgs s__law_passage) (defBody s__law_passage) (defScope s__law_passage) .none kVlaw_passage dclaw_passage pmlaw_passage anlaw_passage cdlaw_passage ctlaw_passage), sllaw_passage⟩) (claw_passage : PySem.W.codeIn K cdlaw_passage "_law_passage" = true) (klaw_passage : PySem.W.keepIn K (.ref flaw_passage) = true)
    (alaw_results : PySem.W.nsIn K mainGlobals "_law_results" = some (some (.ref flaw_results))) (llaw_results : K.lookup flaw_results = some ⟨oclaw_results, odlaw_results, .func (PySem.W.fnOf "_law_results" "_law_results" (defArgs s__law_results) (defBody s__law_results) (defScope s__law_results) .none kVlaw_results dclaw_results pmlaw_results anlaw_results cdlaw_results ctlaw_results), sllaw_results⟩) (claw_results : PySem.W.codeIn K cdlaw_results "_law_results" = true) (klaw_results : PySem.W.keepIn K (.ref flaw_results) = true)
    (alaw_run : PySem.W.nsIn K mainGlobals "_law_run" = some (some (.ref flaw_run))) (llaw_run : K.lookup flaw_run = some ⟨oclaw_run, odlaw_run, .func (PySem.W.fnOf "_law_run" "_law_run" (defArgs s__law_run) (defBody s__law_run) (defScope s__law_run) .none kVlaw_run dclaw_run pmlaw_run anlaw_run cdlaw_run ctlaw_run), sllaw_run⟩) (claw_run : PySem.W.codeIn K cdlaw_run "_law_run" = true) (klaw_run : PySem.W.keepIn K (.ref flaw_run) = true)
    (alaw_stretches : PySem.W.nsIn K mainGlobals "_law_stretches" = some (some (.ref flaw_stretches))) (llaw_stretches : K.lookup flaw_stretches = some ⟨oclaw_stretches, odlaw_stretches, .func (PySem.W.fnOf "_law_stretches" "_law_stretches" (defArgs s__law_stretches) (defBody s__law_stretches) (defScope s__law_stretches) .none kVlaw_stretches dclaw_stretches pmlaw_stretches anlaw_stretches cdlaw_stretches ctlaw_stretches), sllaw_stretches⟩) (claw_stretches : PySem.W.codeIn K cdlaw_stretches "_law_stretches" = true) (klaw_stretches : PySem.W.keepIn K (.ref flaw_stretches) = true)
    (alaw : PySem.W.nsIn K mainGlobals "law" = some (some (.ref flaw))) (llaw : K.lookup flaw = some ⟨oclaw, odlaw, .func (PySem.W.fnOf "law" "law" (defArgs s_law) (defBody s_law) (defScope s_law) .none kVlaw dclaw pmlaw anlaw cdlaw ctlaw), sllaw⟩) (claw : PySem.W.codeIn K cdlaw "law" = true) (klaw : PySem.W.keepIn K (.ref flaw) = true)
    (zisinstance : PySem.W.nsIn K mainGlobals "isinstance" = some none)
    (zint : PySem.W.nsIn K mainGlobals "int" = some none)
    (zbool : PySem.W.nsIn K mainGlobals "bool" = some none)
    (zstr : PySem.W.nsIn K mainGlobals "str" = some none)
    (zlist : PySem.W.nsIn K mainGlobals "list" = some none)
    (ztuple : PySem.W.nsIn K mainGlobals "tuple" = some none)
    (zlen : PySem.W.nsIn K mainGlobals "len" = some none)
    (zall : PySem.W.nsIn K mainGlobals "all" = some none)
    (zrange : PySem.W.nsIn K mainGlobals "range" = some none)
    (zenumerate : PySem.W.nsIn K mainGlobals "enumerate" = some none)
    (zmin : PySem.W.nsIn K mainGlobals "min" = some none)
    (zmax : PySem.W.nsIn K mainGlobals "max" = some none)
    (zabs : PySem.W.nsIn K mainGlobals "abs" = some none)
    (zsorted : PySem.W.nsIn K mainGlobals "sorted" = some none)
    (zrepr : PySem.W.nsIn K mainGlobals "repr" = some none)
    (aP : PySem.W.nsIn K mainGlobals "Passage" = some (some (.ref C))) (aE : PySem.W.nsIn K mainGlobals "InvalidPassage" = some (some (.ref CE)))
    (xE : K.lookup CE = some (excClassObj nm q CE N bs bm true sn sub ab col dd m0 m1 m2 m3 m5 "ValueError.__new__")) (rE : PySem.HandSPX.refsVE bm = true)
    (saE : PySem.W.findIn K (.ref CE) "__setattr__" = some (some (.builtin "object.__setattr__"))) (gaE : PySem.W.findIn K (.ref CE) "__getattribute__" = some (some (.builtin "BaseException.__getattribute__"))) (ggE : PySem.W.findIn K (.ref CE) "__getattr__" = some none) (nbE : PySem.W.findIn K (.ref CE) "word" = some none)
    (iE : PySem.W.findIn K (.ref CE) "__init__" = some (some (.ref fE))) (tE : PySem.W.typeIn K (.ref fE) = some (.type "function"))
    (lE : K.lookup fE = some ⟨ocE, odE, .func (PySem.W.fnOf "__init__" "InvalidPassage.__init__" (L2.defArgs s_IP) (L2.defBody s_IP) (L2.defScope s_IP) .none .none dcE pmE anE cdE ctE), slE⟩) (cE : PySem.W.codeIn K cdE "InvalidPassage.__init__" = true)
    (kE : PySem.W.keepIn K (.ref CE) = true) (eE : PySem.W.subIn K (.ref CE) (.type "BaseException") = some true) (tyE : PySem.W.typeIn K (.ref CE) = some (.type "type")) (hE : PySem.W.hasDictIn K CE = true) (sE : PySem.W.subIn K (.ref CE) (.ref CE) = some true)
    (pg : PySem.W.plainGet K C Str.empty = true) (hd : PySem.W.hasDictIn K C = true) (po : PySem.W.plainOver K C = true) (sa : PySem.W.findIn K (.ref C) "__setattr__" = some (some (.builtin "object.__setattr__"))) (mk : PySem.W.makesIn K C = true) (kc : PySem.W.keepIn K (.ref C) = true)
    (nt : PySem.W.findIn K (.ref C) "top" = some none) (ng : PySem.W.findIn K (.ref C) "target" = some none) (np : PySem.W.findIn K (.ref C) "pieces" = some none)
    (rd : PySem.W.readsIn K C mc = true) (ga : PySem.W.specialIn K (.ref C) "__getattribute__" = some (some (.builtin "type.__getattribute__")))
    (ainit : PySem.W.findIn K (.ref C) "__init__" = some (some (.ref finit))) (linit : K.lookup finit = some ⟨ocinit, odinit, .func (PySem.W.fnOf "__init__" "Passage.__init__" (defArgs s_init) (defBody s_init) (defScope s_init) .none kVinit dcinit pminit aninit cdinit ctinit), slinit⟩) (cinit : PySem.W.codeIn K cdinit "Passage.__init__" = true) (kinit : PySem.W.keepIn K (.ref finit) = true)
    (iinit : PySem.W.isFn K (.ref finit) = true)
    (gtable : PySem.W.findCls K (.ref C) mc "table" = some (.get (.builtin "classmethod.__get__") (.ref ptable) .none (.ref C)))
    (actable : PySem.W.recIn K ptable "classmethod" = some (.ref fctable :: rtable)) (lctable : K.lookup fctable = some ⟨occtable, odctable, .func (PySem.W.fnOf "table" "Passage.table" (defArgs s_table) (defBody s_table) (defScope s_table) .none kVctable dcctable pmctable anctable cdctable ctctable), slctable⟩) (cctable : PySem.W.codeIn K cdctable "Passage.table" = true) (kctable : PySem.W.keepIn K (.ref fctable) = true)
    (itable : PySem.W.fnIn K fctable = true)
    (gsame : PySem.W.findCls K (.ref C) mc "same" = some (.get (.builtin "classmethod.__get__") (.ref psame) .none (.ref C)))
    (acsame : PySem.W.recIn K psame "classmethod" = some (.ref fcsame :: rsame)) (lcsame : K.lookup fcsame = some ⟨occsame, odcsame, .func (PySem.W.fnOf "same" "Passage.same" (defArgs s_same) (defBody s_same) (defScope s_same) .none kVcsame dccsame pmcsame ancsame cdcsame ctcsame), slcsame⟩) (ccsame : PySem.W.codeIn K cdcsame "Passage.same" = true) (kcsame : PySem.W.keepIn K (.ref fcsame) = true)
    (isame : PySem.W.fnIn K fcsame = true)
    (acall : PySem.W.findIn K (.ref C) "__call__" = some (some (.ref fcall))) (lcall : K.lookup fcall = some ⟨occall, odcall, .func (PySem.W.fnOf "__call__" "Passage.__call__" (defArgs s_call) (defBody s_call) (defScope s_call) .none kVcall dccall pmcall ancall cdcall ctcall), slcall⟩) (ccall : PySem.W.codeIn K cdcall "Passage.__call__" = true) (kcall : PySem.W.keepIn K (.ref fcall) = true)
    (icall : PySem.W.isFn K (.ref fcall) = true) (jcall : PySem.W.fnIn K fcall = true) :
    ∃ fd : FuncData, (∀ (s : Shared) (v : Value), BindsTo s fd ⟨[v], []⟩ [("_law_script", v)]) ∧ ∀ base : Heap, K.In base → base.Ns mainGlobals mg → FnGo l.prog w K mg base (L2.CX l.prog w) 8 fa fd ["_law_script"] (spD K LawF) := by
  have e := hfa.symm.trans (PySem.W.mg_of X G alaw)
  cases e
  have Fis_number := fun_mk (st := s_is_number) lis_number cis_number kis_number
  have bis_number : Binds K _ p_is_number [] := Fis_number.binds (ps := p_is_number) fun _ _ _ _ _ _ us hl => match us, hl with | [_], _ => rfl
  have Fis_value := fun_mk (st := s_is_value) lis_value cis_value kis_value
  have bis_value : Binds K _ p_is_value [] := Fis_value.binds (ps := p_is_value) fun _ _ _ _ _ _ us hl => match us, hl with | [_, _], _ => rfl
  have Fis_sequence := fun_mk (st := s_is_sequence) lis_sequence cis_sequence kis_sequence
  have bis_sequence : Binds K _ p_is_sequence [] := Fis_sequence.binds (ps := p_is_sequence) fun _ _ _ _ _ _ us hl => match us, hl with | [_], _ => rfl
  have Fis_table := fun_mk (st := s_is_table) lis_table cis_table kis_table
  have bis_table : Binds K _ p_is_table [] := Fis_table.binds (ps := p_is_table) fun _ _ _ _ _ _ us hl => match us, hl with | [_, _], _ => rfl
  have Fvalue_at := fun_mk (st := s_value_at) lvalue_at cvalue_at kvalue_at
  have bvalue_at : Binds K _ p_value_at [] := Fvalue_at.binds (ps := p_value_at) fun _ _ _ _ _ _ us hl => match us, hl with | [_, _], _ => rfl
  have Fvalue_on := fun_mk (st := s_value_on) lvalue_on cvalue_on kvalue_on
  have bvalue_on : Binds K _ p_value_on [] := Fvalue_on.binds (ps := p_value_on) fun _ _ _ _ _ _ us hl => match us, hl with | [_, _], _ => rfl
  have Flast_value := fun_mk (st := s_last_value) llast_value clast_value klast_value
  have blast_value : Binds K _ p_last_value [] := Flast_value.binds (ps := p_last_value) fun _ _ _ _ _ _ us hl => match us, hl with | [_], _ => rfl
  have Fstays_within := fun_mk (st := s_stays_within) lstays_within cstays_within kstays_within
  have bstays_within : Binds K _ p_stays_within [] := Fstays_within.binds (ps := p_stays_within) fun _ _ _ _ _ _ us hl => match us, hl with | [_, _], _ => rfl
  have Fnormal := fun_mk (st := s_normal) lnormal cnormal knormal
  have bnormal : Binds K _ p_normal [] := Fnormal.binds (ps := p_normal) fun _ _ _ _ _ _ us hl => match us, hl with | [_], _ => rfl
  have Fstretches := fun_mk (st := s_stretches) lstretches cstretches kstretches
  have bstretches : Binds K _ p_stretches [] := Fstretches.binds (ps := p_stretches) fun _ _ _ _ _ _ us hl => match us, hl with | [_, _], _ => rfl
  have Fis_piece := fun_mk (st := s_is_piece) lis_piece cis_piece kis_piece
  have bis_piece : Binds K _ p_is_piece [] := Fis_piece.binds (ps := p_is_piece) fun _ _ _ _ _ _ us hl => match us, hl with | [_], _ => rfl
  have Fare_pieces := fun_mk (st := s_are_pieces) lare_pieces care_pieces kare_pieces
  have bare_pieces : Binds K _ p_are_pieces [] := Fare_pieces.binds (ps := p_are_pieces) fun _ _ _ _ _ _ us hl => match us, hl with | [_, _], _ => rfl
  have Flesser := fun_mk (st := s_lesser) llesser clesser klesser
  have blesser : Binds K _ p_lesser [] := Flesser.binds (ps := p_lesser) fun _ _ _ _ _ _ us hl => match us, hl with | [_, _], _ => rfl
  have Fgreater := fun_mk (st := s_greater) lgreater cgreater kgreater
  have bgreater : Binds K _ p_greater [] := Fgreater.binds (ps := p_greater) fun _ _ _ _ _ _ us hl => match us, hl with | [_, _], _ => rfl
  have Fpassage_of := fun_mk (st := s_passage_of) lpassage_of cpassage_of kpassage_of
  have bpassage_of : Binds K _ p_passage_of [] := Fpassage_of.binds (ps := p_passage_of) fun _ _ _ _ _ _ us hl => match us, hl with | [_, _, _], _ => rfl
  have Frows_of := fun_mk (st := s_rows_of) lrows_of crows_of krows_of
  have brows_of : Binds K _ p_rows_of [] := Frows_of.binds (ps := p_rows_of) fun _ _ _ _ _ _ us hl => match us, hl with | [_], _ => rfl
  have Fcheck_steady := fun_mk (st := s_check_steady) lcheck_steady ccheck_steady kcheck_steady
  have bcheck_steady : Binds K _ p_check_steady [] := Fcheck_steady.binds (ps := p_check_steady) fun _ _ _ _ _ _ us hl => match us, hl with | [_], _ => rfl
  have Fsign := fun_mk (st := s_sign) lsign csign ksign
  have bsign : Binds K _ p_sign [] := Fsign.binds (ps := p_sign) fun _ _ _ _ _ _ us hl => match us, hl with | [_], _ => rfl
  have Fdrifts_on := fun_mk (st := s_drifts_on) ldrifts_on cdrifts_on kdrifts_on
  have bdrifts_on : Binds K _ p_drifts_on [] := Fdrifts_on.binds (ps := p_drifts_on) fun _ _ _ _ _ _ us hl => match us, hl with | [_], _ => rfl
  have Fdrifts := fun_mk (st := s_drifts) ldrifts cdrifts kdrifts
  have bdrifts : Binds K _ p_drifts [] := Fdrifts.binds (ps := p_drifts) fun _ _ _ _ _ _ us hl => match us, hl with | [_], _ => rfl
  have Ffixed := fun_mk (st := s_fixed) lfixed cfixed kfixed
  have bfixed : Binds K _ p_fixed [] := Ffixed.binds (ps := p_fixed) fun _ _ _ _ _ _ us hl => match us, hl with | [_], _ => rfl
  have Frest := fun_mk (st := s_rest) lrest crest krest
  have brest : Binds K _ p_rest [] := Frest.binds (ps := p_rest) fun _ _ _ _ _ _ us hl => match us, hl with | [_], _ => rfl
  have Frounds_on := fun_mk (st := s_rounds_on) lrounds_on crounds_on krounds_on
  have brounds_on : Binds K _ p_rounds_on [] := Frounds_on.binds (ps := p_rounds_on) fun _ _ _ _ _ _ us hl => match us, hl with | [_, _], _ => rfl
  have Frounds_from := fun_mk (st := s_rounds_from) lrounds_from crounds_from krounds_from
  have brounds_from : Binds K _ p_rounds_from [] := Frounds_from.binds (ps := p_rounds_from) fun _ _ _ _ _ _ us hl => match us, hl with | [_, _], _ => rfl
  have Frounds := fun_mk (st := s_rounds) lrounds crounds krounds
  have brounds : Binds K _ p_rounds [] := Frounds.binds (ps := p_rounds) fun _ _ _ _ _ _ us hl => match us, hl with | [_, _], _ => rfl
  have Fleast_with := fun_mk (st := s_least_with) lleast_with cleast_with kleast_with
  have bleast_with : Binds K _ p_least_with [] := Fleast_with.binds (ps := p_least_with) fun _ _ _ _ _ _ us hl => match us, hl with | [_, _, _, _], _ => rfl
  have Fslowest := fun_mk (st := s_slowest) lslowest cslowest kslowest
  have bslowest : Binds K _ p_slowest [] := Fslowest.binds (ps := p_slowest) fun _ _ _ _ _ _ us hl => match us, hl with | [_], _ => rfl
  have Flaw_seed := fun_mk (st := s__law_seed) llaw_seed claw_seed klaw_seed
  have blaw_seed : Binds K _ p__law_seed [] := Flaw_seed.binds (ps := p__law_seed) fun _ _ _ _ _ _ us hl => match us, hl with | [_, _], _ => rfl
  have Flaw_choose := fun_mk (st := s__law_choose) llaw_choose claw_choose klaw_choose
  have blaw_choose : Binds K _ p__law_choose [] := Flaw_choose.binds (ps := p__law_choose) fun _ _ _ _ _ _ us hl => match us, hl with | [_, _], _ => rfl
  have Flaw_one_of := fun_mk (st := s__law_one_of) llaw_one_of claw_one_of klaw_one_of
  have blaw_one_of : Binds K _ p__law_one_of [] := Flaw_one_of.binds (ps := p__law_one_of) fun _ _ _ _ _ _ us hl => match us, hl with | [_, _], _ => rfl
  have Flaw_table := fun_mk (st := s__law_table) llaw_table claw_table klaw_table
  have blaw_table : Binds K _ p__law_table [] := Flaw_table.binds (ps := p__law_table) fun _ _ _ _ _ _ us hl => match us, hl with | [_, _, _], _ => rfl
  have Flaw_passage := fun_mk (st := s__law_passage) llaw_passage claw_passage klaw_passage
  have blaw_passage : Binds K _ p__law_passage [] := Flaw_passage.binds (ps := p__law_passage) fun _ _ _ _ _ _ us hl => match us, hl with | [_, _], _ => rfl
  have Flaw_results := fun_mk (st := s__law_results) llaw_results claw_results klaw_results
  have blaw_results : Binds K _ p__law_results [] := Flaw_results.binds (ps := p__law_results) fun _ _ _ _ _ _ us hl => match us, hl with | [_], _ => rfl
  have Flaw_run := fun_mk (st := s__law_run) llaw_run claw_run klaw_run
  have blaw_run : Binds K _ p__law_run [] := Flaw_run.binds (ps := p__law_run) fun _ _ _ _ _ _ us hl => match us, hl with | [_, _], _ => rfl
  have Flaw_stretches := fun_mk (st := s__law_stretches) llaw_stretches claw_stretches klaw_stretches
  have blaw_stretches : Binds K _ p__law_stretches [] := Flaw_stretches.binds (ps := p__law_stretches) fun _ _ _ _ _ _ us hl => match us, hl with | [_], _ => rfl
  have Flaw := fun_mk (st := s_law) llaw claw klaw
  have Finit := fun_mk (st := s_init) linit cinit kinit
  have binit : Binds K _ p_init [] := Finit.binds (ps := p_init) fun _ _ _ _ _ _ us hl => match us, hl with | [_, _, _, _], _ => rfl
  have Fctable := fun_mk (st := s_table) lctable cctable kctable
  have bctable : Binds K _ p_table [] := Fctable.binds (ps := p_table) fun _ _ _ _ _ _ us hl => match us, hl with | [_, _, _], _ => rfl
  have Fcsame := fun_mk (st := s_same) lcsame ccsame kcsame
  have bcsame : Binds K _ p_same [] := Fcsame.binds (ps := p_same) fun _ _ _ _ _ _ us hl => match us, hl with | [_, _], _ => rfl
  have Fcall := fun_mk (st := s_call) lcall ccall kcall
  have bcall : Binds K _ p_call [] := Fcall.binds (ps := p_call) fun _ _ _ _ _ _ us hl => match us, hl with | [_, _], _ => rfl
  have B : Bl mg := ⟨PySem.W.mg_none_of X G zisinstance, PySem.W.mg_none_of X G zint, PySem.W.mg_none_of X G zbool, PySem.W.mg_none_of X G zstr, PySem.W.mg_none_of X G zlist, PySem.W.mg_none_of X G ztuple, PySem.W.mg_none_of X G zlen, PySem.W.mg_none_of X G zall, PySem.W.mg_none_of X G zrange, PySem.W.mg_none_of X G zenumerate, PySem.W.mg_none_of X G zmin, PySem.W.mg_none_of X G zmax, PySem.W.mg_none_of X G zabs⟩
  have T : PTxt K C := ⟨⟨pg, hd, po, sa⟩, nt, ng, np⟩
  have gP := PySem.W.mg_of X G aP
  have TE : PySem.LowX_ip.LowTxt K mg CE fE :=
    { gC := PySem.W.mg_of X G aE, cls := ⟨nm, q, N, bs, bm, sn, sub, ab, col, dd, m0, m1, m2, m3, m5, xE, rE⟩, sa := saE, ga := gaE, gg := ggE, noN := nbE, iC := iE, tC := tE, kC := kE, exC := eE, tyC := tyE, hdC := hE, te := PySem.W.exm_ref eE hE tyE sE,
      fn := ⟨_, _, _, _, _, _, _, _, lE, cE⟩ }
  refine ⟨PySem.W.fnOf "law" "law" (defArgs s_law) (defBody s_law) (defScope s_law) .none kVlaw dclaw pmlaw anlaw cdlaw ctlaw, fun s v => .of_eq rfl, fun base _ _ => ?_⟩
  have Cis_number : Cal l.prog w K mg base 1 "is_number" F_is_number := ⟨fis_number, PySem.W.mg_of X G ais_number, kis_number, ok_is_number B Fis_number bis_number⟩
  have Cis_value : Cal l.prog w K mg base 2 "is_value" F_is_value := ⟨fis_value, PySem.W.mg_of X G ais_value, kis_value, ok_is_value Cis_number Fis_value bis_value⟩
  have Cis_sequence : Cal l.prog w K mg base 1 "is_sequence" F_is_sequence := ⟨fis_sequence, PySem.W.mg_of X G ais_sequence, kis_sequence, ok_is_sequence B Fis_sequence bis_sequence⟩
  have Cis_table : Cal l.prog w K mg base 3 "is_table" F_is_table := ⟨fis_table, PySem.W.mg_of X G ais_table, kis_table, ok_is_table B Cis_value Cis_sequence Fis_table bis_table⟩
  have Cvalue_on : Cal l.prog w K mg base 1 "value_on" F_value_on := ⟨fvalue_on, PySem.W.mg_of X G avalue_on, kvalue_on, ok_value_on  Fvalue_on bvalue_on⟩
  have Clast_value : Cal l.prog w K mg base 2 "last_value" F_last_value := ⟨flast_value, PySem.W.mg_of X G alast_value, klast_value, ok_last_value Cvalue_on Flast_value blast_value⟩
  have Cstays_within : Cal l.prog w K mg base 3 "stays_within" F_stays_within := ⟨fstays_within, PySem.W.mg_of X G astays_within, kstays_within, ok_stays_within Clast_value Fstays_within bstays_within⟩
  have Cnormal : Cal l.prog w K mg base 3 "normal" F_normal := ⟨fnormal, PySem.W.mg_of X G anormal, knormal, ok_normal B Cvalue_on Clast_value Fnormal bnormal⟩
  have Cvalue_at : Cal l.prog w K mg base 1 "value_at" F_value_at := ⟨fvalue_at, PySem.W.mg_of X G avalue_at, kvalue_at, ok_value_at B Fvalue_at bvalue_at⟩
  have Cstretches : Cal l.prog w K mg base 1 "stretches" F_stretches := ⟨fstretches, PySem.W.mg_of X G astretches, kstretches, ok_stretches B Fstretches bstretches⟩
  have Cis_piece : Cal l.prog w K mg base 2 "is_piece" F_is_piece := ⟨fis_piece, PySem.W.mg_of X G ais_piece, kis_piece, ok_is_piece B Cis_number Fis_piece bis_piece⟩
  have Care_pieces : Cal l.prog w K mg base 3 "are_pieces" F_are_pieces := ⟨fare_pieces, PySem.W.mg_of X G aare_pieces, kare_pieces, ok_are_pieces B Cis_piece Cis_sequence Fare_pieces bare_pieces⟩
  have Mp : Mak l.prog w K mg base 4 "Passage" C (F_init C CE) := ⟨finit, gP, ⟨mk, ainit, iinit, kc⟩, ok_init T TE Cis_number Care_pieces Cstretches Cstays_within Cnormal Finit binit⟩
  have Ct : CMt l.prog w K mg base 6 C "table" (F_table C CE) := ⟨mc, ptable, fctable, ⟨rd, ga⟩, ⟨gtable, ⟨_, actable⟩, itable⟩, ok_table B TE Cis_number Cis_table Mp Fctable bctable⟩
  have Cs : CMt l.prog w K mg base 6 C "same" (F_same C) := ⟨mc, psame, fcsame, ⟨rd, ga⟩, ⟨gsame, ⟨_, acsame⟩, isame⟩, ok_same Mp Fcsame bcsame⟩
  have Cc : CalO l.prog w K mg base 3 C (F_pcall C) := ⟨fcall, ⟨acall, icall, jcall⟩, ok_pcall T Cis_value Cvalue_at Fcall bcall⟩
  have hrepr := PySem.W.mg_none_of X G zrepr
  have Clesser : Cal l.prog w K mg base 1 "lesser" F_lesser := ⟨flesser, PySem.W.mg_of X G alesser, klesser, ok_lesser  Flesser blesser⟩
  have Cgreater : Cal l.prog w K mg base 1 "greater" F_greater := ⟨fgreater, PySem.W.mg_of X G agreater, kgreater, ok_greater  Fgreater bgreater⟩
  have Cpassage_of : Cal l.prog w K mg base 6 "passage_of" (F_passage_of C) := ⟨fpassage_of, PySem.W.mg_of X G apassage_of, kpassage_of, ok_passage_of Mp Fpassage_of bpassage_of⟩
  have Crows_of : Cal l.prog w K mg base 2 "rows_of" (F_rows_of C) := ⟨frows_of, PySem.W.mg_of X G arows_of, krows_of, ok_rows_of T Cstretches Frows_of brows_of⟩
  have Ccheck_steady : Cal l.prog w K mg base 1 "check_steady" (F_steady C) := ⟨fcheck_steady, PySem.W.mg_of X G acheck_steady, kcheck_steady, ok_steady T Fcheck_steady bcheck_steady⟩
  have Csign : Cal l.prog w K mg base 1 "sign" F_sign := ⟨fsign, PySem.W.mg_of X G asign, ksign, ok_sign  Fsign bsign⟩
  have Cdrifts_on : Cal l.prog w K mg base 2 "drifts_on" F_dron := ⟨fdrifts_on, PySem.W.mg_of X G adrifts_on, kdrifts_on, ok_dron Csign Clesser Cgreater Fdrifts_on bdrifts_on⟩
  have Cdrifts : Cal l.prog w K mg base 3 "drifts" (F_drifts C) := ⟨fdrifts, PySem.W.mg_of X G adrifts, kdrifts, ok_drifts Crows_of Cdrifts_on Fdrifts bdrifts⟩
  have Cfixed : Cal l.prog w K mg base 4 "fixed" (F_fixed C) := ⟨ffixed, PySem.W.mg_of X G afixed, kfixed, ok_fixed B Ccheck_steady Cdrifts Ffixed bfixed⟩
  have Crest : Cal l.prog w K mg base 7 "rest" (F_rest C) := ⟨frest, PySem.W.mg_of X G arest, krest, ok_rest B T Cfixed Cdrifts Cpassage_of Frest brest⟩
  have Crounds_on : Cal l.prog w K mg base 2 "rounds_on" F_ron := ⟨frounds_on, PySem.W.mg_of X G arounds_on, krounds_on, ok_ron B Cvalue_on Frounds_on brounds_on⟩
  have Crounds_from : Cal l.prog w K mg base 3 "rounds_from" F_rfrom := ⟨frounds_from, PySem.W.mg_of X G arounds_from, krounds_from, ok_rfrom Cvalue_on Crounds_on Frounds_from brounds_from⟩
  have Crounds : Cal l.prog w K mg base 4 "rounds" (F_rounds C) := ⟨frounds, PySem.W.mg_of X G arounds, krounds, ok_rounds T Ccheck_steady Cis_value Crows_of Crounds_from Frounds brounds⟩
  have Cleast_with : Cal l.prog w K mg base 4 "least_with" F_lwith := ⟨fleast_with, PySem.W.mg_of X G aleast_with, kleast_with, ok_lwith Crounds_from Fleast_with bleast_with⟩
  have Cslowest : Cal l.prog w K mg base 5 "slowest" (F_slowest C) := ⟨fslowest, PySem.W.mg_of X G aslowest, kslowest, ok_slowest Ccheck_steady Crows_of Cdrifts Crounds_from Cleast_with Fslowest bslowest⟩
  have Claw_seed : Cal l.prog w K mg base 1 "_law_seed" F_seed := ⟨flaw_seed, PySem.W.mg_of X G alaw_seed, klaw_seed, ok_seed B Flaw_seed blaw_seed⟩
  have Claw_choose : Cal l.prog w K mg base 1 "_law_choose" F_choose := ⟨flaw_choose, PySem.W.mg_of X G alaw_choose, klaw_choose, ok_choose B Flaw_choose blaw_choose⟩
  have Claw_one_of : Cal l.prog w K mg base 2 "_law_one_of" F_one_of := ⟨flaw_one_of, PySem.W.mg_of X G alaw_one_of, klaw_one_of, ok_one_of B Claw_choose Flaw_one_of blaw_one_of⟩
  have Claw_table : Cal l.prog w K mg base 3 "_law_table" F_ltable := ⟨flaw_table, PySem.W.mg_of X G alaw_table, klaw_table, ok_ltable B Claw_choose Claw_one_of Flaw_table blaw_table⟩
  have Claw_passage : Cal l.prog w K mg base 7 "_law_passage" (F_lpassage C) := ⟨flaw_passage, PySem.W.mg_of X G alaw_passage, klaw_passage, ok_lpassage gP Ct Flaw_passage blaw_passage⟩
  have Claw_results : Cal l.prog w K mg base 4 "_law_results" (F_lresults C) := ⟨flaw_results, PySem.W.mg_of X G alaw_results, klaw_results, ok_lresults B T Cc Flaw_results blaw_results⟩
  have Claw_run : Cal l.prog w K mg base 2 "_law_run" F_lrun := ⟨flaw_run, PySem.W.mg_of X G alaw_run, klaw_run, ok_lrun  Flaw_run blaw_run⟩
  have Claw_stretches : Cal l.prog w K mg base 2 "_law_stretches" F_lstr := ⟨flaw_stretches, PySem.W.mg_of X G alaw_stretches, klaw_stretches, ok_lstr B Flaw_stretches blaw_stretches⟩
  exact ok_law B hrepr Claw_passage Claw_results Crest Cfixed Crounds Cslowest Claw_seed Claw_choose Claw_one_of Claw_table Claw_run Claw_stretches Flaw
end Kf
open PySem PySem.W PyProof.Rows
set_option maxRecDepth 100000 in
set_option maxHeartbeats 0 in
theorem PySem.Challenge.cw_scaleways_k35_tables_that_come_to_rest_holds : PySem.Challenge.rw_scaleways_k35_tables_that_come_to_rest.Holds := by
  w_on; o_law; k_head; (case hw => w_witness2)
  k_fill
  refine Dn.walkD (l := PySem.Challenge.rw_scaleways_k35_tables_that_come_to_rest) 8 rfl rfl ⟨⟨rfl, by decide, by decide⟩, rfl⟩ "_law_script" (fun w h Y => PySem.W.kIn_of Y) ?F
  case F =>
    intro w mg fa h KX G hmg
    refine' Kf.all_mk (mc := .type "type") KX G hmg ?ais_number ?lis_number ?cis_number ?kis_number ?ais_value ?lis_value ?cis_value ?kis_value ?ais_sequence ?lis_sequence ?cis_sequence ?kis_sequence ?ais_table ?lis_table ?cis_table ?kis_table ?avalue_at ?lvalue_at ?cvalue_at ?kvalue_at ?avalue_on ?lvalue_on ?cvalue_on ?kvalue_on ?alast_value ?llast_value ?clast_value ?klast_value ?astays_within ?lstays_within ?cstays_within ?kstays_within ?anormal ?lnormal ?cnormal ?knormal ?astretches ?lstretches ?cstretches ?kstretches ?ais_piece ?lis_piece ?cis_piece ?kis_piece ?aare_pieces ?lare_pieces ?care_pieces ?kare_pieces ?alesser ?llesser ?clesser ?klesser ?agreater ?lgreater ?cgreater ?kgreater ?apassage_of ?lpassage_of ?cpassage_of ?kpassage_of ?arows_of ?lrows_of ?crows_of ?krows_of ?acheck_steady ?lcheck_steady ?ccheck_steady ?kcheck_steady ?asign ?lsign ?csign ?ksign ?adrifts_on ?ldrifts_on ?cdrifts_on ?kdrifts_on ?adrifts ?ldrifts ?cdrifts ?kdrifts ?afixed ?lfixed ?cfixed ?kfixed ?arest ?lrest ?crest ?krest ?arounds_on ?lrounds_on ?crounds_on ?krounds_on ?arounds_from ?lrounds_from ?crounds_from ?krounds_from ?arounds ?lrounds ?crounds ?krounds ?aleast_with ?lleast_with ?cleast_with ?kleast_with ?aslowest ?lslowest ?cslowest ?kslowest ?alaw_seed ?llaw_seed ?claw_seed ?klaw_seed ?alaw_choose ?llaw_choose ?claw_choose ?klaw_choose ?alaw_one_of ?llaw_one_of ?claw_one_of ?klaw_one_of ?alaw_table ?llaw_table ?claw_table ?klaw_table ?alaw_passage ?llaw_passage ?claw_passage ?klaw_passage ?alaw_results ?llaw_results ?claw_results ?klaw_results ?alaw_run ?llaw_run ?claw_run ?klaw_run ?alaw_stretches ?llaw_stretches ?claw_stretches ?klaw_stretches ?alaw ?llaw ?claw ?klaw ?zisinstance ?zint ?zbool ?zstr ?zlist ?ztuple ?zlen ?zall ?zrange ?zenumerate ?zmin ?zmax ?zabs ?zsorted ?zrepr ?aP ?aE ?xE ?rE ?saE ?gaE ?ggE ?nbE ?iE ?tE ?lE ?cE ?kE ?eE ?tyE ?hE ?sE ?pg ?hd ?po ?sa ?mk ?kc ?nt ?ng ?np ?rd ?ga ?ainit ?linit ?cinit ?kinit ?iinit ?gtable ?actable ?lctable ?cctable ?kctable ?itable ?gsame ?acsame ?lcsame ?ccsame ?kcsame ?isame ?acall ?lcall ?ccall ?kcall ?icall ?jcall
    (case ais_number => k_is)
    (case lis_number => k_is)
    (case cis_number => k_is)
    (case kis_number => k_is)
    (case ais_value => k_is)
    (case lis_value => k_is)
    (case cis_value => k_is)
    (case kis_value => k_is)
    (case ais_sequence => k_is)
    (case lis_sequence => k_is)
    (case cis_sequence => k_is)
    (case kis_sequence => k_is)
    (case ais_table => k_is)
    (case lis_table => k_is)
    (case cis_table => k_is)
    (case kis_table => k_is)
    (case avalue_at => k_is)
    (case lvalue_at => k_is)
    (case cvalue_at => k_is)
    (case kvalue_at => k_is)
    (case avalue_on => k_is)
    (case lvalue_on => k_is)
    (case cvalue_on => k_is)
    (case kvalue_on => k_is)
    (case alast_value => k_is)
    (case llast_value => k_is)
    (case clast_value => k_is)
    (case klast_value => k_is)
    (case astays_within => k_is)
    (case lstays_within => k_is)
    (case cstays_within => k_is)
    (case kstays_within => k_is)
    (case anormal => k_is)
    (case lnormal => k_is)
    (case cnormal => k_is)
    (case knormal => k_is)
    (case astretches => k_is)
    (case lstretches => k_is)
    (case cstretches => k_is)
    (case kstretches => k_is)
    (case ais_piece => k_is)
    (case lis_piece => k_is)
    (case cis_piece => k_is)
    (case kis_piece => k_is)
    (case aare_pieces => k_is)
    (case lare_pieces => k_is)
    (case care_pieces => k_is)
    (case kare_pieces => k_is)
    (case alesser => k_is)
    (case llesser => k_is)
    (case clesser => k_is)
    (case klesser => k_is)
    (case agreater => k_is)
    (case lgreater => k_is)
    (case cgreater => k_is)
    (case kgreater => k_is)
    (case apassage_of => k_is)
    (case lpassage_of => k_is)
    (case cpassage_of => k_is)
    (case kpassage_of => k_is)
    (case arows_of => k_is)
    (case lrows_of => k_is)
    (case crows_of => k_is)
    (case krows_of => k_is)
    (case acheck_steady => k_is)
    (case lcheck_steady => k_is)
    (case ccheck_steady => k_is)
    (case kcheck_steady => k_is)
    (case asign => k_is)
    (case lsign => k_is)
    (case csign => k_is)
    (case ksign => k_is)
    (case adrifts_on => k_is)
    (case ldrifts_on => k_is)
    (case cdrifts_on => k_is)
    (case kdrifts_on => k_is)
    (case adrifts => k_is)
    (case ldrifts => k_is)
    (case cdrifts => k_is)
    (case kdrifts => k_is)
    (case afixed => k_is)
    (case lfixed => k_is)
    (case cfixed => k_is)
    (case kfixed => k_is)
    (case arest => k_is)
    (case lrest => k_is)
    (case crest => k_is)
    (case krest => k_is)
    (case arounds_on => k_is)
    (case lrounds_on => k_is)
    (case crounds_on => k_is)
    (case krounds_on => k_is)
    (case arounds_from => k_is)
    (case lrounds_from => k_is)
    (case crounds_from => k_is)
    (case krounds_from => k_is)
    (case arounds => k_is)
    (case lrounds => k_is)
    (case crounds => k_is)
    (case krounds => k_is)
    (case aleast_with => k_is)
    (case lleast_with => k_is)
    (case cleast_with => k_is)
    (case kleast_with => k_is)
    (case aslowest => k_is)
    (case lslowest => k_is)
    (case cslowest => k_is)
    (case kslowest => k_is)
    (case alaw_seed => k_is)
    (case llaw_seed => k_is)
    (case claw_seed => k_is)
    (case klaw_seed => k_is)
    (case alaw_choose => k_is)
    (case llaw_choose => k_is)
    (case claw_choose => k_is)
    (case klaw_choose => k_is)
    (case alaw_one_of => k_is)
    (case llaw_one_of => k_is)
    (case claw_one_of => k_is)
    (case klaw_one_of => k_is)
    (case alaw_table => k_is)
    (case llaw_table => k_is)
    (case claw_table => k_is)
    (case klaw_table => k_is)
    (case alaw_passage => k_is)
    (case llaw_passage => k_is)
    (case claw_passage => k_is)
    (case klaw_passage => k_is)
    (case alaw_results => k_is)
    (case llaw_results => k_is)
    (case claw_results => k_is)
    (case klaw_results => k_is)
    (case alaw_run => k_is)
    (case llaw_run => k_is)
    (case claw_run => k_is)
    (case klaw_run => k_is)
    (case alaw_stretches => k_is)
    (case llaw_stretches => k_is)
    (case claw_stretches => k_is)
    (case klaw_stretches => k_is)
    (case alaw => k_is)
    (case llaw => k_is)
    (case claw => k_is)
    (case klaw => k_is)
    (case zisinstance => k_is)
    (case zint => k_is)
    (case zbool => k_is)
    (case zstr => k_is)
    (case zlist => k_is)
    (case ztuple => k_is)
    (case zlen => k_is)
    (case zall => k_is)
    (case zrange => k_is)
    (case zenumerate => k_is)
    (case zmin => k_is)
    (case zmax => k_is)
    (case zabs => k_is)
    (case zsorted => k_is)
    (case zrepr => k_is)
    (case aP => k_is)
    (case aE => k_is)
    (case xE => k_is)
    (case rE => first | rfl | k_is)
    (case saE => k_is)
    (case gaE => k_is)
    (case ggE => k_is)
    (case nbE => k_is)
    (case iE => k_is)
    (case tE => k_is)
    (case lE => k_is)
    (case cE => k_is)
    (case kE => k_is)
    (case eE => k_is)
    (case tyE => k_is)
    (case hE => k_is)
    (case sE => first | rfl | k_is)
    (case pg => k_is)
    (case hd => k_is)
    (case po => k_is)
    (case sa => k_is)
    (case mk => k_is)
    (case kc => k_is)
    (case nt => k_is)
    (case ng => k_is)
    (case np => k_is)
    (case rd => k_is)
    (case ga => k_is)
    (case ainit => k_is)
    (case linit => k_is)
    (case cinit => k_is)
    (case kinit => k_is)
    (case iinit => k_is)
    (case gtable => k_is)
    (case actable => k_is)
    (case lctable => k_is)
    (case cctable => k_is)
    (case kctable => k_is)
    (case itable => k_is)
    (case gsame => k_is)
    (case acsame => k_is)
    (case lcsame => k_is)
    (case ccsame => k_is)
    (case kcsame => k_is)
    (case isame => k_is)
    (case acall => k_is)
    (case lcall => k_is)
    (case ccall => k_is)
    (case kcall => k_is)
    (case icall => k_is)
    (case jcall => k_is)
