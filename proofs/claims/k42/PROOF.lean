import PyProof.Rows.All
import Wide.All
import OpenK.AllK
import Wide.FinOn
import KE.OsRunLaw
import HandS.ForExc
import HandS.ForMost
import HandS.Star
import HandS.ClsMeth
import HandS.CallLocal
import HandS.IsInst
import HandS.TryOnly
import HandS.ExcIs
import KE.GoesMore
import HandS.TupLe
import HandS.SortInts
import KE.KExcIs
import PyProof.ReprRoads
import HandS.NoneIn
import HandS.Style
import KE.KOpsOwn
import HandS.List
import HandS.RaiseMore
import PyProof.ReprLen
import PyProof.ReprRoom
import PyProof.InstSpecial
import HandS.Small
import PyProof.ExcBaseAll.ValueError
import HandS.FStr
import HandS.Text
import HandS.StrMore
import HandS.Dict
import HandS.Iter
import HandS.DictComp
import HandS.SetKeys
import HandS.SetBool
import HandS.Strs
import HandS.Defaults
import PyProof.Rows.TupDisplay
import HandS.More
import PySem.Challenge.RW_scaleways_k42_values_that_are_reached
set_option Elab.async false
set_option linter.all false
set_option maxRecDepth 100000
set_option maxHeartbeats 4000000
namespace Hd
open PySem PySem.W PyProof.Rows HeadRun
abbrev rr : OpenLaw := PySem.Challenge.rw_scaleways_k42_values_that_are_reached
abbrev pp : Program := PySem.Challenge.pw_scaleways_k42_values_that_are_reached
def Grab (_ : Params → Frag) (_ : List Addr) (R : Prop) : Prop := R
theorem grab {S : Prop} (K : Params → Frag) (as : List Addr) (e : ∀ P, as = (K P).map (·.1)) {R : Prop} (h : (∀ P, as = (K P).map (·.1)) → S → Grab K as R) (s : S) : R := h e s
section
local macro_rules | `(tactic| o_headL (kHook $K $a $e)) => `(tactic| exact grab (S := rr.row.wellSaid = true) $K $a $e (by assumption) (by assumption))
set_option maxHeartbeats 0 in
noncomputable def hk : (K : Params → Frag) ×' (as : List Addr) ×' {R : Prop // ((∀ P, as = (K P).map (·.1)) → rr.row.wellSaid = true → Grab K as R) → rr.Holds} := by
  refine' ⟨_, _, ⟨_, fun h => ?g⟩⟩
  case g =>
    w_on; o_law; k_headL
end
theorem kas_eq : ∀ P, hk.2.1 = (hk.heap_39 P).map (·.1) := fun _ => by kernel_rfl
noncomputable def fr (t : BT) : ∀ {α : Type}, (BT → α) → α := BT.rec (motive := fun _ => ∀ {α : Type}, (BT → α) → α) (fun k => k .nil) (fun v _ _ hl hr _ k => hl fun l => hr fun r => k (.node v l r)) t
theorem fr_eq {α : Type} : ∀ (t : BT) (k : BT → α), fr t k = k t
  | .nil, _ => rfl
  | .node v l r, k => by
    show fr l (fun l' => fr r fun r' => k (.node v l' r')) = _
    rw [fr_eq l, fr_eq r]
noncomputable def frK {α : Type} (s : SharedT) (k : SharedT → α) : α := match s with
  | ⟨T, n, life, gens, drawn, toks, os⟩ => fr T fun T => k ⟨T, n, life, gens, drawn, toks, os⟩
theorem frK_eq {α : Type} (s : SharedT) (k : SharedT → α) : frK s k = k s := by
  obtain ⟨T, n, life, gens, drawn, toks, os⟩ := s
  exact fr_eq T _
def isLaw (st : Stmt) : Bool := match st with
  | .FunctionDef n _ _ _ _ _ _ _ _ _ => n == Str.ofString "law"
  | _ => false
def qq : Program := { pp with main := { pp.main with body := pp.main.body.filter isLaw } }
def lo : List Str := (pp.main.scope.names.map (·.1)).filter fun x => !(x == Str.ofString "law")
set_option maxHeartbeats 0 in
theorem run_all (w : World) (os : OsState) : (endF (stepQ (denQ tabQ) pp w) 60000 pp w os).map (fun s => frK s fun s => (looksF pp (boot_heap w.params) s.abs, seenQ qq lo (importedModules pp.main.body) (fun s => xlAt qq [] s && recOk rr.row.toRowW.records s) s.abs, hk.2.1.map (getT s))) = some (true, openGood qq lo, (hk.heap_39 w.params).map fun p => some p.2) := by kernel_rfl
set_option maxHeartbeats 0 in
theorem head (call : WalkO qq lo (XL qq []) (InK hk.heap_39) rr.row.toRowW (topDef qq 0) [] fun f vs => PySem.call f vs) : rr.Holds :=
  hk.2.2.2 fun _ said => (by
    refine HeadRun.head_any (r := rr.row) (q := qq) (H := kHook hk.heap_39 hk.2.1 kas_eq) (ob := fun s => hk.2.1.map (getT s)) (M := 60000) (loose := lo) (d := topDef qq 0) (kwd := []) (fun s => List.map_congr_left fun a _ => getT_eq s a) (by kernel_rfl) (fun s => by rfl) (fun w os => ?r) (by rfl) (by rfl) (by rfl) (by rfl) said (by decide +kernel) ⟨rfl, rfl, rfl, rfl, rfl, by decide +kernel⟩ ?hw call
    case hw => w_witness2
    case r =>
      have z := run_all w os
      simp only [frK_eq] at z
      exact z : rr.row.Holds)
end Hd
namespace Dn
open PySem L2
inductive D where
  | non | bl (b : Bool) | int (i : Int) | str (x : Str)
  | lst (xs : List D) | tup (xs : List D)
  | ins (C : Addr) (fs : List (Str × D))
  | scr (ns : List Int) | adr (a : Addr) | ty (n : String)
  | err (a : Addr) (d : Option Addr) (cls : Value) (fs : List (Str × D))
  | dk (kvs : List (Key × D)) | dt (kvs : List (List Key × D))
inductive W where
  | dat (d : D) | ptr (j : Nat)
inductive Ob where
  | gone | lst (xs : List W) | ins (C : Addr) (fs : List (Str × W)) | dct (kvs : List (Key × W)) | dtt (kvs : List (List Key × W))
mutual
inductive Rep (K : PySem.W.Frag) (H : Hp) : V → D → Prop
  | non : Rep K H .non .non
  | bl (b : Bool) : Rep K H (.bl b) (.bl b)
  | int (i : Int) : Rep K H (.int i) (.int i)
  | str (x : Str) : Rep K H (.str x) (.str x)
  | lst {a : Addr} {vs : List V} {xs : List D} : H a = some (.lst vs) → Reps K H vs xs → Rep K H (.ref a) (.lst xs)
  | tup {a : Addr} {vs : List V} {xs : List D} : H a = some (.tup vs) → Reps K H vs xs → Rep K H (.ref a) (.tup xs)
  | tupK {a : Addr} {o : Obj} {n : Nat} : K.lookup a = some o → o.cls = .type "tuple" → o.data = .seq #[] n → Rep K H (.ref a) (.tup [])
  | ins {a C dx : Addr} {vs : List (Str × V)} {fs : List (Str × D)} : H a = some (.ins C dx vs) → RepF K H vs fs → Rep K H (.ref a) (.ins C fs)
  | scr {a : Addr} {ns : List Int} : SqL K H a (ns.map V.int) → Rep K H (.ref a) (.scr ns)
  | adr (a : Addr) : Rep K H (.ref a) (.adr a)
  | ty (n : String) : Rep K H (.ty n) (.ty n)
  | err0 {a : Addr} {cls : Value} : Rep K H (.ref a) (.err a none cls [])
  | err {a dx : Addr} {cls : Value} {vs : List (Str × V)} {fs : List (Str × D)} : H dx = some (.xd vs) → RepF K H vs fs → Rep K H (.ref a) (.err a (some dx) cls fs)
  | dk {a : Addr} {od : Obj} {vs : List (Key × V)} {kvs : List (Key × D)} : H a = some (.frz od (.dK vs)) → vs.map (·.1) = kvs.map (·.1) → Reps K H (vs.map (·.2)) (kvs.map (·.2)) → Rep K H (.ref a) (.dk kvs)
  | dt {a : Addr} {od : Obj} {vs : List (List Key × V)} {kvs : List (List Key × D)} : H a = some (.frz od (.dT vs)) → vs.map (·.1) = kvs.map (·.1) → Reps K H (vs.map (·.2)) (kvs.map (·.2)) → Rep K H (.ref a) (.dt kvs)
inductive Reps (K : PySem.W.Frag) (H : Hp) : List V → List D → Prop
  | nil : Reps K H [] []
  | cons {v : V} {d : D} {vs : List V} {xs : List D} : Rep K H v d → Reps K H vs xs → Reps K H (v :: vs) (d :: xs)
inductive RepF (K : PySem.W.Frag) (H : Hp) : List (Str × V) → List (Str × D) → Prop
  | nil : RepF K H [] []
  | cons {f : Str} {v : V} {d : D} {vs : List (Str × V)} {fs : List (Str × D)} : Rep K H v d → RepF K H vs fs → RepF K H ((f, v) :: vs) ((f, d) :: fs)
end
section
variable {K : PySem.W.Frag} {H H' : Hp}
theorem Rep.mono {v : V} {d : D} (h : Rep K H v d) (s : Same H H') : Rep K H' v d :=
  Rep.rec (motive_1 := fun v d _ => Rep K H' v d) (motive_2 := fun vs ds _ => Reps K H' vs ds) (motive_3 := fun vs fs _ => RepF K H' vs fs)
    .non .bl .int .str (fun h _ r => .lst (s _ _ h) r) (fun h _ r => .tup (s _ _ h) r) (fun a b c => .tupK a b c) (fun h _ r => .ins (s _ _ h) r) (fun h => .scr (s.seq h)) .adr .ty .err0 (fun h _ r => .err (s _ _ h) r) (fun h e _ r => .dk (s _ _ h) e r) (fun h e _ r => .dt (s _ _ h) e r)
    .nil (fun _ _ a b => .cons a b) .nil (fun _ _ a b => .cons a b) h
theorem sqT_K {a : Addr} {o : Obj} {n : Nat} (l : K.lookup a = some o) (c : o.cls = .type "tuple") (d : o.data = .seq #[] n) : SqT K H a [] := .inr ⟨o, #[], n, l, c, d, Nat.zero_le _, .nil⟩
theorem rep_tup {v : V} {xs : List D} (r : Rep K H v (.tup xs)) : ∃ a vs, v = .ref a ∧ (∀ H', Same H H' → SqT K H' a vs) ∧ Reps K H vs xs := by
  cases r with
  | tup e rr => exact ⟨_, _, rfl, fun H' s => .inl (.inl (s _ _ e)), rr⟩
  | tupK l c d => exact ⟨_, [], rfl, fun H' _ => sqT_K l c d, .nil⟩
theorem Reps.mono : ∀ {vs : List V} {ds : List D}, Reps K H vs ds → Same H H' → Reps K H' vs ds
  | _, _, .nil, _ => .nil
  | _, _, .cons a b, s => .cons (a.mono s) (b.mono s)
theorem RepF.mono : ∀ {vs : List (Str × V)} {ds : List (Str × D)}, RepF K H vs ds → Same H H' → RepF K H' vs ds
  | _, _, .nil, _ => .nil
  | _, _, .cons a b, s => .cons (a.mono s) (b.mono s)
theorem Reps.length : ∀ {vs : List V} {ds : List D}, Reps K H vs ds → vs.length = ds.length
  | _, _, .nil => rfl
  | _, _, .cons _ b => by simp [b.length]
theorem Reps.get : ∀ {vs : List V} {ds : List D} {i : Nat} {d : D}, Reps K H vs ds → ds[i]? = some d → ∃ v, vs[i]? = some v ∧ Rep K H v d
  | _, _, _, _, .nil, h => by simp at h
  | _, _, 0, _, .cons a _, h => by simp at h; subst h; exact ⟨_, rfl, a⟩
  | _, _, i + 1, _, .cons _ b, h => by simp at h; exact b.get (i := i) h
theorem Reps.get' : ∀ {vs : List V} {ds : List D} {i : Nat} {v : V}, Reps K H vs ds → vs[i]? = some v → ∃ d, ds[i]? = some d ∧ Rep K H v d
  | _, _, _, _, .nil, h => by simp at h
  | _, _, 0, _, .cons a _, h => by simp at h; subst h; exact ⟨_, rfl, a⟩
  | _, _, i + 1, _, .cons _ b, h => by simp at h; exact b.get' (i := i) h
theorem Reps.append : ∀ {vs ws : List V} {ds es : List D}, Reps K H vs ds → Reps K H ws es → Reps K H (vs ++ ws) (ds ++ es)
  | _, _, _, _, .nil, b => b
  | _, _, _, _, .cons a r, b => .cons a (r.append b)
theorem Reps.take : ∀ {vs : List V} {ds : List D} (n : Nat), Reps K H vs ds → Reps K H (vs.take n) (ds.take n)
  | _, _, 0, _ => by simp; exact .nil
  | _, _, _ + 1, .nil => by simp; exact .nil
  | _, _, n + 1, .cons a b => by simp; exact .cons a (b.take n)
theorem Reps.drop : ∀ {vs : List V} {ds : List D} (n : Nat), Reps K H vs ds → Reps K H (vs.drop n) (ds.drop n)
  | _, _, 0, h => by simpa using h
  | _, _, _ + 1, .nil => by simp; exact .nil
  | _, _, n + 1, .cons a b => by simp; exact b.drop n
theorem RepF.lookup {f : Str} : ∀ {vs : List (Str × V)} {fs : List (Str × D)} {d : D}, RepF K H vs fs → fs.lookup f = some d → ∃ v, vs.lookup f = some v ∧ Rep K H v d
  | _, _, _, .nil, h => by simp [List.lookup] at h
  | _, _, _, .cons (f := g) a b, h => by
    simp only [List.lookup] at h ⊢
    cases e : f == g with
    | true => rw [e] at h; cases h; exact ⟨_, rfl, a⟩
    | false => rw [e] at h; exact b.lookup h
theorem RepF.lookup_none {f : Str} : ∀ {vs : List (Str × V)} {fs : List (Str × D)}, RepF K H vs fs → fs.lookup f = none → vs.lookup f = none
  | _, _, .nil, _ => rfl
  | _, _, .cons (f := g) a b, h => by
    simp only [List.lookup] at h ⊢
    cases e : f == g with
    | true => rw [e] at h; cases h
    | false => rw [e] at h; exact b.lookup_none h
theorem RepF.length : ∀ {vs : List (Str × V)} {fs : List (Str × D)}, RepF K H vs fs → vs.length = fs.length
  | _, _, .nil => rfl
  | _, _, .cons _ b => by simp [b.length]
end
def RepW (K : PySem.W.Frag) (A : List Addr) (H : Hp) (v : V) : W → Prop
  | .dat d => Rep K H v d
  | .ptr j => ∃ a, A[j]? = some a ∧ v = .ref a
def RepWs (K : PySem.W.Frag) (A : List Addr) (H : Hp) : List V → List W → Prop
  | [], [] => True
  | v :: vs, w :: ws => RepW K A H v w ∧ RepWs K A H vs ws
  | _, _ => False
def RepWF (K : PySem.W.Frag) (A : List Addr) (H : Hp) : List (Str × V) → List (Str × W) → Prop
  | [], [] => True
  | v :: vs, w :: ws => v.1 = w.1 ∧ RepW K A H v.2 w.2 ∧ RepWF K A H vs ws
  | _, _ => False
def RepWK {κ : Type} (K : PySem.W.Frag) (A : List Addr) (H : Hp) : List (κ × V) → List (κ × W) → Prop
  | [], [] => True
  | v :: vs, w :: ws => v.1 = w.1 ∧ RepW K A H v.2 w.2 ∧ RepWK K A H vs ws
  | _, _ => False
def Ext (A A' : List Addr) : Prop := ∃ B, A' = A ++ B
theorem Ext.refl (A : List Addr) : Ext A A := ⟨[], by simp⟩
theorem Ext.trans {A B C : List Addr} (a : Ext A B) (b : Ext B C) : Ext A C := by
  obtain ⟨x, rfl⟩ := a
  obtain ⟨y, rfl⟩ := b
  exact ⟨x ++ y, by simp⟩
theorem Ext.get {A A' : List Addr} (e : Ext A A') {j : Nat} {a : Addr} (h : A[j]? = some a) : A'[j]? = some a := by
  obtain ⟨B, rfl⟩ := e
  rw [List.getElem?_append_left (List.getElem?_eq_some_iff.mp h).1]
  exact h
theorem Ext.mem {A A' : List Addr} (e : Ext A A') {a : Addr} (h : a ∈ A) : a ∈ A' := by
  obtain ⟨B, rfl⟩ := e
  exact List.mem_append_left _ h
section
variable {K : PySem.W.Frag} {A A' : List Addr} {H H' : Hp}
theorem RepW.mono {v : V} {w : W} (h : RepW K A H v w) (e : Ext A A') (s : Same H H') : RepW K A' H' v w := by
  cases w with
  | dat d => exact Rep.mono h s
  | ptr j =>
    obtain ⟨a, h, r⟩ := h
    exact ⟨a, e.get h, r⟩
theorem RepWs.mono : ∀ {vs : List V} {ws : List W}, RepWs K A H vs ws → Ext A A' → Same H H' → RepWs K A' H' vs ws
  | [], [], _, _, _ => trivial
  | _ :: _, _ :: _, h, e, s => ⟨h.1.mono e s, h.2.mono e s⟩
theorem RepWF.mono : ∀ {vs : List (Str × V)} {ws : List (Str × W)}, RepWF K A H vs ws → Ext A A' → Same H H' → RepWF K A' H' vs ws
  | [], [], _, _, _ => trivial
  | _ :: _, _ :: _, h, e, s => ⟨h.1, h.2.1.mono e s, RepWF.mono h.2.2 e s⟩
theorem RepWK.mono {κ : Type} : ∀ {vs : List (κ × V)} {ws : List (κ × W)}, RepWK K A H vs ws → Ext A A' → Same H H' → RepWK K A' H' vs ws
  | [], [], _, _, _ => trivial
  | _ :: _, _ :: _, h, e, s => ⟨h.1, h.2.1.mono e s, RepWK.mono h.2.2 e s⟩
theorem RepWs.length : ∀ {vs : List V} {ws : List W}, RepWs K A H vs ws → vs.length = ws.length
  | [], [], _ => rfl
  | _ :: _, _ :: _, h => by simp [h.2.length]
theorem RepWs.get : ∀ {vs : List V} {ws : List W} {i : Nat} {w : W}, RepWs K A H vs ws → ws[i]? = some w → ∃ v, vs[i]? = some v ∧ RepW K A H v w
  | [], [], _, _, _, h => by simp at h
  | _ :: _, _ :: _, 0, _, r, h => by simp at h; subst h; exact ⟨_, rfl, r.1⟩
  | _ :: _, _ :: _, i + 1, _, r, h => by simp at h; exact r.2.get (i := i) h
theorem RepWs.append : ∀ {vs us : List V} {ws xs : List W}, RepWs K A H vs ws → RepWs K A H us xs → RepWs K A H (vs ++ us) (ws ++ xs)
  | [], _, [], _, _, b => b
  | _ :: _, _, _ :: _, _, a, b => ⟨a.1, a.2.append b⟩
theorem RepWs.set : ∀ {vs : List V} {ws : List W} {v : V} {w : W} (i : Nat), RepWs K A H vs ws → RepW K A H v w → RepWs K A H (vs.set i v) (ws.set i w)
  | [], [], _, _, _, _, _ => trivial
  | _ :: _, _ :: _, _, _, 0, r, h => ⟨h, r.2⟩
  | _ :: _, _ :: _, _, _, i + 1, r, h => ⟨r.1, r.2.set i h⟩
theorem RepWs.dats : ∀ {vs : List V} {ds : List D}, RepWs K A H vs (ds.map W.dat) → Reps K H vs ds
  | [], [], _ => .nil
  | _ :: _, _ :: _, h => .cons h.1 (RepWs.dats h.2)
theorem RepWs.of : ∀ {vs : List V} {ds : List D}, Reps K H vs ds → RepWs K A H vs (ds.map W.dat)
  | _, _, .nil => trivial
  | _, _, .cons a b => ⟨a, RepWs.of b⟩
theorem RepWF.dats : ∀ {vs : List (Str × V)} {ds : List (Str × D)}, RepWF K A H vs (ds.map fun p => (p.1, W.dat p.2)) → RepF K H vs ds
  | [], [], _ => .nil
  | (f, v) :: vs, (g, d) :: ds, h => by
    obtain ⟨h1, h2, h3⟩ := h
    simp only at h1 h2
    subst h1
    exact .cons h2 (RepWF.dats h3)
end
def ObRep (K : PySem.W.Frag) (A : List Addr) (H H0 : Hp) (a : Addr) : Ob → Prop
  | .gone => ∃ o, H0 a = some o
  | .lst xs => H0 a = none ∧ ∃ vs, H a = some (.lst vs) ∧ RepWs K A H0 vs xs
  | .ins C fs => H0 a = none ∧ ∃ dx vs, H a = some (.ins C dx vs) ∧ RepWF K A H0 vs fs
  | .dct kvs => H0 a = none ∧ ∃ vs, H a = some (.dK vs) ∧ RepWK K A H0 vs kvs
  | .dtt kvs => H0 a = none ∧ ∃ vs, H a = some (.dT vs) ∧ RepWK K A H0 vs kvs
theorem ObRep.some {K : PySem.W.Frag} {A : List Addr} {H H0 : Hp} {a : Addr} {o : Ob} (le : Same H0 H) (h : ObRep K A H H0 a o) : ∃ u, H a = some u := by
  cases o with
  | gone => obtain ⟨o, h⟩ := h; exact ⟨_, le _ _ h⟩
  | lst xs => obtain ⟨_, vs, h, _⟩ := h; exact ⟨_, h⟩
  | ins C fs => obtain ⟨_, dx, vs, h, _⟩ := h; exact ⟨_, h⟩
  | dct kvs => obtain ⟨_, vs, h, _⟩ := h; exact ⟨_, h⟩
  | dtt kvs => obtain ⟨_, vs, h, _⟩ := h; exact ⟨_, h⟩
structure HS (K : PySem.W.Frag) (A : List Addr) (H H0 : Hp) (st : List Ob) : Prop where
  le : Same H0 H
  al : A.length = st.length
  nd : A.Nodup
  ob : ∀ (j : Nat) (a : Addr) (o : Ob), A[j]? = some a → st[j]? = some o → ObRep K A H H0 a o
structure Ent where
  H : Hp
  H0 : Hp
  A : List Addr
def Fresh0 (H : Hp) (b : Addr) : Prop := ∀ o, H b = some o → ∃ xs, o = .tup xs
theorem fresh0_none {H : Hp} {b : Addr} (h : H b = none) : Fresh0 H b := fun o e => by rw [h] at e; cases e
structure Fr (G : Ent) (A : List Addr) (H H0 : Hp) : Prop where
  fr : ∀ b o, G.H b = some o → b ∉ G.A → H b = some o
  old : Same G.H0 H0
  new : ∀ b o, H0 b = some o → (∃ u, G.H0 b = some u) ∨ Fresh0 G.H b
  pre : Ext G.A A
  loc : ∀ b, b ∈ A → b ∈ G.A ∨ G.H b = none
def Slots (K : PySem.W.Frag) (A : List Addr) (H0 : Hp) (σ : St) (sl : List (Option W)) : Prop :=
  sl.length = σ.length ∧ ∀ (i : Nat) (w : W), sl[i]? = some (some w) → ∃ v, σ[i]? = some (some v) ∧ RepW K A H0 v w
structure RS (K : PySem.W.Frag) (G : Ent) (A : List Addr) (σ : St) (H H0 : Hp) (sl : List (Option W)) (st : List Ob) : Prop where
  sl : Slots K A H0 σ sl
  hs : HS K A H H0 st
  fr : Fr G A H H0
section
variable {K : PySem.W.Frag} {G : Ent} {A A' : List Addr} {σ : St} {H H' H0 H0' : Hp} {sl : List (Option W)} {st st' : List Ob}
theorem HS.here (h : HS K A H H0 st) {a : Addr} (ha : a ∈ A) : ∃ u, H a = some u := by
  obtain ⟨j, hj, e⟩ := List.mem_iff_getElem.mp ha
  have hj' : j < st.length := by rw [← h.al]; exact hj
  exact (h.ob j a st[j] (by rw [List.getElem?_eq_getElem hj, e]) (List.getElem?_eq_getElem hj')).some h.le
theorem HS.notin (h : HS K A H H0 st) {a : Addr} (ha : H a = none) : a ∉ A := fun z => by
  obtain ⟨u, e⟩ := h.here z
  rw [ha] at e
  cases e
theorem HS.free0 (h : HS K A H H0 st) {a : Addr} (ha : H a = none) : H0 a = none := h.le.free ha
theorem Slots.mono (h : Slots K A H0 σ sl) (e : Ext A A') (s : Same H0 H0') : Slots K A' H0' σ sl :=
  ⟨h.1, fun i w q => let ⟨v, a, b⟩ := h.2 i w q; ⟨v, a, b.mono e s⟩⟩
theorem Slots.set (h : Slots K A H0 σ sl) {v : V} {w : W} (r : RepW K A H0 v w) (i : Nat) : Slots K A H0 (σ.set i (some v)) (sl.set i (some w)) := by
  refine ⟨by simp [h.1], fun k u q => ?_⟩
  by_cases hk : i = k
  · subst hk
    by_cases hl : i < sl.length
    · rw [List.getElem?_set_self hl] at q
      cases q
      exact ⟨v, by rw [List.getElem?_set_self (by rw [← h.1]; exact hl)], r⟩
    · rw [List.getElem?_eq_none (by simpa using hl)] at q
      cases q
  · rw [List.getElem?_set_ne hk] at q ⊢
    exact h.2 k u q
theorem Slots.weak (h : Slots K A H0 σ sl) (i : Nat) (ov : Option V) : Slots K A H0 (σ.set i ov) (sl.set i none) := by
  refine ⟨by simp [h.1], fun k u q => ?_⟩
  by_cases hk : i = k
  · subst hk
    by_cases hl : i < sl.length
    · rw [List.getElem?_set_self hl] at q
      cases q
    · rw [List.getElem?_eq_none (by simpa using hl)] at q
      cases q
  · rw [List.getElem?_set_ne hk] at q ⊢
    exact h.2 k u q
theorem free_in (fr : Fr G A H H0) (hs : HS K A H H0 st) {p : Addr} (hp : H p = none) : G.H p = none := by
  cases e : G.H p with
  | none => rfl
  | some o =>
    by_cases hm : p ∈ G.A
    · exact absurd (fr.pre.mem hm) (hs.notin hp)
    · have := fr.fr p o e hm
      rw [hp] at this
      cases this
theorem RS.fresh (R : RS K G A σ H H0 sl st) {p : Addr} {o : HO} (hp : H p = none) : RS K G A σ (upd H p o) H0 sl st := by
  have n0 := R.hs.free0 hp
  refine ⟨R.sl, ⟨fun b u h => ?_, R.hs.al, R.hs.nd, fun j a u ha hu => ?_⟩, ⟨fun b u h hb => ?_, R.fr.old, R.fr.new, R.fr.pre, R.fr.loc⟩⟩
  · rw [upd_ne (ne_of_none h n0)]
    exact R.hs.le _ _ h
  · have hpa : a ≠ p := fun z => by
      subst z
      exact R.hs.notin hp (List.mem_of_getElem? ha)
    have q := R.hs.ob j a u ha hu
    cases u with
    | gone => exact q
    | lst xs => obtain ⟨z, vs, h, r⟩ := q; exact ⟨z, vs, by rw [upd_ne hpa]; exact h, r⟩
    | ins C fs => obtain ⟨z, dx, vs, h, r⟩ := q; exact ⟨z, dx, vs, by rw [upd_ne hpa]; exact h, r⟩
    | dct kvs => obtain ⟨z, vs, h, r⟩ := q; exact ⟨z, vs, by rw [upd_ne hpa]; exact h, r⟩
    | dtt kvs => obtain ⟨z, vs, h, r⟩ := q; exact ⟨z, vs, by rw [upd_ne hpa]; exact h, r⟩
  · have hbp : b ≠ p := fun z => by
      subst z
      rw [free_in R.fr R.hs hp] at h
      cases h
    rw [upd_ne hbp]
    exact R.fr.fr b u h hb
theorem same_upd {H : Hp} {p : Addr} {o : HO} (h : H p = none) : Same H (upd H p o) := fun b u e => by
  rw [upd_ne (ne_of_none e h)]
  exact e
theorem same_updL {H H0 : Hp} {p : Addr} {o : HO} (le : Same H0 H) (h : H0 p = none) : Same H0 (upd H p o) := fun b u e => by
  rw [upd_ne (ne_of_none e h)]
  exact le b u e
theorem same_upd2 {H H0 : Hp} {p : Addr} {o : HO} (le : Same H0 H) : Same (upd H0 p o) (upd H p o) := fun b u e => by
  by_cases hb : b = p
  · subst hb
    rw [upd_same] at e ⊢
    exact e
  · rw [upd_ne hb] at e ⊢
    exact le b u e
theorem ObRep.mono0 {a : Addr} {o : Ob} (q : ObRep K A H H0 a o) (e : Ext A A') (s : Same H0 H0') (hn : H0 a = none → H0' a = none) : ObRep K A' H H0' a o := by
  cases o with
  | gone => obtain ⟨u, q⟩ := q; exact ⟨u, s _ _ q⟩
  | lst xs => obtain ⟨z, vs, h, r⟩ := q; exact ⟨hn z, vs, h, r.mono e s⟩
  | ins C fs => obtain ⟨z, dx, vs, h, r⟩ := q; exact ⟨hn z, dx, vs, h, r.mono e s⟩
  | dct kvs => obtain ⟨z, vs, h, r⟩ := q; exact ⟨hn z, vs, h, r.mono e s⟩
  | dtt kvs => obtain ⟨z, vs, h, r⟩ := q; exact ⟨hn z, vs, h, r.mono e s⟩
theorem ObRep.heap {a : Addr} {o : Ob} (q : ObRep K A H H0 a o) (e : H' a = H a) : ObRep K A H' H0 a o := by
  cases o with
  | gone => exact q
  | lst xs => obtain ⟨z, vs, h, r⟩ := q; exact ⟨z, vs, by rw [e]; exact h, r⟩
  | ins C fs => obtain ⟨z, dx, vs, h, r⟩ := q; exact ⟨z, dx, vs, by rw [e]; exact h, r⟩
  | dct kvs => obtain ⟨z, vs, h, r⟩ := q; exact ⟨z, vs, by rw [e]; exact h, r⟩
  | dtt kvs => obtain ⟨z, vs, h, r⟩ := q; exact ⟨z, vs, by rw [e]; exact h, r⟩
theorem RS.join (R : RS K G A σ H H0 sl st) {p : Addr} {o : HO} (hp : H p = some o) (h0 : H0 p = none) (hA : p ∉ A) (hG : Fresh0 G.H p) : RS K G A σ H (upd H0 p o) sl st := by
  have s0 : Same H0 (upd H0 p o) := same_upd h0
  refine ⟨R.sl.mono (Ext.refl _) s0, ⟨fun b u h => ?_, R.hs.al, R.hs.nd, fun j a u ha hu => ?_⟩, ⟨R.fr.fr, R.fr.old.trans s0, fun b u h => ?_, R.fr.pre, R.fr.loc⟩⟩
  · by_cases hb : b = p
    · subst hb
      rw [upd_same] at h
      cases h
      exact hp
    · rw [upd_ne hb] at h
      exact R.hs.le _ _ h
  · have hpa : a ≠ p := fun z => by
      subst z
      exact hA (List.mem_of_getElem? ha)
    exact (R.hs.ob j a u ha hu).mono0 (Ext.refl _) s0 fun z => by rw [upd_ne hpa]; exact z
  · by_cases hb : b = p
    · subst hb
      exact .inr hG
    · rw [upd_ne hb] at h
      exact R.fr.new _ _ h
theorem RS.joinT (R : RS K G A σ H H0 sl st) {p : Addr} {xs : List V} (hp : H p = some (.tup xs)) : ∃ H0', RS K G A σ H H0' sl st ∧ Same H0 H0' ∧ H0' p = some (.tup xs) := by
  cases h0 : H0 p with
  | some o =>
    have e := R.hs.le _ _ h0
    rw [hp] at e
    cases e
    exact ⟨H0, R, Same.refl _, h0⟩
  | none =>
    have hA : p ∉ A := fun z => by
      obtain ⟨j, hj, e⟩ := List.mem_iff_getElem.mp z
      have hj' : j < st.length := by rw [← R.hs.al]; exact hj
      have q := R.hs.ob j p st[j] (by rw [List.getElem?_eq_getElem hj, e]) (List.getElem?_eq_getElem hj')
      revert q
      cases st[j] with
      | gone => rintro ⟨o, q⟩; rw [h0] at q; cases q
      | lst ys => rintro ⟨_, vs, q, _⟩; rw [hp] at q; cases q
      | ins C fs => rintro ⟨_, dx, vs, q, _⟩; rw [hp] at q; cases q
      | dct kvs => rintro ⟨_, vs, q, _⟩; rw [hp] at q; cases q
      | dtt kvs => rintro ⟨_, vs, q, _⟩; rw [hp] at q; cases q
    refine ⟨upd H0 p (.tup xs), R.join hp h0 hA (fun o e => ?_), same_upd h0, upd_same⟩
    have hb : p ∉ G.A := fun z => hA (R.fr.pre.mem z)
    have e2 := R.fr.fr p o e hb
    rw [hp] at e2
    cases e2
    exact ⟨xs, rfl⟩
theorem RS.alloc (R : RS K G A σ H H0 sl st) {p : Addr} {o : HO} (hp : H p = none) : RS K G A σ (upd H p o) (upd H0 p o) sl st :=
  (R.fresh hp).join upd_same (R.hs.free0 hp) (R.hs.notin hp) (fresh0_none (free_in R.fr R.hs hp))
theorem RS.push (R : RS K G A σ H H0 sl st) {p : Addr} {o : HO} {u : Ob} (hp : H p = none) (hu : ObRep K (A ++ [p]) (upd H p o) H0 p u) : RS K G (A ++ [p]) σ (upd H p o) H0 sl (st ++ [u]) := by
  have e : Ext A (A ++ [p]) := ⟨[p], rfl⟩
  have F := R.fresh (o := o) hp
  refine ⟨R.sl.mono e (Same.refl _), ⟨F.hs.le, by simp [R.hs.al], ?_, fun j a x ha hx => ?_⟩, ⟨F.fr.fr, F.fr.old, F.fr.new, R.fr.pre.trans e, fun b hb => ?_⟩⟩
  · rw [List.nodup_append]
    refine ⟨R.hs.nd, by simp, fun a ha b hb => ?_⟩
    simp at hb
    subst hb
    rintro rfl
    exact R.hs.notin hp ha
  · by_cases hj : j < A.length
    · rw [List.getElem?_append_left hj] at ha
      rw [List.getElem?_append_left (by rw [← R.hs.al]; exact hj)] at hx
      exact (F.hs.ob j a x ha hx).mono0 e (Same.refl _) id
    · have : j = A.length := by
        have := (List.getElem?_eq_some_iff.mp ha).1
        simp at this
        omega
      subst this
      rw [List.getElem?_append_right (Nat.le_refl _)] at ha
      rw [List.getElem?_append_right (by rw [R.hs.al]; exact Nat.le_refl _)] at hx
      simp at ha
      simp [R.hs.al] at hx
      subst ha hx
      exact hu
  · rcases List.mem_append.mp hb with hb | hb
    · exact R.fr.loc b hb
    · simp at hb
      subst hb
      exact .inr (free_in R.fr R.hs hp)
theorem RS.write (R : RS K G A σ H H0 sl st) {p : Addr} {o : HO} {u u0 : Ob} {j : Nat} (hj : A[j]? = some p) (h0 : st[j]? = some u0) (hp : H0 p = none) (hu : ObRep K A (upd H p o) H0 p u) : RS K G A σ (upd H p o) H0 sl (st.set j u) := by
  refine ⟨R.sl, ⟨same_updL R.hs.le hp, by simp [R.hs.al], R.hs.nd, fun i a x ha hx => ?_⟩, ⟨fun b v h hb => ?_, R.fr.old, R.fr.new, R.fr.pre, R.fr.loc⟩⟩
  · by_cases hi : j = i
    · subst hi
      rw [List.getElem?_set_self (List.getElem?_eq_some_iff.mp h0).1] at hx
      cases hx
      have : a = p := Option.some.inj (ha.symm.trans hj)
      subst this
      exact hu
    · rw [List.getElem?_set_ne hi] at hx
      have hap : a ≠ p := fun z => by
        subst z
        have h1 := List.getElem?_eq_some_iff.mp ha
        have h2 := List.getElem?_eq_some_iff.mp hj
        exact hi ((List.getElem_inj R.hs.nd).mp (h2.2.trans h1.2.symm))
      exact (R.hs.ob i a x ha hx).heap (upd_ne hap)
  · have hbp : b ≠ p := fun z => by
      subst z
      rcases R.fr.loc b (List.mem_of_getElem? hj) with q | q
      · exact hb q
      · rw [h] at q
        cases q
    rw [upd_ne hbp]
    exact R.fr.fr b v h hb
theorem RS.at (R : RS K G A σ H H0 sl st) {j : Nat} {o : Ob} (h : st[j]? = some o) : ∃ a, A[j]? = some a ∧ ObRep K A H H0 a o := by
  have hj : j < A.length := by rw [R.hs.al]; exact (List.getElem?_eq_some_iff.mp h).1
  exact ⟨A[j], List.getElem?_eq_getElem hj, R.hs.ob j _ o (List.getElem?_eq_getElem hj) h⟩
end
end Dn
namespace Dn
open PySem L2
def wpE (X : Cx) (e : Expr) : TE := fun σ H Q => ∀ (pins : List (Addr × Obj)) (s : Shared), Inv X pins σ H s → wpAny (model X.prog X.w) X.A (eval e X.env) (EP X pins σ Q) X.xe s
theorem pe_wp {X : Cx} {e : Expr} : PE X e (wpE X e) := ⟨fun pins s _ _ _ I h => h pins s I⟩
theorem wpE_of {X : Cx} {e : Expr} {t : TE} {σ : St} {H : Hp} {Q : VK} (h : PE X e t) (q : t σ H Q) : wpE X e σ H Q := fun pins s I => h.run pins s σ H Q I q
def wpT (X : Cx) (e : Expr) : TT := fun σ H Q => ∀ (pins : List (Addr × Obj)) (s : Shared), Inv X pins σ H s → wpAny (model X.prog X.w) X.A (isTrue e X.env (eval e X.env)) (TP X pins σ Q) X.xe s
theorem pt_wp {X : Cx} {e : Expr} : PT X e (wpT X e) := ⟨fun pins s _ _ _ I h => h pins s I⟩
theorem wpT_of {X : Cx} {e : Expr} {t : TT} {σ : St} {H : Hp} {Q : Bool → Hp → Prop} (h : PT X e t) (q : t σ H Q) : wpT X e σ H Q := fun pins s I => h.run pins s σ H Q I q
def wpA (X : Cx) (es : List Expr) : TA := fun σ H Q => ∀ (pos : Pos) (pins : List (Addr × Obj)) (s : Shared), Inv X pins σ H s → wpAny (model X.prog X.w) X.A (spliced (backTo pos (starEach es X.env))) (AP X pins σ Q) X.xe s
theorem pa_wp {X : Cx} {es : List Expr} : PA X es (wpA X es) := ⟨fun pos pins s _ _ _ I h => h pos pins s I⟩
theorem wpA_of {X : Cx} {es : List Expr} {t : TA} {σ : St} {H : Hp} {Q : List V → Hp → Prop} (h : PA X es t) (q : t σ H Q) : wpA X es σ H Q := fun pos pins s I => h.run pos pins s σ H Q I q
def wpO (X : Cx) (f : Value → Value → Sem Value) : R2 := fun x y H Q => ∀ (pins : List (Addr × Obj)) (s : Shared) (σ : St) (v u : Value), Inv X pins σ H s → RelV x v → RelV y u → wpAny (model X.prog X.w) X.A (f v u) (EP X pins σ Q) X.xe s
theorem op_wp {X : Cx} {f : Value → Value → Sem Value} : OpR X f (wpO X f) := fun pins s σ _ _ _ v u _ I r1 r2 h => h pins s σ v u I r1 r2
theorem wpO_of {X : Cx} {f : Value → Value → Sem Value} {r : R2} {x y : V} {H : Hp} {Q : VK} (h : OpR X f r) (q : r x y H Q) : wpO X f x y H Q := fun pins s σ v u I r1 r2 => h pins s σ H x y v u Q I r1 r2 q
def wpC (X : Cx) (f : Value) : List V → Hp → VK → Prop := fun xs H Q => ∀ (pins : List (Addr × Obj)) (s : Shared) (σ : St) (us : List Value), Inv X pins σ H s → Vals xs us → wpAny (model X.prog X.w) X.A (call f us) (EP X pins σ Q) X.xe s
theorem call_wp {X : Cx} {f : Value} : CallR X f (wpC X f) := fun pins s σ _ _ us _ I r h => h pins s σ us I r
theorem wpC_of {X : Cx} {f : Value} {r : List V → Hp → VK → Prop} {xs : List V} {H : Hp} {Q : VK} (h : CallR X f r) (q : r xs H Q) : wpC X f xs H Q := fun pins s σ us I r1 => h pins s σ H xs us Q I r1 q
abbrev WK := W → List Ob → Prop
abbrev BK := Bool → List Ob → Prop
abbrev LK := List W → List Ob → Prop
abbrev Sls := List (Option W)
def Ct (K : PySem.W.Frag) (G : Ent) (A : List Addr) (σ : St) (H0 : Hp) (sl : Sls) (Φ : WK) (Q : VK) : Prop :=
  ∀ w st' v A' H' H0', Φ w st' → RS K G A' σ H' H0' sl st' → Ext A A' → Same H0 H0' → RepW K A' H0' v w → Q v H'
def CtT (K : PySem.W.Frag) (G : Ent) (A : List Addr) (σ : St) (H0 : Hp) (sl : Sls) (Φ : BK) (Q : Bool → Hp → Prop) : Prop :=
  ∀ b st' A' H' H0', Φ b st' → RS K G A' σ H' H0' sl st' → Ext A A' → Same H0 H0' → Q b H'
def CtA (K : PySem.W.Frag) (G : Ent) (A : List Addr) (σ : St) (H0 : Hp) (sl : Sls) (Φ : LK) (Q : List V → Hp → Prop) : Prop :=
  ∀ ws st' vs A' H' H0', Φ ws st' → RS K G A' σ H' H0' sl st' → Ext A A' → Same H0 H0' → RepWs K A' H0' vs ws → Q vs H'
section
variable {K : PySem.W.Frag} {G : Ent} {A A' : List Addr} {σ : St} {H0 H0' : Hp} {sl : Sls}
theorem Ct.mv {Φ : WK} {Q : VK} (c : Ct K G A σ H0 sl Φ Q) (e : Ext A A') (s : Same H0 H0') : Ct K G A' σ H0' sl Φ Q := fun w st' v A2 H2 H02 h R e2 s2 r => c w st' v A2 H2 H02 h R (e.trans e2) (s.trans s2) r
theorem CtT.mv {Φ : BK} {Q : Bool → Hp → Prop} (c : CtT K G A σ H0 sl Φ Q) (e : Ext A A') (s : Same H0 H0') : CtT K G A' σ H0' sl Φ Q := fun w st' A2 H2 H02 h R e2 s2 => c w st' A2 H2 H02 h R (e.trans e2) (s.trans s2)
theorem CtA.mv {Φ : LK} {Q : List V → Hp → Prop} (c : CtA K G A σ H0 sl Φ Q) (e : Ext A A') (s : Same H0 H0') : CtA K G A' σ H0' sl Φ Q := fun w st' v A2 H2 H02 h R e2 s2 r => c w st' v A2 H2 H02 h R (e.trans e2) (s.trans s2) r
end
def EW (X : Cx) (G : Ent) (e : Expr) (sl : Sls) (st : List Ob) (Φ : WK) : Prop :=
  ∀ A σ H H0, RS X.K G A σ H H0 sl st → ∀ Q : VK, Ct X.K G A σ H0 sl Φ Q → wpE X e σ H Q
def TW (X : Cx) (G : Ent) (e : Expr) (sl : Sls) (st : List Ob) (Φ : BK) : Prop :=
  ∀ A σ H H0, RS X.K G A σ H H0 sl st → ∀ Q : Bool → Hp → Prop, CtT X.K G A σ H0 sl Φ Q → wpT X e σ H Q
def PWw (X : Cx) (e : Expr) : TT := fun σ H Q => ∀ (wh : Sem Value) (pins : List (Addr × Obj)) (s : Shared), Inv X pins σ H s → wpAny (model X.prog X.w) X.A (isTrue e X.env wh) (TP X pins σ Q) X.xe s
theorem pw_wp {X : Cx} {e : Expr} : PW X e (PWw X e) := ⟨fun wh pins s _ _ _ I h => h wh pins s I⟩
def BW (X : Cx) (G : Ent) (e : Expr) (sl : Sls) (st : List Ob) (Φ : BK) : Prop :=
  ∀ A σ H H0, RS X.K G A σ H H0 sl st → ∀ Q : Bool → Hp → Prop, CtT X.K G A σ H0 sl Φ Q → PWw X e σ H Q
def AW (X : Cx) (G : Ent) (es : List Expr) (sl : Sls) (st : List Ob) (Φ : LK) : Prop :=
  ∀ A σ H H0, RS X.K G A σ H H0 sl st → ∀ Q : List V → Hp → Prop, CtA X.K G A σ H0 sl Φ Q → wpA X es σ H Q
def OW (X : Cx) (G : Ent) (f : Value → Value → Sem Value) (sl : Sls) (st : List Ob) (w1 w2 : W) (Φ : WK) : Prop :=
  ∀ A σ H H0, RS X.K G A σ H H0 sl st → ∀ v1 v2, RepW X.K A H0 v1 w1 → RepW X.K A H0 v2 w2 → ∀ Q : VK, Ct X.K G A σ H0 sl Φ Q → wpO X f v1 v2 H Q
def CW (X : Cx) (G : Ent) (f : Value) (sl : Sls) (st : List Ob) (ws : List W) (Φ : WK) : Prop :=
  ∀ A σ H H0, RS X.K G A σ H H0 sl st → ∀ vs, RepWs X.K A H0 vs ws → ∀ Q : VK, Ct X.K G A σ H0 sl Φ Q → wpC X f vs H Q
section
variable {X : Cx} {G : Ent} {e a b c : Expr} {es : List Expr} {sl : Sls} {st : List Ob} {Φ : WK} {Ψ : BK} {Λ : LK} {pos p : Pos}
theorem EW.imp {Φ' : WK} (h : EW X G e sl st Φ') (i : ∀ w st', Φ' w st' → Φ w st') : EW X G e sl st Φ := fun A σ H H0 R Q k => h A σ H H0 R Q fun w st' v A' H' H0' q => k w st' v A' H' H0' (i _ _ q)
theorem TW.imp {Φ' : BK} (h : TW X G e sl st Φ') (i : ∀ w st', Φ' w st' → Ψ w st') : TW X G e sl st Ψ := fun A σ H H0 R Q k => h A σ H H0 R Q fun w st' A' H' H0' q => k w st' A' H' H0' (i _ _ q)
theorem ew_name (i : Nat) {x : Str} {w : W} (hi : sl[i]? = some (some w)) (h : Φ w st) (hN : X.N[i]? = some x := by rfl) (hv : Vis X.env.scope x := by first | exact Or.inl rfl | exact Or.inr (Or.inl rfl) | exact Or.inr (Or.inr rfl))
    (hd : (x == ("__debug__" : Str)) = false := by decide) (hcd : (x == ("__classdict__" : Str)) = false := by decide) : EW X G (.Name x pos) sl st Φ := fun A σ H H0 R Q k => by
  obtain ⟨v, hv', r⟩ := R.sl.2 i w hi
  exact wpE_of (pe_var hN hv hd hcd) ⟨v, hv', k w st v A H H0 h R (Ext.refl _) (Same.refl _) r⟩
theorem ew_dat {v : V} {d : D} (hp : PE X e (tC v)) (r : ∀ K H, Rep K H v d) (h : Φ (.dat d) st) : EW X G e sl st Φ := fun A σ H H0 R Q k =>
  wpE_of hp (show Q v H from k (.dat d) st v A H H0 h R (Ext.refl _) (Same.refl _) (r _ _))
theorem ew_int {i : Int} {j} (h : Φ (.dat (.int i)) st) : EW X G (.Constant (.int i) j pos) sl st Φ := ew_dat pe_int (fun _ _ => .int i) h
theorem ew_bl {i : Bool} {j} (h : Φ (.dat (.bl i)) st) : EW X G (.Constant (.bool i) j pos) sl st Φ := ew_dat pe_bl (fun _ _ => .bl i) h
theorem ew_non {j} (h : Φ (.dat .non) st) : EW X G (.Constant .none j pos) sl st Φ := ew_dat pe_non (fun _ _ => .non) h
theorem ew_str {x : Str} {j} (h : Φ (.dat (.str x)) st) : EW X G (.Constant (.str x) j pos) sl st Φ := ew_dat pe_str (fun _ _ => .str x) h
theorem ew_gint {x : Str} {i : Int} (hg : Gl X x) (hm : ∃ t, X.mg x = some (.int i t)) (h : Φ (.dat (.int i)) st) (hd : (x == ("__debug__" : Str)) = false := by decide) : EW X G (.Name x pos) sl st Φ := by
  obtain ⟨t, hm⟩ := hm
  exact ew_dat (pe_glob hg hm (v := .int i) ⟨t, rfl⟩ hd) (fun _ _ => .int i) h
theorem ew_gadr {x : Str} {C : Addr} (hg : Gl X x) (hm : X.mg x = some (.ref C)) (h : Φ (.dat (.adr C)) st) (hd : (x == ("__debug__" : Str)) = false := by decide) : EW X G (.Name x pos) sl st Φ :=
  ew_dat (pe_glob hg hm (v := .ref C) rfl hd) (fun _ _ => .adr C) h
theorem ew_gty {x : Str} {n : String} (hv : bootBuiltins x = some (.type n)) (hm : X.mg x = none) (h : Φ (.dat (.ty n)) st) (hg : Gl X x := by rfl) (hn : x ≠ "__name__" := by decide) (hd : (x == ("__debug__" : Str)) = false := by decide) : EW X G (.Name x pos) sl st Φ :=
  ew_dat (pe_bltn hg hm hv (v := .ty n) rfl hn hd) (fun _ _ => .ty n) h
theorem ew_bin {op : Operator} (h : EW X G a sl st fun w1 st1 => EW X G b sl st1 fun w2 st2 => OW X G (binaryOp op) sl st2 w1 w2 Φ) : EW X G (.BinOp a op b pos) sl st Φ := fun A σ H H0 R Q k =>
  wpE_of (pe_op op_wp pe_wp pe_wp) (h A σ H H0 R _ fun w1 st1 v1 A1 H1 H01 e1 R1 x1 s1 r1 => e1 A1 σ H1 H01 R1 _ fun w2 st2 v2 A2 H2 H02 e2 R2 x2 s2 r2 => e2 A2 σ H2 H02 R2 v1 v2 (r1.mono x2 s2) r2 Q (k.mv (x1.trans x2) (s1.trans s2)))
theorem ew_cmp {op : CmpOp} (hm : behindInMarks op b = false) (h : EW X G a sl st fun w1 st1 => EW X G b sl st1 fun w2 st2 => OW X G (compareOp op) sl st2 w1 w2 Φ) : EW X G (.Compare a [op] [b] pos) sl st Φ := fun A σ H H0 R Q k =>
  wpE_of (pe_cmpR op_wp pe_wp pe_wp hm) (h A σ H H0 R _ fun w1 st1 v1 A1 H1 H01 e1 R1 x1 s1 r1 => e1 A1 σ H1 H01 R1 _ fun w2 st2 v2 A2 H2 H02 e2 R2 x2 s2 r2 => e2 A2 σ H2 H02 R2 v1 v2 (r1.mono x2 s2) r2 Q (k.mv (x1.trans x2) (s1.trans s2)))
def Bo (Ψ : BK) : WK := fun w st => ∃ b, w = .dat (.bl b) ∧ Ψ b st
theorem tw_cmp {op : CmpOp} (hm : behindInMarks op b = false) (h : EW X G a sl st fun w1 st1 => EW X G b sl st1 fun w2 st2 => OW X G (compareOp op) sl st2 w1 w2 (Bo Ψ)) : TW X G (.Compare a [op] [b] pos) sl st Ψ := fun A σ H H0 R Q k =>
  wpT_of (pt_cmpR op_wp pe_wp pe_wp hm) (h A σ H H0 R _ fun w1 st1 v1 A1 H1 H01 e1 R1 x1 s1 r1 => e1 A1 σ H1 H01 R1 _ fun w2 st2 v2 A2 H2 H02 e2 R2 x2 s2 r2 => e2 A2 σ H2 H02 R2 v1 v2 (r1.mono x2 s2) r2 _
    fun w st3 v A3 H3 H03 ⟨b, hb, q⟩ R3 x3 s3 r3 => by
      subst hb
      cases r3
      exact ⟨b, rfl, k b st3 A3 H3 H03 q R3 ((x1.trans x2).trans x3) ((s1.trans s2).trans s3)⟩)
theorem ew_chain {op op' : CmpOp} (hm : lastMarks [op, op'] [b, c] = false) (h : EW X G a sl st fun w1 st1 => EW X G b sl st1 fun w2 st2 => OW X G (compareOp op) sl st2 w1 w2 fun w st3 => ∃ k, w = .dat (.bl k) ∧
      if k = true then EW X G c sl st3 fun w3 st4 => OW X G (compareOp op') sl st4 w2 w3 Φ else Φ (.dat (.bl false)) st3) : EW X G (.Compare a [op, op'] [b, c] pos) sl st Φ := fun A σ H H0 R Q k => by
  refine wpE_of (pe_chain op_wp op_wp pe_wp pe_wp pe_wp hm) (h A σ H H0 R _ fun w1 st1 v1 A1 H1 H01 e1 R1 x1 s1 r1 => e1 A1 σ H1 H01 R1 _ fun w2 st2 v2 A2 H2 H02 e2 R2 x2 s2 r2 => e2 A2 σ H2 H02 R2 v1 v2 (r1.mono x2 s2) r2 _
    fun w st3 v A3 H3 H03 ⟨kk, hk, q⟩ R3 x3 s3 r3 => ?_)
  subst hk
  cases r3
  refine ⟨kk, rfl, ?_⟩
  have kk3 := k.mv ((x1.trans x2).trans x3) ((s1.trans s2).trans s3)
  cases kk with
  | true =>
    rw [if_pos rfl] at q ⊢
    exact q A3 σ H3 H03 R3 _ fun w3 st4 v3 A4 H4 H04 e4 R4 x4 s4 r4 => e4 A4 σ H4 H04 R4 v2 v3 (r2.mono (x3.trans x4) (s3.trans s4)) r4 Q (kk3.mv x4 s4)
  | false =>
    rw [if_neg Bool.false_ne_true] at q ⊢
    exact kk3 _ st3 _ A3 H3 H03 q R3 (Ext.refl _) (Same.refl _) (.bl false)
theorem tw_chain {op op' : CmpOp} (hm : lastMarks [op, op'] [b, c] = false) (h : EW X G a sl st fun w1 st1 => EW X G b sl st1 fun w2 st2 => OW X G (compareOp op) sl st2 w1 w2 fun w st3 => ∃ k, w = .dat (.bl k) ∧
      if k = true then EW X G c sl st3 fun w3 st4 => OW X G (compareOp op') sl st4 w2 w3 (Bo Ψ) else Ψ false st3) : TW X G (.Compare a [op, op'] [b, c] pos) sl st Ψ := fun A σ H H0 R Q k => by
  refine wpT_of (pt_chain op_wp op_wp pe_wp pe_wp pe_wp hm) (h A σ H H0 R _ fun w1 st1 v1 A1 H1 H01 e1 R1 x1 s1 r1 => e1 A1 σ H1 H01 R1 _ fun w2 st2 v2 A2 H2 H02 e2 R2 x2 s2 r2 => e2 A2 σ H2 H02 R2 v1 v2 (r1.mono x2 s2) r2 _
    fun w st3 v A3 H3 H03 ⟨kk, hk, q⟩ R3 x3 s3 r3 => ?_)
  subst hk
  cases r3
  refine ⟨kk, rfl, ?_⟩
  have kk3 := k.mv ((x1.trans x2).trans x3) ((s1.trans s2).trans s3)
  cases kk with
  | true =>
    rw [if_pos rfl] at q ⊢
    exact q A3 σ H3 H03 R3 _ fun w3 st4 v3 A4 H4 H04 e4 R4 x4 s4 r4 => e4 A4 σ H4 H04 R4 v2 v3 (r2.mono (x3.trans x4) (s3.trans s4)) r4 _ fun w5 st5 v5 A5 H5 H05 ⟨b5, hb5, q5⟩ R5 x5 s5 r5 => by
      subst hb5
      cases r5
      exact ⟨b5, rfl, kk3 b5 st5 A5 H5 H05 q5 R5 (x4.trans x5) (s4.trans s5)⟩
  | false =>
    rw [if_neg Bool.false_ne_true] at q ⊢
    exact ⟨false, rfl, kk3 false st3 A3 H3 H03 q R3 (Ext.refl _) (Same.refl _)⟩
section
variable {f : Value → Value → Sem Value} {w1 w2 : W}
theorem ow_of {r : R2} (ho : OpR X f r) (h : ∀ A σ H H0, RS X.K G A σ H H0 sl st → ∀ v1 v2, RepW X.K A H0 v1 w1 → RepW X.K A H0 v2 w2 → ∀ Q : VK, Ct X.K G A σ H0 sl Φ Q → r v1 v2 H Q) : OW X G f sl st w1 w2 Φ := fun A σ H H0 R v1 v2 r1 r2 Q k => wpO_of ho (h A σ H H0 R v1 v2 r1 r2 Q k)
theorem ow_I0 {g : Int → Int → V} {g' : Int → Int → D} {i j : Int} (ho : OpR X f (rI0 g)) (hg : ∀ K H i j, Rep K H (g i j) (g' i j)) (h : Φ (.dat (g' i j)) st) : OW X G f sl st (.dat (.int i)) (.dat (.int j)) Φ := ow_of ho fun A σ H H0 R v1 v2 r1 r2 Q k => by
  cases r1
  cases r2
  exact ⟨i, j, rfl, rfl, k _ st _ A H H0 h R (Ext.refl _) (Same.refl _) (hg _ _ i j)⟩
theorem ow_I {C : Int → Int → Prop} {g : Int → Int → V} {g' : Int → Int → D} {i j : Int} (ho : OpR X f (rI C g)) (hg : ∀ K H i j, Rep K H (g i j) (g' i j)) (hc : C i j) (h : Φ (.dat (g' i j)) st) : OW X G f sl st (.dat (.int i)) (.dat (.int j)) Φ := ow_of ho fun A σ H H0 R v1 v2 r1 r2 Q k => by
  cases r1
  cases r2
  exact ⟨i, j, rfl, rfl, hc, k _ st _ A H H0 h R (Ext.refl _) (Same.refl _) (hg _ _ i j)⟩
theorem o_add {i j : Int} (h : Φ (.dat (.int (i + j))) st) : OW X G (binaryOp .Add) sl st (.dat (.int i)) (.dat (.int j)) Φ := ow_I0 (g' := fun i j => .int (i + j)) op_add (fun _ _ _ _ => .int _) h
theorem o_sub {i j : Int} (h : Φ (.dat (.int (i - j))) st) : OW X G (binaryOp .Sub) sl st (.dat (.int i)) (.dat (.int j)) Φ := ow_I0 (g' := fun i j => .int (i - j)) op_sub (fun _ _ _ _ => .int _) h
theorem o_mul {i j : Int} (hc : CMul i j) (h : Φ (.dat (.int (i * j))) st) : OW X G (binaryOp .Mult) sl st (.dat (.int i)) (.dat (.int j)) Φ := ow_I (g' := fun i j => .int (i * j)) op_mul (fun _ _ _ _ => .int _) hc h
theorem o_div {i j : Int} (hc : CDivN i j) (h : Φ (.dat (.int (i.fdiv j))) st) : OW X G (binaryOp .FloorDiv) sl st (.dat (.int i)) (.dat (.int j)) Φ := ow_I (g' := fun i j => .int (i.fdiv j)) op_fdivN (fun _ _ _ _ => .int _) hc h
theorem o_mod {i j : Int} (hc : j ≠ 0) (h : Φ (.dat (.int (i.fmod j))) st) : OW X G (binaryOp .Mod) sl st (.dat (.int i)) (.dat (.int j)) Φ := ow_I (g' := fun i j => .int (i.fmod j)) op_modN (fun _ _ _ _ => .int _) hc h
theorem o_pow {i j : Int} (hc : CPow i j) (h : Φ (.dat (.int (i ^ j.toNat))) st) : OW X G (binaryOp .Pow) sl st (.dat (.int i)) (.dat (.int j)) Φ := ow_I (g' := fun i j => .int (i ^ j.toNat)) op_pow (fun _ _ _ _ => .int _) hc h
theorem o_lt {i j : Int} (h : Φ (.dat (.bl (decide (i < j)))) st) : OW X G (compareOp .Lt) sl st (.dat (.int i)) (.dat (.int j)) Φ := ow_I0 (g' := fun i j => .bl (decide (i < j))) op_lt (fun _ _ _ _ => .bl _) h
theorem o_le {i j : Int} (h : Φ (.dat (.bl (decide (i ≤ j)))) st) : OW X G (compareOp .LtE) sl st (.dat (.int i)) (.dat (.int j)) Φ := ow_I0 (g' := fun i j => .bl (decide (i ≤ j))) op_le (fun _ _ _ _ => .bl _) h
theorem o_gt {i j : Int} (h : Φ (.dat (.bl (decide (j < i)))) st) : OW X G (compareOp .Gt) sl st (.dat (.int i)) (.dat (.int j)) Φ := ow_I0 (g' := fun i j => .bl (decide (j < i))) op_gt (fun _ _ _ _ => .bl _) h
theorem o_ge {i j : Int} (h : Φ (.dat (.bl (decide (j ≤ i)))) st) : OW X G (compareOp .GtE) sl st (.dat (.int i)) (.dat (.int j)) Φ := ow_I0 (g' := fun i j => .bl (decide (j ≤ i))) op_ge (fun _ _ _ _ => .bl _) h
def scV : D → Option V
  | .non => some .non | .bl b => some (.bl b) | .int i => some (.int i) | .str x => some (.str x)
  | _ => none
theorem scV_rep {K : PySem.W.Frag} {H : Hp} {v u : V} {d : D} (h : Rep K H v d) (e : scV d = some u) : v = u := by
  cases h <;> simp [scV] at e <;> exact e
theorem o_eq {d1 d2 : D} {x y : V} (h1 : scV d1 = some x) (h2 : scV d2 = some y) (hs : scal x y = true) (h : Φ (.dat (.bl (decide (x = y)))) st) : OW X G (compareOp .Eq) sl st (.dat d1) (.dat d2) Φ := ow_of op_eq fun A σ H H0 R v1 v2 r1 r2 Q k => by
  obtain rfl := scV_rep r1 h1
  obtain rfl := scV_rep r2 h2
  exact ⟨hs, k _ st _ A H H0 h R (Ext.refl _) (Same.refl _) (.bl _)⟩
theorem o_ne {d1 d2 : D} {x y : V} (h1 : scV d1 = some x) (h2 : scV d2 = some y) (hs : scal x y = true) (h : Φ (.dat (.bl (!decide (x = y)))) st) : OW X G (compareOp .NotEq) sl st (.dat d1) (.dat d2) Φ := ow_of op_ne fun A σ H H0 R v1 v2 r1 r2 Q k => by
  obtain rfl := scV_rep r1 h1
  obtain rfl := scV_rep r2 h2
  exact ⟨hs, k _ st _ A H H0 h R (Ext.refl _) (Same.refl _) (.bl _)⟩
def isNon : W → Bool
  | .dat .non => true
  | _ => false
theorem repW_non {K : PySem.W.Frag} {A : List Addr} {H : Hp} {v : V} {w : W} (h : RepW K A H v w) : decide (v = .non) = isNon w := by
  cases w with
  | dat d => cases h <;> simp [isNon]
  | ptr j => obtain ⟨a, _, rfl⟩ := h; simp [isNon]
theorem o_isN {w : W} (h : Φ (.dat (.bl (isNon w))) st) : OW X G (compareOp .Is) sl st w (.dat .non) Φ := ow_of op_isN fun A σ H H0 R v1 v2 r1 r2 Q k => by
  cases r2
  refine ⟨rfl, ?_⟩
  rw [repW_non r1]
  exact k _ st _ A H H0 h R (Ext.refl _) (Same.refl _) (.bl _)
theorem o_notN {w : W} (h : Φ (.dat (.bl (!isNon w))) st) : OW X G (compareOp .IsNot) sl st w (.dat .non) Φ := ow_of op_notN fun A σ H H0 R v1 v2 r1 r2 Q k => by
  cases r2
  refine ⟨rfl, ?_⟩
  rw [repW_non r1]
  exact k _ st _ A H H0 h R (Ext.refl _) (Same.refl _) (.bl _)
theorem o_cat {xs ys : List D} (hz : xs.length + ys.length ≤ sizeLine) (h : Φ (.dat (.lst (xs ++ ys))) st) : OW X G (binaryOp .Add) sl st (.dat (.lst xs)) (.dat (.lst ys)) Φ := ow_of op_cat fun A σ H H0 R v1 v2 r1 r2 Q k => by
  cases r1 with
  | @lst _ us _ e1 q1 =>
    cases r2 with
    | @lst _ us2 _ e2 q2 =>
      refine ⟨_, _, _, _, rfl, rfl, R.hs.le _ _ e1, R.hs.le _ _ e2, by rw [q1.length, q2.length]; exact hz, fun p hp => ?_⟩
      have s0 := same_upd (o := .lst (us ++ us2)) (R.hs.free0 hp)
      exact k _ st _ A _ _ h (R.alloc hp) (Ext.refl _) s0 (.lst upd_same ((q1.append q2).mono s0))
theorem Reps.rep {K : PySem.W.Frag} {H : Hp} {vs : List V} {xs : List D} (h : Reps K H vs xs) : ∀ n : Nat, Reps K H (List.replicate n vs).flatten (List.replicate n xs).flatten
  | 0 => .nil
  | n + 1 => by
    rw [List.replicate_succ, List.replicate_succ, List.flatten_cons, List.flatten_cons]
    exact h.append (Reps.rep h n)
end
def Tru (st : List Ob) : W → Option Bool
  | .dat .non => some false
  | .dat (.bl b) => some b
  | .dat (.int i) => some (i != 0)
  | .dat (.str y) => if y.length ≤ sizeLine then some ((y.length : Int) != 0) else none
  | .dat (.lst xs) => some (!xs.isEmpty)
  | .dat (.tup xs) => some (!xs.isEmpty)
  | .ptr j => match st[j]? with
    | some (.lst xs) => some (!xs.isEmpty)
    | _ => none
  | _ => none
theorem Reps.isEmpty {K : PySem.W.Frag} {H : Hp} {vs : List V} {xs : List D} (h : Reps K H vs xs) : vs.isEmpty = xs.isEmpty := by cases h <;> rfl
theorem RepWs.isEmpty {K : PySem.W.Frag} {A : List Addr} {H : Hp} {vs : List V} {xs : List W} (h : RepWs K A H vs xs) : vs.isEmpty = xs.isEmpty := by
  cases vs <;> cases xs <;> first | rfl | exact h.elim
theorem truV_of {K : PySem.W.Frag} {G : Ent} {A : List Addr} {σ : St} {H H0 : Hp} {sl : Sls} {st : List Ob} {v : V} {w : W} {k : Bool} (R : RS K G A σ H H0 sl st) (r : RepW K A H0 v w) (h : Tru st w = some k) : TruV K v H k := by
  cases w with
  | dat d =>
    cases r with
    | non => exact (Option.some.inj h).symm
    | bl b => exact (Option.some.inj h).symm
    | int i => exact (Option.some.inj h).symm
    | str x =>
      simp only [Tru] at h
      split at h
      · rename_i hz
        exact ⟨hz, (Option.some.inj h).symm⟩
      · cases h
    | lst e q => exact .inl ⟨_, .inl (.inl (R.hs.le _ _ e)), by rw [q.isEmpty]; exact (Option.some.inj h).symm⟩
    | tup e q => exact .inr (.inl ⟨_, .inl (.inl (R.hs.le _ _ e)), by rw [q.isEmpty]; exact (Option.some.inj h).symm⟩)
    | tupK l c d => exact .inr (.inl ⟨[], sqT_K l c d, (Option.some.inj h).symm⟩)
    | ins e q => cases h
    | scr e => cases h
    | adr a => cases h
    | ty n => cases h
    | err0 => cases h
    | err _ _ => cases h
    | dk _ _ _ => cases h
    | dt _ _ _ => cases h
  | ptr j =>
    simp only [Tru] at h
    split at h
    · rename_i xs hj
      obtain ⟨a, ha, hn, vs, he, rr⟩ := R.at hj
      obtain ⟨a', ha', rfl⟩ := r
      have : a' = a := Option.some.inj (ha'.symm.trans ha)
      subst this
      exact .inl ⟨vs, .inl (.inl he), by rw [rr.isEmpty]; exact (Option.some.inj h).symm⟩
    · cases h
def TrK (Ψ : BK) : WK := fun w st => ∃ k, Tru st w = some k ∧ Ψ k st
theorem tw_val (h : EW X G e sl st (TrK Ψ)) (he : ∀ whole, isTrue e X.env whole = (do let v ← whole; standAt e.pos; holding [v] (truthy v)) := by intro _; rfl) : TW X G e sl st Ψ := fun A σ H H0 R Q k =>
  wpT_of (pt_truth pe_wp he) (h A σ H H0 R _ fun w st' v A' H' H0' ⟨b, hb, q⟩ R' x s r => ⟨b, truV_of R' r hb, k b st' A' H' H0' q R' x s⟩)
theorem tw_not (h : TW X G a sl st fun b st' => Ψ (!b) st') : TW X G (.UnaryOp .Not a pos) sl st Ψ := fun A σ H H0 R Q k =>
  wpT_of (pt_not pt_wp) (h A σ H H0 R _ fun b st' A' H' H0' q R' x s => k (!b) st' A' H' H0' q R' x s)
theorem tw_bool (h : BW X G e sl st Ψ) : TW X G e sl st Ψ := fun A σ H H0 R Q k pins s I => h A σ H H0 R Q k _ pins s I
theorem bw_and1 (h : TW X G a sl st Ψ) : BW X G (.BoolOp .And [a] pos) sl st Ψ := fun A σ H H0 R Q k wh pins s I => (pw_and1 pt_wp).run wh pins s σ H Q I (h A σ H H0 R Q k)
theorem bw_or1 (h : TW X G a sl st Ψ) : BW X G (.BoolOp .Or [a] pos) sl st Ψ := fun A σ H H0 R Q k wh pins s I => (pw_or1 pt_wp).run wh pins s σ H Q I (h A σ H H0 R Q k)
theorem bw_and {rest : List Expr} (h : TW X G a sl st fun k st1 => if k = true then BW X G (.BoolOp .And (b :: rest) pos) sl st1 Ψ else Ψ false st1) : BW X G (.BoolOp .And (a :: b :: rest) pos) sl st Ψ := fun A σ H H0 R Q k wh pins s I => by
  refine (pw_and pt_wp pw_wp).run wh pins s σ H Q I (h A σ H H0 R _ fun c st1 A1 H1 H01 q R1 x1 s1 => ?_)
  cases c with
  | true =>
    rw [if_pos rfl] at q ⊢
    exact q A1 σ H1 H01 R1 Q (k.mv x1 s1)
  | false =>
    rw [if_neg Bool.false_ne_true] at q ⊢
    exact k false st1 A1 H1 H01 q R1 x1 s1
theorem bw_or {rest : List Expr} (h : TW X G a sl st fun k st1 => if k = true then Ψ true st1 else BW X G (.BoolOp .Or (b :: rest) pos) sl st1 Ψ) : BW X G (.BoolOp .Or (a :: b :: rest) pos) sl st Ψ := fun A σ H H0 R Q k wh pins s I => by
  refine (pw_or pt_wp pw_wp).run wh pins s σ H Q I (h A σ H H0 R _ fun c st1 A1 H1 H01 q R1 x1 s1 => ?_)
  cases c with
  | true =>
    rw [if_pos rfl] at q ⊢
    exact k true st1 A1 H1 H01 q R1 x1 s1
  | false =>
    rw [if_neg Bool.false_ne_true] at q ⊢
    exact q A1 σ H1 H01 R1 Q (k.mv x1 s1)
theorem ew_one {op} (h : EW X G a sl st Φ) : EW X G (.BoolOp op [a] pos) sl st Φ := fun A σ H H0 R Q k => wpE_of (pe_one pe_wp) (h A σ H H0 R Q k)
theorem ew_and {rest : List Expr} (h : EW X G a sl st fun w st1 => ∃ k, w = .dat (.bl k) ∧ if k = true then EW X G (.BoolOp .And (b :: rest) pos) sl st1 Φ else Φ (.dat (.bl false)) st1) : EW X G (.BoolOp .And (a :: b :: rest) pos) sl st Φ := fun A σ H H0 R Q k => by
  refine wpE_of (pe_and pe_wp pe_wp) (h A σ H H0 R _ fun w st1 v1 A1 H1 H01 ⟨c, hc, q⟩ R1 x1 s1 r1 => ?_)
  subst hc
  cases r1
  refine ⟨c, rfl, ?_⟩
  cases c with
  | true =>
    rw [if_pos rfl] at q ⊢
    exact q A1 σ H1 H01 R1 Q (k.mv x1 s1)
  | false =>
    rw [if_neg Bool.false_ne_true] at q ⊢
    exact k _ st1 _ A1 H1 H01 q R1 x1 s1 (.bl false)
theorem ew_or {rest : List Expr} (h : EW X G a sl st fun w st1 => ∃ k, w = .dat (.bl k) ∧ if k = true then Φ (.dat (.bl true)) st1 else EW X G (.BoolOp .Or (b :: rest) pos) sl st1 Φ) : EW X G (.BoolOp .Or (a :: b :: rest) pos) sl st Φ := fun A σ H H0 R Q k => by
  refine wpE_of (pe_or pe_wp pe_wp) (h A σ H H0 R _ fun w st1 v1 A1 H1 H01 ⟨c, hc, q⟩ R1 x1 s1 r1 => ?_)
  subst hc
  cases r1
  refine ⟨c, rfl, ?_⟩
  cases c with
  | true =>
    rw [if_pos rfl] at q ⊢
    exact k _ st1 _ A1 H1 H01 q R1 x1 s1 (.bl true)
  | false =>
    rw [if_neg Bool.false_ne_true] at q ⊢
    exact q A1 σ H1 H01 R1 Q (k.mv x1 s1)
theorem ew_not (h : EW X G a sl st fun w st1 => ∃ k, w = .dat (.bl k) ∧ Φ (.dat (.bl (!k))) st1) : EW X G (.UnaryOp .Not a pos) sl st Φ := fun A σ H H0 R Q k => by
  refine wpE_of (pe_not pe_wp) (h A σ H H0 R _ fun w st1 v1 A1 H1 H01 ⟨c, hc, q⟩ R1 x1 s1 r1 => ?_)
  subst hc
  cases r1
  exact ⟨c, rfl, k _ st1 _ A1 H1 H01 q R1 x1 s1 (.bl _)⟩
theorem ew_neg (h : EW X G a sl st fun w st1 => ∃ i, w = .dat (.int i) ∧ Φ (.dat (.int (-i))) st1) : EW X G (.UnaryOp .USub a pos) sl st Φ := fun A σ H H0 R Q k => by
  refine wpE_of (pe_un un_neg pe_wp) (h A σ H H0 R _ fun w st1 v1 A1 H1 H01 ⟨c, hc, q⟩ R1 x1 s1 r1 => ?_)
  subst hc
  cases r1
  exact ⟨c, rfl, k _ st1 _ A1 H1 H01 q R1 x1 s1 (.int _)⟩
theorem ew_if (h : TW X G c sl st fun k st1 => if k = true then EW X G a sl st1 Φ else EW X G b sl st1 Φ) : EW X G (.IfExp c a b pos) sl st Φ := fun A σ H H0 R Q k => by
  refine wpE_of (pe_ifExp pt_wp pe_wp pe_wp) (h A σ H H0 R _ fun d st1 A1 H1 H01 q R1 x1 s1 => ?_)
  cases d with
  | true =>
    rw [if_pos rfl] at q ⊢
    exact q A1 σ H1 H01 R1 Q (k.mv x1 s1)
  | false =>
    rw [if_neg Bool.false_ne_true] at q ⊢
    exact q A1 σ H1 H01 R1 Q (k.mv x1 s1)
theorem aw_nil (h : Λ [] st) : AW X G [] sl st Λ := fun A σ H H0 R Q k => wpA_of pa_nil (show Q [] H from k [] st [] A H H0 h R (Ext.refl _) (Same.refl _) trivial)
theorem aw_cons (h : EW X G e sl st fun w st1 => AW X G es sl st1 fun ws st2 => Λ (w :: ws) st2) (hs : starEach (e :: es) X.env = (false, eval e X.env) :: starEach es X.env := by rfl) : AW X G (e :: es) sl st Λ := fun A σ H H0 R Q k =>
  wpA_of (pa_cons pe_wp pa_wp hs) (h A σ H H0 R _ fun w st1 v1 A1 H1 H01 e1 R1 x1 s1 r1 => e1 A1 σ H1 H01 R1 _ fun ws st2 vs A2 H2 H02 e2 R2 x2 s2 r2 => k (w :: ws) st2 (v1 :: vs) A2 H2 H02 e2 R2 (x1.trans x2) (s1.trans s2) ⟨r1.mono x2 s2, r2⟩)
def datsOf : List W → Option (List D)
  | [] => some []
  | .dat d :: r => (datsOf r).map (d :: ·)
  | .ptr _ :: _ => none
theorem datsOf_eq : ∀ {ws : List W} {ds : List D}, datsOf ws = some ds → ws = ds.map W.dat
  | [], _, h => by cases h; rfl
  | .dat d :: r, ds, h => by
    simp only [datsOf] at h
    cases e : datsOf r with
    | none => rw [e] at h; cases h
    | some es =>
      rw [e] at h
      cases h
      rw [datsOf_eq e]
      rfl
  | .ptr _ :: _, _, h => by cases h
theorem ew_tup {x1} (h : AW X G es sl st fun ws st1 => ∃ ds, datsOf ws = some ds ∧ ds.length ≤ sizeLine ∧ Φ (.dat (.tup ds)) st1) : EW X G (.Tuple es x1 pos) sl st Φ := fun A σ H H0 R Q k => by
  refine wpE_of (pe_tup pa_wp) (h A σ H H0 R _ fun ws st1 vs A1 H1 H01 ⟨ds, hd, hz, q⟩ R1 x1 s1 r1 => ?_)
  have hw := datsOf_eq hd
  subst hw
  have rr := r1.dats
  refine ⟨by rw [rr.length]; exact hz, fun p hp => ?_⟩
  have s0 := same_upd (o := .tup vs) (R1.hs.free0 hp)
  exact k _ st1 _ A1 _ _ q (R1.alloc hp) x1 (s1.trans s0) (.tup upd_same (rr.mono s0))
theorem ew_lst (h : AW X G es sl st fun ws st1 => ∃ ds, datsOf ws = some ds ∧ ds.length ≤ sizeLine ∧ Φ (.dat (.lst ds)) st1) : EW X G (.List es pos) sl st Φ := fun A σ H H0 R Q k => by
  refine wpE_of (pe_lst pa_wp) (h A σ H H0 R _ fun ws st1 vs A1 H1 H01 ⟨ds, hd, hz, q⟩ R1 x1 s1 r1 => ?_)
  have hw := datsOf_eq hd
  subst hw
  have rr := r1.dats
  refine ⟨by rw [rr.length]; exact hz, fun p hp => ?_⟩
  have s0 := same_upd (o := .lst vs) (R1.hs.free0 hp)
  exact k _ st1 _ A1 _ _ q (R1.alloc hp) x1 (s1.trans s0) (.lst upd_same (rr.mono s0))
theorem ew_lstM (h : AW X G es sl st fun ws st1 => ws.length ≤ sizeLine ∧ Φ (.ptr st1.length) (st1 ++ [.lst ws])) : EW X G (.List es pos) sl st Φ := fun A σ H H0 R Q k => by
  refine wpE_of (pe_lst pa_wp) (h A σ H H0 R _ fun ws st1 vs A1 H1 H01 ⟨hz, q⟩ R1 x1 s1 r1 => ?_)
  refine ⟨by rw [r1.length]; exact hz, fun p hp => ?_⟩
  have e : Ext A1 (A1 ++ [p]) := ⟨[p], rfl⟩
  refine k _ _ _ _ _ _ q (R1.push hp ⟨R1.hs.free0 hp, vs, upd_same, r1.mono e (Same.refl _)⟩) (x1.trans e) s1 ⟨p, ?_, rfl⟩
  rw [← R1.hs.al, List.getElem?_append_right (Nat.le_refl _)]
  simp
end
end Dn
namespace Dn
open PySem PySem.Spec L2 StX ClX
open PyProof.Rows hiding St
abbrev XKD := Value → List (Str × D) → List Ob → Prop
abbrev FT := List W → List Ob → WK → XKD → Prop
def XD (H : Hp) (d : Option Addr) (vfs : List (Str × V)) : Prop := (d = none ∧ vfs = []) ∨ ∃ dx, d = some dx ∧ H dx = some (.xd vfs)
def spD (K : PySem.W.Frag) (F : FT) : Sp := fun vs H Q E => ∃ H0 A args st Ret Exc, HS K A H H0 st ∧ RepWs K A H0 vs args ∧ F args st Ret Exc ∧
  (∀ w st' v A' H' H0', Ret w st' → HS K A' H' H0' st' → Fr ⟨H, H0, A⟩ A' H' H0' → RepW K A' H0' v w → Q v H') ∧
  (∀ cls fs d vfs st' A' H' H0', Exc cls fs st' → HS K A' H' H0' st' → Fr ⟨H, H0, A⟩ A' H' H0' → XD H0' d vfs → RepF K H0' vfs fs → E cls d H')
abbrev XKS := Value → List (Str × D) → Sls → List Ob → Prop
def XOk (X : Cx) (G : Ent) (Kx : XKS) : Prop := ∃ Wx : WX, Takes X Wx ∧ ∀ cls fs d vfs A σ H H0 sl st, Kx cls fs sl st → RS X.K G A σ H H0 sl st → XD H0 d vfs → RepF X.K H0 vfs fs → Wx cls d σ H
def KF : XKS := fun _ _ _ _ => False
theorem xok_false {X : Cx} {G : Ent} : XOk X G KF := ⟨fun _ _ _ _ => False, takes0, fun _ _ _ _ _ _ _ _ _ _ h => h.elim⟩
def CloW (n : Nat) : W → Prop
  | .dat _ => True
  | .ptr j => j < n
def Clo (n : Nat) : Ob → Prop
  | .gone => True
  | .lst xs => ∀ w ∈ xs, CloW n w
  | .ins _ fs => ∀ p ∈ fs, CloW n p.2
  | .dct kvs => ∀ p ∈ kvs, CloW n p.2
  | .dtt kvs => ∀ p ∈ kvs, CloW n p.2
def Clos (st : List Ob) : Prop := ∀ o ∈ st, Clo st.length o
section
variable {K : PySem.W.Frag} {G : Ent} {A A' : List Addr} {σ : St} {H H' H0 H0' : Hp} {sl : Sls} {st st' : List Ob}
theorem RepW.clo {v : V} {w : W} (h : RepW K A H v w) : CloW A.length w := by
  cases w with
  | dat d => trivial
  | ptr j =>
    obtain ⟨a, h, _⟩ := h
    exact (List.getElem?_eq_some_iff.mp h).1
theorem RepWs.clo : ∀ {vs : List V} {ws : List W}, RepWs K A H vs ws → ∀ w ∈ ws, CloW A.length w
  | [], [], _, _, h => by simp at h
  | _ :: _, _ :: _, h, w, hw => by
    rcases List.mem_cons.mp hw with rfl | hw
    · exact h.1.clo
    · exact RepWs.clo h.2 w hw
theorem RepWF.clo : ∀ {vs : List (Str × V)} {ws : List (Str × W)}, RepWF K A H vs ws → ∀ p ∈ ws, CloW A.length p.2
  | [], [], _, _, h => by simp at h
  | _ :: _, _ :: _, h, w, hw => by
    rcases List.mem_cons.mp hw with rfl | hw
    · exact h.2.1.clo
    · exact RepWF.clo h.2.2 w hw
theorem RepWK.clo {κ : Type} : ∀ {vs : List (κ × V)} {ws : List (κ × W)}, RepWK K A H vs ws → ∀ p ∈ ws, CloW A.length p.2
  | [], [], _, _, h => by simp at h
  | _ :: _, _ :: _, h, w, hw => by
    rcases List.mem_cons.mp hw with rfl | hw
    · exact h.2.1.clo
    · exact RepWK.clo h.2.2 w hw
theorem HS.clos (h : HS K A H H0 st) : Clos st := fun o ho => by
  obtain ⟨j, hj, e⟩ := List.mem_iff_getElem.mp ho
  have hj' : j < A.length := by rw [h.al]; exact hj
  have q := h.ob j A[j] o (List.getElem?_eq_getElem hj') (by rw [List.getElem?_eq_getElem hj, e])
  rw [← h.al]
  cases o with
  | gone => trivial
  | lst xs => obtain ⟨_, vs, _, r⟩ := q; exact r.clo
  | ins C fs => obtain ⟨_, dx, vs, _, r⟩ := q; exact r.clo
  | dct kvs => obtain ⟨_, vs, _, r⟩ := q; exact r.clo
  | dtt kvs => obtain ⟨_, vs, _, r⟩ := q; exact r.clo
theorem RepW.take {n : Nat} {v : V} {w : W} (h : RepW K A H v w) (c : CloW n w) : RepW K (A.take n) H v w := by
  cases w with
  | dat d => exact h
  | ptr j =>
    obtain ⟨a, h, e⟩ := h
    exact ⟨a, by rw [List.getElem?_take_of_lt c]; exact h, e⟩
theorem RepWs.takeA {n : Nat} : ∀ {vs : List V} {ws : List W}, RepWs K A H vs ws → (∀ w ∈ ws, CloW n w) → RepWs K (A.take n) H vs ws
  | [], [], _, _ => trivial
  | _ :: _, _ :: _, h, c => ⟨h.1.take (c _ List.mem_cons_self), RepWs.takeA h.2 fun w hw => c w (List.mem_cons_of_mem _ hw)⟩
theorem RepWF.takeA {n : Nat} : ∀ {vs : List (Str × V)} {ws : List (Str × W)}, RepWF K A H vs ws → (∀ w ∈ ws, CloW n w.2) → RepWF K (A.take n) H vs ws
  | [], [], _, _ => trivial
  | _ :: _, _ :: _, h, c => ⟨h.1, h.2.1.take (c _ List.mem_cons_self), RepWF.takeA h.2.2 fun w hw => c w (List.mem_cons_of_mem _ hw)⟩
theorem RepWK.takeA {κ : Type} {n : Nat} : ∀ {vs : List (κ × V)} {ws : List (κ × W)}, RepWK K A H vs ws → (∀ w ∈ ws, CloW n w.2) → RepWK K (A.take n) H vs ws
  | [], [], _, _ => trivial
  | _ :: _, _ :: _, h, c => ⟨h.1, h.2.1.take (c _ List.mem_cons_self), RepWK.takeA h.2.2 fun w hw => c w (List.mem_cons_of_mem _ hw)⟩
theorem ObRep.takeA {n : Nat} {a : Addr} {o : Ob} (h : ObRep K A H H0 a o) (c : Clo n o) : ObRep K (A.take n) H H0 a o := by
  cases o with
  | gone => exact h
  | lst xs => obtain ⟨z, vs, e, r⟩ := h; exact ⟨z, vs, e, r.takeA c⟩
  | ins C fs => obtain ⟨z, dx, vs, e, r⟩ := h; exact ⟨z, dx, vs, e, r.takeA c⟩
  | dct kvs => obtain ⟨z, vs, e, r⟩ := h; exact ⟨z, vs, e, r.takeA c⟩
  | dtt kvs => obtain ⟨z, vs, e, r⟩ := h; exact ⟨z, vs, e, r.takeA c⟩
theorem HS.drop {g : List Ob} (h : HS K A H H0 (st ++ g)) (c : Clos st) : HS K (A.take st.length) H H0 st := by
  have hl := h.al
  rw [List.length_append] at hl
  refine ⟨h.le, by rw [List.length_take]; omega, h.nd.sublist (List.take_sublist _ _), fun j a o ha ho => ?_⟩
  have hj := (List.getElem?_eq_some_iff.mp ho).1
  rw [List.getElem?_take_of_lt hj] at ha
  exact (h.ob j a o ha (by rw [List.getElem?_append_left hj]; exact ho)).takeA (c o (List.mem_of_getElem? ho))
theorem Fr.drop {n : Nat} (f : Fr G A H H0) (hn : G.A.length ≤ n) : Fr G (A.take n) H H0 := by
  refine ⟨f.fr, f.old, f.new, ?_, fun b hb => f.loc b (List.mem_of_mem_take hb)⟩
  obtain ⟨B, e⟩ := f.pre
  refine ⟨B.take (n - G.A.length), ?_⟩
  rw [e, List.take_append, List.take_of_length_le hn]
theorem fresh_in (fr : Fr G A H H0) (hs : HS K A H H0 st) {b : Addr} (h : Fresh0 H b) : (∃ u, G.H0 b = some u) ∨ Fresh0 G.H b := by
  by_cases hb : b ∈ G.A
  · have hA := fr.pre.mem hb
    obtain ⟨j, hj, e⟩ := List.mem_iff_getElem.mp hA
    have hj' : j < st.length := by rw [← hs.al]; exact hj
    have q := hs.ob j b st[j] (by rw [List.getElem?_eq_getElem hj, e]) (List.getElem?_eq_getElem hj')
    revert q
    cases st[j] with
    | gone => rintro ⟨o, q⟩; exact fr.new b o q
    | lst ys => rintro ⟨_, vs, q, _⟩; obtain ⟨xs, z⟩ := h _ q; cases z
    | ins C fs => rintro ⟨_, dx, vs, q, _⟩; obtain ⟨xs, z⟩ := h _ q; cases z
    | dct kvs => rintro ⟨_, vs, q, _⟩; obtain ⟨xs, z⟩ := h _ q; cases z
    | dtt kvs => rintro ⟨_, vs, q, _⟩; obtain ⟨xs, z⟩ := h _ q; cases z
  · exact .inr fun o e => h o (fr.fr b o e hb)
theorem RS.after (R : RS K G A σ H H0 sl st) (h : HS K A' H' H0' st') (f : Fr ⟨H, H0, A⟩ A' H' H0') : RS K G A' σ H' H0' sl st' := by
  refine ⟨R.sl.mono f.pre f.old, h, ⟨fun b o e hb => ?_, R.fr.old.trans f.old, fun b o e => ?_, R.fr.pre.trans f.pre, fun b hb => ?_⟩⟩
  · have e1 := R.fr.fr b o e hb
    refine f.fr b o e1 fun hA => ?_
    rcases R.fr.loc b hA with z | z
    · exact hb z
    · rw [e] at z
      cases z
  · rcases f.new b o e with ⟨u, e1⟩ | e1
    · exact R.fr.new b u e1
    · exact fresh_in R.fr R.hs e1
  · rcases f.loc b hb with z | z
    · exact R.fr.loc b z
    · exact .inr (free_in R.fr R.hs z)
theorem Fr.refl (h : HS K A H H0 st) : Fr ⟨H, H0, A⟩ A H H0 := ⟨fun _ _ e _ => e, Same.refl _, fun _ o e => .inl ⟨o, e⟩, Ext.refl _, fun _ hb => .inl hb⟩
theorem RS.freeze (R : RS K G A σ H H0 sl st) {j : Nat} {p : Addr} {o : HO} {u : Ob} (hj : A[j]? = some p) (hs : st[j]? = some u) (hp : H p = some o) (h0 : H0 p = none) (hG : G.H p = none) : RS K G A σ H (upd H0 p o) sl (st.set j .gone) := by
  have s0 : Same H0 (upd H0 p o) := same_upd h0
  refine ⟨R.sl.mono (Ext.refl _) s0, ⟨fun b u h => ?_, by simp [R.hs.al], R.hs.nd, fun i a x ha hx => ?_⟩, ⟨R.fr.fr, R.fr.old.trans s0, fun b u h => ?_, R.fr.pre, R.fr.loc⟩⟩
  · by_cases hb : b = p
    · subst hb
      rw [upd_same] at h
      cases h
      exact hp
    · rw [upd_ne hb] at h
      exact R.hs.le _ _ h
  · by_cases hi : j = i
    · subst hi
      rw [List.getElem?_set_self (List.getElem?_eq_some_iff.mp hs).1] at hx
      cases hx
      have : a = p := Option.some.inj (ha.symm.trans hj)
      subst this
      exact ⟨o, upd_same⟩
    · rw [List.getElem?_set_ne hi] at hx
      have hap : a ≠ p := fun z => by
        subst z
        have h1 := List.getElem?_eq_some_iff.mp ha
        have h2 := List.getElem?_eq_some_iff.mp hj
        exact hi ((List.getElem_inj R.hs.nd).mp (h2.2.trans h1.2.symm))
      exact (R.hs.ob i a x ha hx).mono0 (Ext.refl _) s0 fun z => by rw [upd_ne hap]; exact z
  · by_cases hb : b = p
    · subst hb
      exact .inr (fresh0_none hG)
    · rw [upd_ne hb] at h
      exact R.fr.new _ _ h
end
structure RoomG (k : Nat) (A : Around) : Prop where
  r : L2.Room k A
  gd : A.guards = some []
theorem RoomG.hd {k : Nat} {A : Around} (h : RoomG k A) : A.handled = none := h.r.hd
theorem RoomG.dp {k : Nat} {A : Around} (h : RoomG k A) : A.depth + 3 * k + 5 < recursionLimit := h.r.dp
theorem RoomG.un {k : Nat} {A : Around} (h : RoomG k A) : A.units + 16 * k + 200 < cLine := h.r.un
theorem RoomG.units {k : Nat} {A : Around} (h : RoomG k A) : A.units + 64 < cLine := h.r.units
theorem RoomG.mono {j k : Nat} {A : Around} (h : RoomG k A) (l : j ≤ k) : RoomG j A := ⟨h.r.mono l, h.gd⟩
theorem RoomG.deeper {k : Nat} {A : Around} (h : RoomG (k + 1) A) (env : Env) : RoomG k (A.deeper env) := ⟨h.r.deeper env, h.gd⟩
theorem RoomG.in1 {k : Nat} {A : Around} (h : RoomG (k + 1) A) : RoomG k A.in1 := ⟨h.r.in1, h.gd⟩
theorem RoomG.make {k : Nat} {A : Around} (h : RoomG (k + 1) A) (C : Addr) (us : List Value) (kw : List (Str × Value)) : RoomG k (A.under (.builtin "type.__call__" ⟨.ref C :: us, kw⟩)) := by
  refine ⟨h.r.make C us kw, ?_⟩
  have e : pushGuards (Code.builtin "type.__call__" ⟨.ref C :: us, kw⟩).guards A.guards = some [] := by
    rw [h.gd]
    simp [Code.guards, Code.isGuard, guardIds, pushGuards]
  simpa [Around.under] using e
def FnG (P : Program) (w : World) (K : PySem.W.Frag) (mg : Str → Option Value) (base : Heap) (CX : CXT) (k : Nat) (f : Addr) (sp : Sp) : Prop :=
  ∀ (B : Around) (out : List Env) (t : Shared) (h : Hp) (us : List Value) (xs : List V) (Q : VK) (E : XK), RoomG k B → Env0 P w K mg base B out t h → Vals xs us → sp xs h Q E → codeAny (model P w) B (.call (.ref f) ⟨us, []⟩) (CR CX out P w h t Q E) t
def Cal (P : Program) (w : World) (K : PySem.W.Frag) (mg : Str → Option Value) (base : Heap) (k : Nat) (x : Str) (F : FT) : Prop :=
  ∃ f : Addr, mg x = some (.ref f) ∧ PySem.W.keepIn K (.ref f) = true ∧ FnG P w K mg base (L2.CX P w) k f (spD K F)
def Mak (P : Program) (w : World) (K : PySem.W.Frag) (mg : Str → Option Value) (base : Heap) (k : Nat) (x : Str) (C : Addr) (F : FT) : Prop :=
  ∃ f : Addr, mg x = some (.ref C) ∧ L2.Mk K C f ∧ FnG P w K mg base (L2.CX P w) k f (spD K F)
def Met (P : Program) (w : World) (K : PySem.W.Frag) (mg : Str → Option Value) (base : Heap) (k : Nat) (C : Addr) (m : Str) (F : FT) : Prop :=
  ∃ f : Addr, L2.Cls K C ∧ L2.Meth K C m f ∧ FnG P w K mg base (L2.CX P w) k f (spD K F)
def CalO (P : Program) (w : World) (K : PySem.W.Frag) (mg : Str → Option Value) (base : Heap) (k : Nat) (C : Addr) (F : FT) : Prop :=
  ∃ f : Addr, StX.CallO K C f ∧ FnG P w K mg base (L2.CX P w) k f (spD K F)
def CMt (P : Program) (w : World) (K : PySem.W.Frag) (mg : Str → Option Value) (base : Heap) (k : Nat) (C : Addr) (m : Str) (F : FT) : Prop :=
  ∃ (mc : Value) (p g : Addr), ClX.CRead K C mc ∧ ClX.CMet K C mc m p g ∧ FnG P w K mg base (L2.CX P w) k g (spD K F)
section
variable {X : Cx} {G : Ent} {sl : Sls} {st : List Ob} {Φ : WK} {Kx : XKS} {F : FT} {k j : Nat}
theorem run_D {pins : List (Addr × Obj)} {A : List Addr} {σ : St} {H H0 : Hp} {s : Shared} {f : Addr} {us : List Value} {vs : List V} {ws : List W} {Q : VK} {Ret : WK} {Exc : XKD} (Fn : FnG X.prog X.w X.K X.mg X.base (L2.CX X.prog X.w) k f (spD X.K F)) (hr : RoomG k X.A) (xk : XOk X G Kx) (R : RS X.K G A σ H H0 sl st)
    (rw : RepWs X.K A H0 vs ws) (I : Inv X pins σ H s) (r : Vals vs us) (hF : F ws st Ret Exc) (hR : ∀ w st' v A' H' H0', Ret w st' → RS X.K G A' σ H' H0' sl st' → Ext A A' → Same H0 H0' → RepW X.K A' H0' v w → Q v H') (hE : ∀ cls fs st', Exc cls fs st' → Kx cls fs sl st') :
    codeAny (model X.prog X.w) X.A (.call (.ref f) ⟨us, []⟩) (fun r s' => match r with | .ok (.ret v) => EP X pins σ Q v s' | .ok _ => False | .error e => X.xe e s') s := by
  obtain ⟨Wx, tk, hW⟩ := xk
  refine codeAny_mono (Fn X.A X.stack s H us vs Q (WE Wx σ) hr I.env0 r ⟨H0, A, ws, st, Ret, Exc, R.hs, rw, hF, fun w st' v A' H' H0' q hs fr rr => ?_, fun cls fs d vfs st' A' H' H0' q hs fr xd rf => ?_⟩) fun r s' hq => ?_
  · exact hR w st' v A' H' H0' q (R.after hs fr) fr.pre fr.old rr
  · exact hW cls fs d vfs A' σ H' H0' sl st' (hE _ _ _ q) (R.after hs fr) xd rf
  · cases r with
    | error e => exact passAt tk σ pins H s e s' I hq
    | ok fl =>
      cases fl with
      | ret u => exact I.after hq
      | next => exact False.elim hq
      | brk => exact False.elim hq
      | cont => exact False.elim hq
theorem run_call {pins : List (Addr × Obj)} {A : List Addr} {σ : St} {H H0 : Hp} {s : Shared} {f : Addr} {us : List Value} {vs : List V} {ws : List W} {Q : VK} (Fn : FnG X.prog X.w X.K X.mg X.base (L2.CX X.prog X.w) k f (spD X.K F)) (hr : RoomG k X.A) (xk : XOk X G Kx) (R : RS X.K G A σ H H0 sl st)
    (rw : RepWs X.K A H0 vs ws) (I : Inv X pins σ H s) (r : Vals vs us) (hF : F ws st Φ (fun cls fs st' => Kx cls fs sl st')) (c : Ct X.K G A σ H0 sl Φ Q) : wpAny (model X.prog X.w) X.A (call (.ref f) us) (EP X pins σ Q) X.xe s := by
  refine wpAny_call (codeAny_mono (run_D Fn hr xk R rw I r hF c fun _ _ _ q => q) fun r s' q => ?_)
  cases r with
  | error e => exact q
  | ok fl => cases fl <;> exact q
variable {x m : Str} {p pos apos : Pos} {e o : Expr} {es : List Expr}
theorem ew_call (c : Cal X.prog X.w X.K X.mg X.base k x F) (hr : RoomG j X.A) (hk : k ≤ j) (xk : XOk X G Kx) (h : AW X G (e :: es) sl st fun ws st1 => F ws st1 Φ fun cls fs st2 => Kx cls fs sl st2) (hg : Gl X x := by rfl) (hdb : (x == ("__debug__" : Str)) = false := by decide)
    (he : starEach (e :: es) X.env = (false, eval e X.env) :: starEach es X.env := by rfl) (hpl : (backTo pos (starEach es X.env)).any (·.1) = false := by rfl) : EW X G (.Call (.Name x p) (e :: es) [] pos) sl st Φ := fun A σ H H0 R Q k pins s I => by
  obtain ⟨f, hm, hkp, Fn⟩ := c
  refine wpAny_Call_Name_kw (ld_glob I hg hm ?_ hdb)
  refine PySem.W.callWith_K (h₀ := X.base) I.ok.mod.kin hkp (thn (h A σ H H0 R (fun vs H1 => ∃ A1 H01 st1 ws, F ws st1 Φ (fun cls fs st2 => Kx cls fs sl st2) ∧ RS X.K G A1 σ H1 H01 sl st1 ∧ Ext A A1 ∧ Same H0 H01 ∧ RepWs X.K A1 H01 vs ws)
    (fun ws st1 vs A1 H1 H01 q R1 x1 s1 r1 => ⟨A1, H01, st1, ws, q, R1, x1, s1, r1⟩) pos pins s I) fun us s1 ⟨vs, H1, I1, r, A1, H01, st1, ws, q, R1, x1, s1', r1⟩ => ⟨I1.kIn, ?_⟩) he hpl
  exact run_call Fn (hr.mono hk) xk R1 r1 I1 r q (k.mv x1 s1')
theorem ew_call0 (c : Cal X.prog X.w X.K X.mg X.base k x F) (hr : RoomG j X.A) (hk : k ≤ j) (xk : XOk X G Kx) (h : F [] st Φ fun cls fs st2 => Kx cls fs sl st2) (hg : Gl X x := by rfl) (hdb : (x == ("__debug__" : Str)) = false := by decide) : EW X G (.Call (.Name x p) [] [] pos) sl st Φ := fun A σ H H0 R Q k pins s I => by
  obtain ⟨f, hm, hkp, Fn⟩ := c
  refine wpAny_Call_Name_kw (ld_glob I hg hm ?_ hdb)
  exact PySem.W.callWith_K0 I.kIn hkp (run_call (vs := []) (ws := []) (us := []) Fn (hr.mono hk) xk R trivial I .nil h k)
theorem ew_meth {C : Addr} {fs : List (Str × D)} {pl : Sem Bool} (c : Met X.prog X.w X.K X.mg X.base k C m F) (hr : RoomG j X.A) (hk : k ≤ j) (xk : XOk X G Kx)
    (h : EW X G o sl st fun w st1 => ∃ fs, w = .dat (.ins C fs) ∧ fs.lookup m = none ∧ AW X G (e :: es) sl st1 fun ws st2 => F (w :: ws) st2 Φ fun cls fs st3 => Kx cls fs sl st3)
    (hst : starEach (e :: es) X.env = (false, eval e X.env) :: starEach es X.env := by rfl) (hpl : (backTo pos (starEach es X.env)).any (·.1) = false := by rfl)
    (ht : eval (.Call (.Attribute o m apos) (e :: es) [] pos) X.env = (do
      let ov ← eval o X.env
      standAt apos.atName
      let (f, first) ← holding [ov] (getMethod ov m pl)
      callWith pos f first (backTo pos (starEach (e :: es) X.env)) (backToKw pos (keywordEach [] X.env))) := by rfl) : EW X G (.Call (.Attribute o m apos) (e :: es) [] pos) sl st Φ := fun A σ H H0 R Q k pins s I => by
  obtain ⟨f, cl, hm, Fn⟩ := c
  refine PySem.W.methodCall_KW (pl := pl) (thn (h A σ H H0 R (fun v H1 => ∃ A1 H01 st1 fs, fs.lookup m = none ∧ (AW X G (e :: es) sl st1 fun ws st2 => F (.dat (.ins C fs) :: ws) st2 Φ fun cls fs st3 => Kx cls fs sl st3) ∧ RS X.K G A1 σ H1 H01 sl st1 ∧ Ext A A1 ∧ Same H0 H01 ∧ Rep X.K H01 v (.ins C fs))
    (fun w st1 v A1 H1 H01 ⟨fs, ew, l, q⟩ R1 x1 s1 r1 => by subst ew; exact ⟨A1, H01, st1, fs, l, q, R1, x1, s1, r1⟩) pins s I) fun u s1 ⟨v, H1, I1, rx, A1, H01, st1, fs, l, q, R1, x1, s1', r1⟩ => ?_) ht
  cases r1 with
  | @ins a _ dx vs _ hin rf =>
  obtain rfl : u = Value.ref a := rx
  refine getmeth_ok I1 (R1.hs.le _ _ hin) cl hm (rf.lookup_none l) ?_
  refine PySem.W.callWith_K (first := [.ref a]) (h₀ := X.base) I.ok.mod.kin hm.kp (thn (q A1 σ H1 H01 R1 (fun us H2 => ∃ A2 H02 st2 ws, F (.dat (.ins C fs) :: ws) st2 Φ (fun cls fs st3 => Kx cls fs sl st3) ∧ RS X.K G A2 σ H2 H02 sl st2 ∧ Ext A1 A2 ∧ Same H01 H02 ∧ RepWs X.K A2 H02 us ws)
    (fun ws st2 us A2 H2 H02 q R2 x2 s2 r2 => ⟨A2, H02, st2, ws, q, R2, x2, s2, r2⟩) pos pins s1 I1) fun us s2 ⟨vs2, H2, I2, r, A2, H02, st2, ws, q2, R2, x2, s2', r2⟩ => ⟨I2.kIn, ?_⟩) hst hpl
  exact run_call (us := .ref a :: us) (vs := .ref a :: vs2) (ws := .dat (.ins C fs) :: ws) Fn (hr.mono hk) xk R2 ⟨Rep.mono (.ins hin rf) s2', r2⟩ I2 (.cons rfl r) q2 (k.mv (x1.trans x2) (s1'.trans s2'))
theorem ew_callO {C : Addr} (c : CalO X.prog X.w X.K X.mg X.base k C F) (hr : RoomG j X.A) (hk : k ≤ j) (xk : XOk X G Kx)
    (h : EW X G o sl st fun w st1 => ∃ fs, w = .dat (.ins C fs) ∧ AW X G (e :: es) sl st1 fun ws st2 => F (w :: ws) st2 Φ fun cls fs st3 => Kx cls fs sl st3)
    (ht : eval (.Call o (e :: es) [] pos) X.env = (do callWith pos (← eval o X.env) [] (backTo pos (starEach (e :: es) X.env)) (backToKw pos (keywordEach [] X.env))) := by rfl)
    (he : starEach (e :: es) X.env = (false, eval e X.env) :: starEach es X.env := by rfl) (hpl : (backTo pos (starEach es X.env)).any (·.1) = false := by rfl) : EW X G (.Call o (e :: es) [] pos) sl st Φ := fun A σ H H0 R Q k pins s I => by
  obtain ⟨f, c, Fn⟩ := c
  refine Call_ (thn (h A σ H H0 R (fun v H1 => ∃ A1 H01 st1 fs, (AW X G (e :: es) sl st1 fun ws st2 => F (.dat (.ins C fs) :: ws) st2 Φ fun cls fs st3 => Kx cls fs sl st3) ∧ RS X.K G A1 σ H1 H01 sl st1 ∧ Ext A A1 ∧ Same H0 H01 ∧ Rep X.K H01 v (.ins C fs))
    (fun w st1 v A1 H1 H01 ⟨fs, ew, q⟩ R1 x1 s1 r1 => by subst ew; exact ⟨A1, H01, st1, fs, q, R1, x1, s1, r1⟩) pins s I) fun u s1 ⟨v, H1, I1, rx, A1, H01, st1, fs, q, R1, x1, s1', r1⟩ => ?_) ht
  cases r1 with
  | @ins a _ dx vs _ hin rf =>
  obtain rfl : u = Value.ref a := rx
  refine callO_with (thn (q A1 σ H1 H01 R1 (fun us H2 => ∃ A2 H02 st2 ws, F (.dat (.ins C fs) :: ws) st2 Φ (fun cls fs st3 => Kx cls fs sl st3) ∧ RS X.K G A2 σ H2 H02 sl st2 ∧ Ext A1 A2 ∧ Same H01 H02 ∧ RepWs X.K A2 H02 us ws)
    (fun ws st2 us A2 H2 H02 q R2 x2 s2 r2 => ⟨A2, H02, st2, ws, q, R2, x2, s2, r2⟩) pos pins s1 I1) fun us s2 ⟨vs2, H2, I2, r, A2, H02, st2, ws, q2, R2, x2, s2', r2⟩ => ?_) he hpl
  have hi : StX.InsC X H2 a C := .inr ⟨dx, vs, R2.hs.le _ _ (s2' _ _ hin)⟩
  obtain ⟨ox, od, J, hd⟩ := insC_at I2 hi
  exact ⟨⟨C, ox, od, J, hd⟩, wpAny_call (PySem.W.kco_code I2.kIn J hd c.at_ c.fn c.fi (codeAny_mono (run_D (us := .ref a :: us) (vs := .ref a :: vs2) (ws := .dat (.ins C fs) :: ws) (Ret := Φ) Fn (hr.mono hk) xk R2 ⟨Rep.mono (.ins hin rf) s2', r2⟩ I2 (.cons rfl r) q2 (k.mv (x1.trans x2) (s1'.trans s2')) fun _ _ _ q => q) fun r s' q => by
    cases r with
    | error e => exact q
    | ok fl => cases fl <;> exact q))⟩
def MkK (C : Addr) (n : Nat) (Φ : WK) : WK := fun w st' => w = .dat .non ∧ ∃ st1 fs, st' = st1 ++ [.ins C (fs.map fun p => (p.1, W.dat p.2))] ∧ st1.length = n ∧ Clos st1 ∧ Φ (.dat (.ins C fs)) st1
theorem run_mk {pins : List (Addr × Obj)} {A : List Addr} {σ : St} {H H0 : Hp} {s : Shared} {f C : Addr} {us : List Value} {vs : List V} {ws : List W} {Q : VK} (M : L2.Mk X.K C f) (Fn : FnG X.prog X.w X.K X.mg X.base (L2.CX X.prog X.w) k f (spD X.K F)) (hr : RoomG (k + 1) X.A) (xk : XOk X G Kx) (R : RS X.K G A σ H H0 sl st)
    (rw : RepWs X.K A H0 vs ws) (I : Inv X pins σ H s) (r : Vals vs us) (hF : F (.ptr st.length :: ws) (st ++ [.ins C []]) (MkK C st.length Φ) (fun cls fs st' => Kx cls fs sl st')) (c : Ct X.K G A σ H0 sl Φ Q) : wpAny (model X.prog X.w) X.A (call (.ref C) us) (EP X pins σ Q) X.xe s := by
  obtain ⟨Wx, tk, hW⟩ := xk
  have nx : H (s.heap.objs.size + 1) = none := I.hok.fresh (Nat.le_succ _)
  have nd : H s.heap.objs.size = none := I.hok.fresh (Nat.le_refl _)
  have ne : s.heap.objs.size ≠ s.heap.objs.size + 1 := Nat.ne_of_lt (Nat.lt_succ_self _)
  have nx2 : upd H s.heap.objs.size (.own (s.heap.objs.size + 1)) (s.heap.objs.size + 1) = none := by rw [upd_ne (Ne.symm ne)]; exact nx
  have R1 : RS X.K G (A ++ [s.heap.objs.size + 1]) σ (upd (upd H s.heap.objs.size (.own (s.heap.objs.size + 1))) (s.heap.objs.size + 1) (.ins C s.heap.objs.size [])) H0 sl (st ++ [.ins C []]) :=
    (R.fresh (o := .own (s.heap.objs.size + 1)) nd).push nx2 ⟨R.hs.free0 nx, s.heap.objs.size, [], upd_same, trivial⟩
  have I2 := Inv.made (C := C) I
  have e : Ext A (A ++ [s.heap.objs.size + 1]) := ⟨[s.heap.objs.size + 1], rfl⟩
  have hxA : (A ++ [s.heap.objs.size + 1])[st.length]? = some (s.heap.objs.size + 1) := by
    rw [← R.hs.al, List.getElem?_append_right (Nat.le_refl _)]
    simp
  have r2 : Vals (V.ref (s.heap.objs.size + 1) :: vs) (Value.ref (s.heap.objs.size + 1) :: us) := .cons rfl r
  have rw2 : RepWs X.K (A ++ [s.heap.objs.size + 1]) H0 (V.ref (s.heap.objs.size + 1) :: vs) (W.ptr st.length :: ws) := ⟨⟨_, hxA, rfl⟩, rw.mono e (Same.refl _)⟩
  have gx : G.H (s.heap.objs.size + 1) = none := free_in R.fr R.hs nx
  refine wpAny_call (make_map (f := f) I.kIn M.makes M.init (beq_iff_eq.mp M.fn) (codeAny_mono (Fn _ X.stack _ _ (Value.ref (s.heap.objs.size + 1) :: us) _ (fun v H2 => v = .non ∧ Q (.ref (s.heap.objs.size + 1)) H2) (WE Wx σ) (hr.make C us []) (I2.env0.make C us []) r2
    ⟨H0, _, _, _, _, _, R1.hs, rw2, hF, fun w st' v A' H' H0' q hs fr rr => ?_, fun cls fs d vfs st' A' H' H0' q hs fr xd rf => ?_⟩) fun r s' hq' => ?_))
  · obtain ⟨ew, st1, fs, es, hl, hc, q⟩ := q
    subst ew es
    cases rr
    refine ⟨rfl, ?_⟩
    have R2 := R1.after hs fr
    have hA' : A'[st1.length]? = some (s.heap.objs.size + 1) := fr.pre.get (by rw [hl]; exact hxA)
    have hob : (st1 ++ [Ob.ins C (fs.map fun p => (p.1, W.dat p.2))])[st1.length]? = some (Ob.ins C (fs.map fun p => (p.1, W.dat p.2))) := by
      rw [List.getElem?_append_right (Nat.le_refl _)]
      simp
    obtain ⟨h0, dx', vs', hin, rf⟩ := R2.hs.ob _ _ _ hA' hob
    have R3 := R2.freeze hA' hob hin h0 gx
    have es : (st1 ++ [Ob.ins C (fs.map fun p => (p.1, W.dat p.2))]).set st1.length .gone = st1 ++ [.gone] := by simp
    rw [es] at R3
    have hG : G.A.length ≤ st1.length := by
      obtain ⟨B, eB⟩ := R.fr.pre
      have := congrArg List.length eB
      rw [List.length_append, R.hs.al] at this
      omega
    have hx1 : Ext A (A'.take st1.length) := by
      obtain ⟨B, eB⟩ := fr.pre
      have hAl : A.length = st1.length := by rw [hl]; exact R.hs.al
      refine ⟨[], ?_⟩
      have eB : A' = (A ++ [s.heap.objs.size + 1]) ++ B := eB
      rw [eB, List.append_assoc, List.take_append_of_le_length (by omega), List.take_of_length_le (by omega)]
      simp
    have hsd := R3.hs.drop hc
    have s0 : Same H0' (upd H0' (s.heap.objs.size + 1) (.ins C dx' vs')) := same_upd h0
    have R4 : RS X.K G (A'.take st1.length) σ H' (upd H0' (s.heap.objs.size + 1) (.ins C dx' vs')) sl st1 := by
      refine ⟨⟨R3.sl.1, fun i w hw => ?_⟩, hsd, R3.fr.drop hG⟩
      obtain ⟨v, hv, rv⟩ := R.sl.2 i w hw
      exact ⟨v, hv, rv.mono hx1 (Same.trans fr.old s0)⟩
    exact c _ st1 _ _ _ _ q R4 hx1 (Same.trans fr.old s0) (.ins upd_same (RepF.mono (RepWF.dats rf) s0))
  · exact hW cls fs d vfs A' σ H' H0' sl st' q (R1.after hs fr) xd rf
  · cases r with
    | error e => exact passAt tk σ pins _ _ e s' I2 hq'
    | ok fl =>
      cases fl with
      | ret u =>
        obtain ⟨v, H', I3, rv, ev, q3⟩ := I2.after hq'
        subst ev
        exact ⟨rv, ⟨V.ref (s.heap.objs.size + 1), H', I3, rfl, q3⟩⟩
      | next => exact False.elim hq'
      | brk => exact False.elim hq'
      | cont => exact False.elim hq'
theorem ew_mk {C : Addr} (c : Mak X.prog X.w X.K X.mg X.base k x C F) (hr : RoomG j X.A) (hk : k + 1 ≤ j) (xk : XOk X G Kx) (h : AW X G (e :: es) sl st fun ws st1 => F (.ptr st1.length :: ws) (st1 ++ [.ins C []]) (MkK C st1.length Φ) fun cls fs st2 => Kx cls fs sl st2) (hg : Gl X x := by rfl) (hdb : (x == ("__debug__" : Str)) = false := by decide)
    (he : starEach (e :: es) X.env = (false, eval e X.env) :: starEach es X.env := by rfl) (hpl : (backTo pos (starEach es X.env)).any (·.1) = false := by rfl) : EW X G (.Call (.Name x p) (e :: es) [] pos) sl st Φ := fun A σ H H0 R Q k pins s I => by
  obtain ⟨f, hm, M, Fn⟩ := c
  refine wpAny_Call_Name_kw (ld_glob I hg hm ?_ hdb)
  refine PySem.W.callWith_K (h₀ := X.base) I.ok.mod.kin M.kp (thn (h A σ H H0 R (fun vs H1 => ∃ A1 H01 st1 ws, F (.ptr st1.length :: ws) (st1 ++ [.ins C []]) (MkK C st1.length Φ) (fun cls fs st2 => Kx cls fs sl st2) ∧ RS X.K G A1 σ H1 H01 sl st1 ∧ Ext A A1 ∧ Same H0 H01 ∧ RepWs X.K A1 H01 vs ws)
    (fun ws st1 vs A1 H1 H01 q R1 x1 s1 r1 => ⟨A1, H01, st1, ws, q, R1, x1, s1, r1⟩) pos pins s I) fun us s1 ⟨vs, H1, I1, r, A1, H01, st1, ws, q, R1, x1, s1', r1⟩ => ⟨I1.kIn, ?_⟩) he hpl
  exact run_mk M Fn (hr.mono hk) xk R1 r1 I1 r q (k.mv x1 s1')
theorem ew_mkL {C : Addr} {cn : Str} (i : Nat) (hi : sl[i]? = some (some (.dat (.adr C)))) (c : Mak X.prog X.w X.K X.mg X.base k cn C F) (hr : RoomG j X.A) (hk : k + 1 ≤ j) (xk : XOk X G Kx) (h : AW X G (e :: es) sl st fun ws st1 => F (.ptr st1.length :: ws) (st1 ++ [.ins C []]) (MkK C st1.length Φ) fun cls fs st2 => Kx cls fs sl st2)
    (hN : X.N[i]? = some x := by rfl) (hv : Vis X.env.scope x := by first | exact Or.inl rfl | exact Or.inr (Or.inl rfl) | exact Or.inr (Or.inr rfl)) (hdb : (x == ("__debug__" : Str)) = false := by decide) (hcd : (x == ("__classdict__" : Str)) = false := by decide)
    (he : starEach (e :: es) X.env = (false, eval e X.env) :: starEach es X.env := by rfl) (hpl : (backTo pos (starEach es X.env)).any (·.1) = false := by rfl) : EW X G (.Call (.Name x p) (e :: es) [] pos) sl st Φ := fun A σ H H0 R Q k pins s I => by
  obtain ⟨f, hm, M, Fn⟩ := c
  obtain ⟨v, hs, rv⟩ := R.sl.2 i _ hi
  cases rv
  refine wpAny_Call_Name_kw (thn ((pe_var (pos := p) hN hv hdb hcd).run pins s σ H (fun v H1 => v = .ref C ∧ H1 = H) I ⟨.ref C, hs, rfl, rfl⟩) fun u s0 ⟨v, H1, I0, r1, q1⟩ => ?_)
  obtain ⟨rfl, rfl⟩ := q1
  cases r1
  refine PySem.W.callWith_K (h₀ := X.base) I.ok.mod.kin M.kp (thn (h A σ _ H0 R (fun vs H1 => ∃ A1 H01 st1 ws, F (.ptr st1.length :: ws) (st1 ++ [.ins C []]) (MkK C st1.length Φ) (fun cls fs st2 => Kx cls fs sl st2) ∧ RS X.K G A1 σ H1 H01 sl st1 ∧ Ext A A1 ∧ Same H0 H01 ∧ RepWs X.K A1 H01 vs ws)
    (fun ws st1 vs A1 H1 H01 q R1 x1 s1 r1 => ⟨A1, H01, st1, ws, q, R1, x1, s1, r1⟩) pos pins s0 I0) fun us s1 ⟨vs, H1, I1, r, A1, H01, st1, ws, q, R1, x1, s1', r1⟩ => ⟨I1.kIn, ?_⟩) he hpl
  exact run_mk M Fn (hr.mono hk) xk R1 r1 I1 r q (k.mv x1 s1')
end
end Dn
namespace Dn
open PySem PySem.Spec L2 StX ClX
open PyProof.Rows hiding St
section
variable {X : Cx} {G : Ent} {e a b c o : Expr} {es : List Expr} {sl : Sls} {st : List Ob} {Φ : WK} {Ψ : BK} {Λ : LK} {pos p apos cpos : Pos}
theorem Reps.atI {K : PySem.W.Frag} {H : Hp} {vs : List V} {xs : List D} {i : Int} {d : D} (h : Reps K H vs xs) (e : atI xs i = some d) : ∃ v, atI vs i = some v ∧ Rep K H v d := by
  unfold L2.atI at e ⊢
  rw [h.length]
  cases q : ixN xs.length i with
  | none => rw [q] at e; cases e
  | some j => rw [q] at e; exact h.get e
theorem RepWs.atI {K : PySem.W.Frag} {A : List Addr} {H : Hp} {vs : List V} {xs : List W} {i : Int} {d : W} (h : RepWs K A H vs xs) (e : L2.atI xs i = some d) : ∃ v, L2.atI vs i = some v ∧ RepW K A H v d := by
  unfold L2.atI at e ⊢
  rw [h.length]
  cases q : ixN xs.length i with
  | none => rw [q] at e; cases e
  | some j => rw [q] at e; exact h.get e
def Itm (st : List Ob) (w : W) (i : Int) : Option W := match w with
  | .dat (.lst xs) => (atI xs i).map W.dat
  | .dat (.tup xs) => (atI xs i).map W.dat
  | .dat (.scr ns) => (atI ns i).map fun n => W.dat (.int n)
  | .ptr j => match st[j]? with
    | some (.lst xs) => atI xs i
    | _ => none
  | _ => none
theorem ew_ix (h : EW X G a sl st fun w1 st1 => EW X G b sl st1 fun w2 st2 => ∃ i w, w2 = .dat (.int i) ∧ Itm st2 w1 i = some w ∧ Φ w st2) (hs : PlainIx b := by exact fun _ _ => rfl) : EW X G (.Subscript a b pos) sl st Φ := fun A σ H H0 R Q k =>
  wpE_of (pe_ix ix_seq pe_wp pe_wp hs) (h A σ H H0 R _ fun w1 st1 v1 A1 H1 H01 e1 R1 x1 s1 r1 => e1 A1 σ H1 H01 R1 _ fun w2 st2 v2 A2 H2 H02 ⟨i, w, ew, hi, q⟩ R2 x2 s2 r2 => by
    subst ew
    cases r2
    have kk := k w st2
    have r1' := r1.mono x2 s2
    cases w1 with
    | dat d =>
      cases r1' with
      | lst eh rr =>
        obtain ⟨d', e1, e2⟩ := Option.map_eq_some_iff.mp hi
        obtain ⟨v, hv, rv⟩ := rr.atI e1
        exact .inl ⟨_, _, i, v, rfl, rfl, .inl (.inl (R2.hs.le _ _ eh)), hv, kk v A2 H2 H02 q R2 (x1.trans x2) (s1.trans s2) (by rw [← e2]; exact rv)⟩
      | tup eh rr =>
        obtain ⟨d', e1, e2⟩ := Option.map_eq_some_iff.mp hi
        obtain ⟨v, hv, rv⟩ := rr.atI e1
        exact .inr (.inl ⟨_, _, i, v, rfl, rfl, .inl (.inl (R2.hs.le _ _ eh)), hv, kk v A2 H2 H02 q R2 (x1.trans x2) (s1.trans s2) (by rw [← e2]; exact rv)⟩)
      | tupK l c d =>
        obtain ⟨d', e1, e2⟩ := Option.map_eq_some_iff.mp hi
        obtain ⟨v, hv, rv⟩ := (Reps.nil (K := X.K) (H := H02)).atI e1
        exact .inr (.inl ⟨_, _, i, v, rfl, rfl, sqT_K l c d, hv, kk v A2 H2 H02 q R2 (x1.trans x2) (s1.trans s2) (by rw [← e2]; exact rv)⟩)
      | @scr a ns eh =>
        obtain ⟨n, e1, e2⟩ := Option.map_eq_some_iff.mp hi
        refine .inl ⟨_, _, i, .int n, rfl, rfl, R2.hs.le.seq eh, ?_, kk (.int n) A2 H2 H02 q R2 (x1.trans x2) (s1.trans s2) (by rw [← e2]; exact .int n)⟩
        unfold L2.atI at e1 ⊢
        rw [List.length_map]
        cases q : ixN ns.length i with
        | none => rw [q] at e1; cases e1
        | some j =>
          rw [q] at e1
          show (ns.map V.int)[j]? = _
          rw [List.getElem?_map]
          have e1 : ns[j]? = some n := e1
          rw [e1]
          rfl
      | non => cases hi
      | bl => cases hi
      | int => cases hi
      | str => cases hi
      | ins _ _ => cases hi
      | adr => cases hi
      | ty => cases hi
      | err0 => cases hi
      | err _ _ => cases hi
      | dk _ _ _ => cases hi
      | dt _ _ _ => cases hi
    | ptr j =>
      simp only [Itm] at hi
      split at hi
      · rename_i xs hj
        obtain ⟨ad, ha, hn, vs, he, rr⟩ := R2.at hj
        obtain ⟨a', ha', rfl⟩ := r1'
        have : a' = ad := Option.some.inj (ha'.symm.trans ha)
        subst this
        obtain ⟨v, hv, rv⟩ := rr.atI hi
        exact .inl ⟨_, _, i, v, rfl, rfl, .inl (.inl he), hv, kk v A2 H2 H02 q R2 (x1.trans x2) (s1.trans s2) rv⟩
      · cases hi)
def cutL {α : Type} (xs : List α) (lo hi : Option Int) : List α := (xs.drop (HT.sIx xs.length 0 lo)).take (HT.sIx xs.length xs.length hi - HT.sIx xs.length 0 lo)
theorem Reps.cut {K : PySem.W.Frag} {H : Hp} {vs : List V} {xs : List D} (h : Reps K H vs xs) (lo hi : Option Int) : Reps K H (cutV vs lo hi) (cutL xs lo hi) := by
  unfold cutV cutL
  rw [h.length]
  exact (h.drop _).take _
abbrev OK := Option Int → List Ob → Prop
def wpP (X : Cx) (e : Option Expr) : TO := fun σ H Q => ∀ (pins : List (Addr × Obj)) (s : Shared), Inv X pins σ H s → wpAny (model X.prog X.w) X.A (evalPart e X.env) (fun u s' => ∃ o H', Inv X pins σ H' s' ∧ IsPart u o ∧ Q o H') X.xe s
theorem po_wp {e : Option Expr} : PO X e (wpP X e) := ⟨fun pins s _ _ _ I h => h pins s I⟩
theorem wpP_of {e : Option Expr} {t : TO} {σ : St} {H : Hp} {Q : Option Int → Hp → Prop} (h : PO X e t) (q : t σ H Q) : wpP X e σ H Q := fun pins s I => h.run pins s σ H Q I q
def PtW (X : Cx) (G : Ent) (e : Option Expr) (sl : Sls) (st : List Ob) (Θ : OK) : Prop :=
  ∀ A σ H H0, RS X.K G A σ H H0 sl st → ∀ Q : Option Int → Hp → Prop, (∀ i st' A' H' H0', Θ i st' → RS X.K G A' σ H' H0' sl st' → Ext A A' → Same H0 H0' → Q i H') → wpP X e σ H Q
theorem pt_none {Θ : OK} (h : Θ none st) : PtW X G none sl st Θ := fun A σ H H0 R Q k => wpP_of po_none (show Q none H from k none st A H H0 h R (Ext.refl _) (Same.refl _))
theorem pt_some {Θ : OK} (h : EW X G e sl st fun w st1 => ∃ i, w = .dat (.int i) ∧ Θ (some i) st1) : PtW X G (some e) sl st Θ := fun A σ H H0 R Q k => wpP_of (po_some pe_wp) (h A σ H H0 R _ fun w st1 v A1 H1 H01 ⟨i, ew, q⟩ R1 x1 s1 r1 => by
  subst ew
  cases r1
  exact ⟨i, rfl, k (some i) st1 A1 H1 H01 q R1 x1 s1⟩)
theorem ew_slice {lo hi : Option Expr} {p2 : Pos} (h : EW X G e sl st fun w st1 => PtW X G lo sl st1 fun l st2 => PtW X G hi sl st2 fun u st3 => ∃ xs, w = .dat (.lst xs) ∧ Φ (.dat (.lst (cutL xs l u))) st3) : EW X G (.Subscript e (.Slice lo hi none p2) pos) sl st Φ := fun A σ H H0 R Q k =>
  wpE_of (pe_slice sl_list pe_wp po_wp po_wp) (h A σ H H0 R _ fun w st1 v A1 H1 H01 q R1 x1 s1 r1 => q A1 σ H1 H01 R1 _ fun l st2 A2 H2 H02 q2 R2 x2 s2 => q2 A2 σ H2 H02 R2 _ fun u st3 A3 H3 H03 ⟨xs, ew, q3⟩ R3 x3 s3 => by
    subst ew
    cases r1.mono (x2.trans x3) (s2.trans s3) with
    | @lst ad vs _ eh rr =>
      refine ⟨ad, vs, rfl, .inl (.inl (R3.hs.le _ _ eh)), fun pp hp => ?_⟩
      have s0 := same_upd (o := .lst (cutV vs l u)) (R3.hs.free0 hp)
      exact k _ st3 _ A3 _ _ q3 (R3.alloc hp) (x1.trans (x2.trans x3)) ((s1.trans (s2.trans s3)).trans s0) (.lst upd_same ((rr.cut l u).mono s0)))
theorem ew_sliceM {lo hi : Option Expr} {p2 : Pos} (h : EW X G e sl st fun w st1 => PtW X G lo sl st1 fun l st2 => PtW X G hi sl st2 fun u st3 => ∃ j xs, w = .ptr j ∧ st3[j]? = some (.lst (xs.map W.dat)) ∧ Φ (.dat (.lst (cutL xs l u))) st3) : EW X G (.Subscript e (.Slice lo hi none p2) pos) sl st Φ := fun A σ H H0 R Q k =>
  wpE_of (pe_slice sl_list pe_wp po_wp po_wp) (h A σ H H0 R _ fun w st1 v A1 H1 H01 q R1 x1 s1 r1 => q A1 σ H1 H01 R1 _ fun l st2 A2 H2 H02 q2 R2 x2 s2 => q2 A2 σ H2 H02 R2 _ fun u st3 A3 H3 H03 ⟨j, xs, ew, hj, q3⟩ R3 x3 s3 => by
    subst ew
    obtain ⟨ad, ha, hn, vs, he, rr⟩ := R3.at hj
    obtain ⟨a', ha', rfl⟩ := r1.mono (x2.trans x3) (s2.trans s3)
    have : a' = ad := Option.some.inj (ha'.symm.trans ha)
    subst this
    refine ⟨a', vs, rfl, .inl (.inl he), fun pp hp => ?_⟩
    have s0 := same_upd (o := .lst (cutV vs l u)) (R3.hs.free0 hp)
    exact k _ st3 _ A3 _ _ q3 (R3.alloc hp) (x1.trans (x2.trans x3)) ((s1.trans (s2.trans s3)).trans s0) (.lst upd_same ((rr.dats.cut l u).mono s0)))
theorem ew_append (h : EW X G o sl st fun w1 st1 => ∃ j ys, w1 = .ptr j ∧ st1[j]? = some (.lst ys) ∧ EW X G e sl st1 fun w2 st2 => ∃ xs, st2[j]? = some (.lst xs) ∧ xs.length < sizeLine ∧ Φ (.dat .non) (st2.set j (.lst (xs ++ [w2]))))
    (hbase : attributeBase o "append" X.env (eval o X.env) = eval o X.env := by rfl)
    (hfew : ((backTo cpos (starEach (e :: []) X.env)).all (fun x => !x.1) && (backToKw cpos (keywordEach [] X.env)).all (fun x => x.1.isSome)
      && decide ((e :: ([] : List Expr)).length + ([] : List Keyword).length + (if ([] : List Keyword).isEmpty then 0 else 1) < 30)) = true := by rfl)
    (hline : (apos.endLine == cpos.line) = true := by rfl) (hs : starEach (e :: []) X.env = (false, eval e X.env) :: starEach [] X.env := by rfl) (hplain : (backTo cpos (starEach [] X.env)).any (·.1) = false := by rfl) : EW X G (.Call (.Attribute o "append" apos) [e] [] cpos) sl st Φ := fun A σ H H0 R Q k =>
  wpE_of (pe_bm PySem.F.plainAttrs_list PySem.F.slot_list_append PySem.F.type_list_append mt_append pe_wp (pa_cons pe_wp pa_nil hs) hbase hfew hline hs hplain) (h A σ H H0 R _ fun w1 st1 v1 A1 H1 H01 ⟨j, ys, ew, hy, q⟩ R1 x1 s1 r1 => by
    subst ew
    obtain ⟨ad, ha, h0, vs, he, rr⟩ := R1.at hy
    obtain ⟨a', ha', rfl⟩ := r1
    have : a' = ad := Option.some.inj (ha'.symm.trans ha)
    subst this
    refine ⟨.inl ⟨rfl, vs, .inl (.inl he)⟩, q A1 σ H1 H01 R1 _ fun w2 st2 v2 A2 H2 H02 ⟨xs, hx, hz, q2⟩ R2 x2 s2 r2 => ?_⟩
    obtain ⟨ad2, ha2, h02, vs2, he2, rr2⟩ := R2.at hx
    have : ad2 = a' := Option.some.inj (ha2.symm.trans (x2.get ha))
    subst this
    refine ⟨_, vs2, v2, rfl, rfl, he2, by rw [rr2.length]; exact hz, ?_⟩
    exact k _ _ _ A2 _ H02 q2 (R2.write ha2 hx h02 ⟨h02, _, upd_same, rr2.append ⟨r2, trivial⟩⟩) (x1.trans x2) (s1.trans s2) .non)
theorem ew_fld {f : Str} (h : EW X G e sl st fun w st1 => ∃ C fs d, w = .dat (.ins C fs) ∧ Cls X.K C ∧ NoAttr X.K C f ∧ fs.lookup f = some d ∧ Φ (.dat d) st1) (hb : attributeBase e f X.env (eval e X.env) = eval e X.env := by rfl) : EW X G (.Attribute e f pos) sl st Φ := fun A σ H H0 R Q k => by
  refine wpE_of (pe_fld pe_wp hb) (h A σ H H0 R _ fun w st1 v A1 H1 H01 ⟨C, fs, d, ew, hc, hn, hl, q⟩ R1 x1 s1 r1 => ?_)
  subst ew
  cases r1 with
  | ins eh rf =>
    obtain ⟨v, hv, rv⟩ := rf.lookup hl
    exact ⟨_, _, _, _, v, rfl, R1.hs.le _ _ eh, hc, hn, hv, k _ st1 v A1 H1 H01 q R1 x1 s1 rv⟩
theorem RepWF.lookup {K : PySem.W.Frag} {A : List Addr} {H : Hp} {f : Str} : ∀ {vs : List (Str × V)} {fs : List (Str × W)} {d : W}, RepWF K A H vs fs → fs.lookup f = some d → ∃ v, vs.lookup f = some v ∧ RepW K A H v d
  | [], [], _, _, h => by simp [List.lookup] at h
  | (g, v) :: vs, (g', w) :: fs, d, r, h => by
    obtain ⟨r1, r2, r3⟩ := r
    simp only at r1
    subst r1
    simp only [List.lookup] at h ⊢
    cases e : f == g with
    | true => rw [e] at h; cases h; exact ⟨_, rfl, r2⟩
    | false => rw [e] at h; exact RepWF.lookup r3 h
theorem ew_fldM {f : Str} (h : EW X G e sl st fun w st1 => ∃ j C fs w', w = .ptr j ∧ st1[j]? = some (.ins C fs) ∧ Cls X.K C ∧ NoAttr X.K C f ∧ fs.lookup f = some w' ∧ Φ w' st1) (hb : attributeBase e f X.env (eval e X.env) = eval e X.env := by rfl) : EW X G (.Attribute e f pos) sl st Φ := fun A σ H H0 R Q k => by
  refine wpE_of (pe_fld pe_wp hb) (h A σ H H0 R _ fun w st1 v A1 H1 H01 ⟨j, C, fs, w', ew, hj, hc, hn, hl, q⟩ R1 x1 s1 r1 => ?_)
  subst ew
  obtain ⟨ad, ha, h0, dx, vs, he, rf⟩ := R1.at hj
  obtain ⟨a', ha', rfl⟩ := r1
  have : a' = ad := Option.some.inj (ha'.symm.trans ha)
  subst this
  obtain ⟨v, hv, rv⟩ := rf.lookup hl
  exact ⟨_, _, _, _, v, rfl, he, hc, hn, hv, k _ st1 v A1 H1 H01 q R1 x1 s1 rv⟩
theorem ew_blt {x : Str} {id : String} (hv : bootBuiltins x = some (.builtin id)) (hm : X.mg x = none) (h : AW X G (e :: es) sl st fun ws st1 => CW X G (.builtin id) sl st1 ws Φ) (hg : Gl X x := by rfl) (hn : x ≠ "__name__" := by decide) (hdb : (x == ("__debug__" : Str)) = false := by decide)
    (he : starEach (e :: es) X.env = (false, eval e X.env) :: starEach es X.env := by rfl) (hpl : (backTo pos (starEach es X.env)).any (·.1) = false := by rfl) : EW X G (.Call (.Name x p) (e :: es) [] pos) sl st Φ := fun A σ H H0 R Q k =>
  wpE_of (pe_callB call_wp hg hm hv pa_wp hn hdb he hpl) (h A σ H H0 R _ fun ws st1 vs A1 H1 H01 q R1 x1 s1 r1 => q A1 σ H1 H01 R1 vs r1 Q (k.mv x1 s1))
theorem ew_bty {x : Str} {T : String} (hv : bootBuiltins x = some (.type T)) (hm : X.mg x = none) (h : AW X G (e :: es) sl st fun ws st1 => CW X G (.type T) sl st1 ws Φ) (hg : Gl X x := by rfl) (hn : x ≠ "__name__" := by decide) (hdb : (x == ("__debug__" : Str)) = false := by decide)
    (he : starEach (e :: es) X.env = (false, eval e X.env) :: starEach es X.env := by rfl) (hpl : (backTo pos (starEach es X.env)).any (·.1) = false := by rfl) : EW X G (.Call (.Name x p) (e :: es) [] pos) sl st Φ := fun A σ H H0 R Q k =>
  wpE_of (pe_callTy call_wp hg hm hv pa_wp hn hdb he hpl) (h A σ H H0 R _ fun ws st1 vs A1 H1 H01 q R1 x1 s1 r1 => q A1 σ H1 H01 R1 vs r1 Q (k.mv x1 s1))
section
variable {f : Value} {ws : List W}
theorem cw_of {r : List V → Hp → VK → Prop} (hc : CallR X f r) (h : ∀ A σ H H0, RS X.K G A σ H H0 sl st → ∀ vs, RepWs X.K A H0 vs ws → ∀ Q : VK, Ct X.K G A σ H0 sl Φ Q → r vs H Q) : CW X G f sl st ws Φ := fun A σ H H0 R vs rw Q k => wpC_of hc (h A σ H H0 R vs rw Q k)
theorem rep1 {K : PySem.W.Frag} {A : List Addr} {H : Hp} {vs : List V} {w : W} (h : RepWs K A H vs [w]) : ∃ v, vs = [v] ∧ RepW K A H v w := by
  match vs, h with
  | [v], h => exact ⟨v, rfl, h.1⟩
theorem rep2 {K : PySem.W.Frag} {A : List Addr} {H : Hp} {vs : List V} {w1 w2 : W} (h : RepWs K A H vs [w1, w2]) : ∃ v1 v2, vs = [v1, v2] ∧ RepW K A H v1 w1 ∧ RepW K A H v2 w2 := by
  match vs, h with
  | [v1, v2], h => exact ⟨v1, v2, rfl, h.1, h.2.1⟩
def Len (st : List Ob) : W → Option Nat
  | .dat (.lst xs) => some xs.length
  | .dat (.tup xs) => some xs.length
  | .dat (.scr ns) => some ns.length
  | .dat (.str y) => if y.length ≤ sizeLine then some y.length else none
  | .ptr j => match st[j]? with
    | some (.lst xs) => some xs.length
    | _ => none
  | _ => none
theorem c_len {w : W} {n : Nat} (hl : Len st w = some n) (h : Φ (.dat (.int (n : Int))) st) : CW X G (.builtin "len") sl st [w] Φ := cw_of call_len fun A σ H H0 R vs rw Q k => by
  obtain ⟨v, rfl, r⟩ := rep1 rw
  refine ⟨v, n, rfl, ?_, k _ st _ A H H0 h R (Ext.refl _) (Same.refl _) (.int _)⟩
  cases w with
  | dat d =>
    cases r with
    | lst eh rr => cases hl; exact .inl ⟨_, .inl (.inl (R.hs.le _ _ eh)), rr.length.symm⟩
    | tup eh rr => cases hl; exact .inr ⟨_, .inl (.inl (R.hs.le _ _ eh)), rr.length.symm⟩
    | tupK l c d => cases hl; exact .inr ⟨_, sqT_K l c d, rfl⟩
    | scr eh => cases hl; exact .inl ⟨_, R.hs.le.seq eh, by simp⟩
    | str x =>
      simp only [Len] at hl
      split at hl
      · cases hl; exact ⟨by assumption, rfl⟩
      · cases hl
    | non => cases hl
    | bl => cases hl
    | int => cases hl
    | ins _ _ => cases hl
    | adr => cases hl
    | ty => cases hl
    | err0 => cases hl
    | err _ _ => cases hl
    | dk _ _ _ => cases hl
    | dt _ _ _ => cases hl
  | ptr j =>
    simp only [Len] at hl
    split at hl
    · rename_i xs hj
      cases hl
      obtain ⟨ad, ha, hn, us, he, rr⟩ := R.at hj
      obtain ⟨a', ha', rfl⟩ := r
      have : a' = ad := Option.some.inj (ha'.symm.trans ha)
      subst this
      exact .inl ⟨_, .inl (.inl he), rr.length.symm⟩
    · cases hl
theorem c_abs {i : Int} (h : Φ (.dat (.int (if i < 0 then -i else i))) st) : CW X G (.builtin "abs") sl st [.dat (.int i)] Φ := cw_of call_abs fun A σ H H0 R vs rw Q k => by
  obtain ⟨v, rfl, r⟩ := rep1 rw
  cases r
  exact ⟨i, rfl, k _ st _ A H H0 h R (Ext.refl _) (Same.refl _) (.int _)⟩
theorem c_int {i : Int} (h : Φ (.dat (.int i)) st) : CW X G (.type "int") sl st [.dat (.int i)] Φ := cw_of call_int1 fun A σ H H0 R vs rw Q k => by
  obtain ⟨v, rfl, r⟩ := rep1 rw
  cases r
  exact .inl ⟨i, rfl, k _ st _ A H H0 h R (Ext.refl _) (Same.refl _) (.int _)⟩
theorem c_max {i j : Int} (hc : X.calm = true) (h : Φ (.dat (.int (if j > i then j else i))) st) : CW X G (.builtin "max") sl st [.dat (.int i), .dat (.int j)] Φ := cw_of (call_max2 hc) fun A σ H H0 R vs rw Q k => by
  obtain ⟨v, u, rfl, r, r2⟩ := rep2 rw
  cases r
  cases r2
  exact ⟨i, j, rfl, k _ st _ A H H0 h R (Ext.refl _) (Same.refl _) (.int _)⟩
theorem c_min {i j : Int} (hc : X.calm = true) (h : Φ (.dat (.int (if j < i then j else i))) st) : CW X G (.builtin "min") sl st [.dat (.int i), .dat (.int j)] Φ := cw_of (call_min2 hc) fun A σ H H0 R vs rw Q k => by
  obtain ⟨v, u, rfl, r, r2⟩ := rep2 rw
  cases r
  cases r2
  exact ⟨i, j, rfl, k _ st _ A H H0 h R (Ext.refl _) (Same.refl _) (.int _)⟩
theorem reps_bl {K : PySem.W.Frag} {H : Hp} : ∀ {vs : List V} {bs : List Bool}, Reps K H vs (bs.map D.bl) → vs = bs.map V.bl
  | _, [], .nil => rfl
  | _, b :: bs, .cons r rr => by
    cases r
    rw [reps_bl rr]
    rfl
theorem reps_int {K : PySem.W.Frag} {H : Hp} : ∀ {vs : List V} {bs : List Int}, Reps K H vs (bs.map D.int) → vs = bs.map V.int
  | _, [], .nil => rfl
  | _, b :: bs, .cons r rr => by
    cases r
    rw [reps_int rr]
    rfl
theorem c_all {bs : List Bool} (hc : X.calm = true) (h : Φ (.dat (.bl (bs.all id))) st) : CW X G (.builtin "all") sl st [.dat (.lst (bs.map D.bl))] Φ := cw_of (cr_all hc) fun A σ H H0 R vs rw Q k => by
  obtain ⟨v, rfl, r⟩ := rep1 rw
  cases r with
  | lst eh rr =>
    have := reps_bl rr
    subst this
    exact ⟨_, bs, rfl, .inl (.inl (R.hs.le _ _ eh)), k _ st _ A H H0 h R (Ext.refl _) (Same.refl _) (.bl _)⟩
theorem c_any {bs : List Bool} (hc : X.calm = true) (h : Φ (.dat (.bl (bs.any id))) st) : CW X G (.builtin "any") sl st [.dat (.lst (bs.map D.bl))] Φ := cw_of (cr_any hc) fun A σ H H0 R vs rw Q k => by
  obtain ⟨v, rfl, r⟩ := rep1 rw
  cases r with
  | lst eh rr =>
    have := reps_bl rr
    subst this
    exact ⟨_, bs, rfl, .inl (.inl (R.hs.le _ _ eh)), k _ st _ A H H0 h R (Ext.refl _) (Same.refl _) (.bl _)⟩
theorem c_tuple {xs : List D} (h : Φ (.dat (.tup xs)) st) : CW X G (.type "tuple") sl st [.dat (.lst xs)] Φ := cw_of call_tuple_of fun A σ H H0 R vs rw Q k => by
  obtain ⟨v, rfl, r⟩ := rep1 rw
  cases r with
  | @lst ad us _ eh rr =>
    refine ⟨ad, us, rfl, .inl ⟨.inl (.inl (R.hs.le _ _ eh)), fun l hl => ?_⟩⟩
    have s0 := same_upd (o := .tup us) (R.hs.free0 hl)
    exact k _ st _ A _ _ h (R.alloc hl) (Ext.refl _) s0 (.tup upd_same (rr.mono s0))
theorem c_tupleM {j : Nat} {xs : List D} (hj : st[j]? = some (.lst (xs.map W.dat))) (h : Φ (.dat (.tup xs)) st) : CW X G (.type "tuple") sl st [.ptr j] Φ := cw_of call_tuple_of fun A σ H H0 R vs rw Q k => by
  obtain ⟨v, rfl, r⟩ := rep1 rw
  obtain ⟨ad, ha, hn, us, he, rr⟩ := R.at hj
  obtain ⟨a', ha', rfl⟩ := r
  have : a' = ad := Option.some.inj (ha'.symm.trans ha)
  subst this
  refine ⟨_, us, rfl, .inl ⟨.inl (.inl he), fun l hl => ?_⟩⟩
  have s0 := same_upd (o := .tup us) (R.hs.free0 hl)
  exact k _ st _ A _ _ h (R.alloc hl) (Ext.refl _) s0 (.tup upd_same (rr.dats.mono s0))
def KCls (K : PySem.W.Frag) (C : Addr) : Prop := ∀ (H : Hp) (a dx : Addr) (fs : List (Str × V)), H a = some (.ins C dx fs) → TyX K H (.ref a) (.ref C)
inductive TyD (K : PySem.W.Frag) : D → Value → Prop
  | non : TyD K .non (.type "NoneType")
  | bl (b : Bool) : TyD K (.bl b) (.type "bool")
  | int (i : Int) : TyD K (.int i) (.type "int")
  | str (x : Str) : TyD K (.str x) (.type "str")
  | lst (xs : List D) : TyD K (.lst xs) (.type "list")
  | tup (xs : List D) : TyD K (.tup xs) (.type "tuple")
  | ins (C : Addr) (fs : List (Str × D)) : KCls K C → TyD K (.ins C fs) (.ref C)
theorem TyD.of {K : PySem.W.Frag} {H : Hp} {v : V} {d : D} {t : Value} (h : TyD K d t) (r : Rep K H v d) : TyX K H v t := by
  cases h with
  | non => cases r; exact .base .non
  | bl b => cases r; exact .base (.bl b)
  | int i => cases r; exact .base (.int i)
  | str x => cases r; exact .base (.str x)
  | lst xs => cases r with | lst e _ => exact .base (.lst e)
  | tup xs => cases r with
    | tup e _ => exact .base (.tup e)
    | tupK l c d => exact .kTuple l c
  | ins C fs k => cases r with | ins e _ => exact k _ _ _ _ e
theorem tyX_mono {K : PySem.W.Frag} {H H' : Hp} {v : V} {t : Value} (h : TyX K H v t) (s : Same H H') : TyX K H' v t := by
  cases h with
  | base b =>
    refine .base ?_
    cases b with
    | non => exact .non
    | bl b => exact .bl b
    | int b => exact .int b
    | str b => exact .str b
    | flt b => exact .flt b
    | lst e => exact .lst (s _ _ e)
    | frz e => exact .frz (s _ _ e)
    | tup e => exact .tup (s _ _ e)
    | dK e => exact .dK (s _ _ e)
    | dT e => exact .dT (s _ _ e)
    | ins e a b c d f => exact .ins (s _ _ e) a b c d f
  | byt b => exact .byt b
  | set e => exact .set (s _ _ e)
  | kList e c => exact .kList e c
  | kTuple e c => exact .kTuple e c
  | kDict e c => exact .kDict e c
  | fTuple e => exact .fTuple (s _ _ e)
  | fDict e => exact .fDict (s _ _ e)
inductive ClsD : D → Value → Prop
  | ty (n : String) : ClsD (.ty n) (.type n)
  | own (C : Addr) : ClsD (.adr C) (.ref C)
theorem ClsD.of {K : PySem.W.Frag} {H : Hp} {v : V} {d : D} {u : Value} (h : ClsD d u) (r : Rep K H v d) : ClsV v u := by
  cases h with
  | ty n => cases r; exact .ty n
  | own C => cases r; exact .own C
inductive ClsDs : List D → List Value → Prop
  | nil : ClsDs [] []
  | cons {d : D} {u : Value} {ds : List D} {us : List Value} : ClsD d u → ClsDs ds us → ClsDs (d :: ds) (u :: us)
theorem ClsDs.of {K : PySem.W.Frag} {H : Hp} : ∀ {vs : List V} {ds : List D} {us : List Value}, ClsDs ds us → Reps K H vs ds → Paired ClsV vs us
  | _, _, _, .nil, .nil => .nil
  | _, _, _, .cons a b, .cons r rr => .cons (a.of r) (b.of rr)
theorem c_isi {d c : D} {t u : Value} {b : Bool} (ty : TyD X.K d t) (cl : ClsD c u) (hk : PySem.W.kitOne X.K t u = some b) (h : Φ (.dat (.bl b)) st) : CW X G (.builtin "isinstance") sl st [.dat d, .dat c] Φ := cw_of call_isi fun A σ H H0 R vs rw Q k => by
  obtain ⟨v, u', rfl, r, r2⟩ := rep2 rw
  exact ⟨v, u', t, u, b, rfl, cl.of r2, tyX_mono (ty.of r) R.hs.le, hk, k _ st _ A H H0 h R (Ext.refl _) (Same.refl _) (.bl _)⟩
theorem c_isiT {d : D} {cs : List D} {t : Value} {us : List Value} {b : Bool} (hne : cs ≠ []) (ty : TyD X.K d t) (cl : ClsDs cs us) (hk : PySem.W.kitAny X.K t us = some b) (h : Φ (.dat (.bl b)) st) : CW X G (.builtin "isinstance") sl st [.dat d, .dat (.tup cs)] Φ := cw_of call_isiT fun A σ H H0 R vs rw Q k => by
  obtain ⟨v, u', rfl, r, r2⟩ := rep2 rw
  cases r2 with
  | tup e rr => exact ⟨v, _, _, t, us, b, rfl, R.hs.le _ _ e, cl.of rr, tyX_mono (ty.of r) R.hs.le, hk, k _ st _ A H H0 h R (Ext.refl _) (Same.refl _) (.bl _)⟩
  | tupK l c d => exact absurd rfl hne
end
end
end Dn
namespace Dn
open PySem PySem.Spec L2 StX ClX
open PyProof.Rows hiding St
def wpI (X : Cx) (tg iter : Expr) : TI := fun σ H R => ∀ (pins : List (Addr × Obj)) (s : Shared), Inv X pins σ H s → wpAny (model X.prog X.w) X.A (eval iter X.env) (fun v s1 => wpAny (model X.prog X.w) X.A (pyIter v) (PIE X pins σ tg R) X.xe s1) X.xe s
theorem pi_wp {X : Cx} {tg iter : Expr} : PI X tg iter (wpI X tg iter) := ⟨fun pins s _ _ _ I h => h pins s I⟩
theorem wpI_of {X : Cx} {tg iter : Expr} {wi : TI} {σ : St} {H : Hp} {R : It → Hp → Prop} (h : PI X tg iter wi) (q : wi σ H R) : wpI X tg iter σ H R := fun pins s I => h.run pins s σ H R I q
def Items (K : PySem.W.Frag) (J : It) (ws : List W) (A1 : List Addr) (H01 : Hp) : Prop :=
  ∀ i G' A' σ' H' H0' sl' st', RS K G' A' σ' H' H0' sl' st' → Ext A1 A' → Same H01 H0' →
    (i < ws.length → J.go i H' ∧ ∀ x H'', J.yld i H' x H'' → ∃ w H0'', ws[i]? = some w ∧ RS K G' A' σ' H'' H0'' sl' st' ∧ Same H0' H0'' ∧ Same H' H'' ∧ RepW K A' H0'' x w) ∧ (i = ws.length → J.stop i H')
abbrev IK := List W → List Ob → Prop
def IWJ (X : Cx) (G : Ent) (tg iter : Expr) (sl : Sls) (st : List Ob) (Θ : IK) : Prop :=
  ∀ A σ H H0, RS X.K G A σ H H0 sl st → ∀ R : It → Hp → Prop, (∀ J ws st1 A1 H1 H01, Θ ws st1 → RS X.K G A1 σ H1 H01 sl st1 → Ext A A1 → Same H0 H01 → Items X.K J ws A1 H01 → R J H1) → wpI X tg iter σ H R
section
variable {X : Cx} {G : Ent} {e a b c o tg iter elt : Expr} {es : List Expr} {sl : Sls} {st : List Ob} {Φ : WK} {Ψ : BK} {Λ : LK} {Θ : IK} {pos p apos cpos : Pos}
theorem items_list {K : PySem.W.Frag} {a : Addr} {vs : List V} {xs : List D} {A1 : List Addr} {H01 : Hp} (he : H01 a = some (.lst vs)) (rr : Reps K H01 vs xs) : Items K (Itl K a) (xs.map W.dat) A1 H01 := fun i G' A' σ' H' H0' sl' st' R x s => by
  have hs : SqL K H' a vs := .inl (.inl (R.hs.le _ _ (s _ _ he)))
  have hl := rr.length
  rw [List.length_map]
  refine ⟨fun hi => ⟨⟨vs, vs[i]'(by omega), hs, List.getElem?_eq_getElem _⟩, fun v H'' y => ?_⟩, fun hi => ⟨vs, hs, by omega⟩⟩
  obtain ⟨e1, y⟩ := y
  subst e1
  obtain ⟨d, hd, rd⟩ := rr.get' (y vs hs)
  exact ⟨.dat d, H0', by rw [List.getElem?_map, hd]; rfl, R, Same.refl _, Same.refl _, rd.mono s⟩
theorem items_tup {K : PySem.W.Frag} {a : Addr} {vs : List V} {xs : List D} {A1 : List Addr} {H01 : Hp} (he : H01 a = some (.tup vs)) (rr : Reps K H01 vs xs) : Items K (Itt K a) (xs.map W.dat) A1 H01 := fun i G' A' σ' H' H0' sl' st' R x s => by
  have hs : SqT K H' a vs := .inl (.inl (R.hs.le _ _ (s _ _ he)))
  have hl := rr.length
  rw [List.length_map]
  refine ⟨fun hi => ⟨⟨vs, vs[i]'(by omega), hs, List.getElem?_eq_getElem _⟩, fun v H'' y => ?_⟩, fun hi => ⟨vs, hs, by omega⟩⟩
  obtain ⟨e1, y⟩ := y
  subst e1
  obtain ⟨d, hd, rd⟩ := rr.get' (y vs hs)
  exact ⟨.dat d, H0', by rw [List.getElem?_map, hd]; rfl, R, Same.refl _, Same.refl _, rd.mono s⟩
theorem items_tupK {K : PySem.W.Frag} {a : Addr} {o : Obj} {n : Nat} {A1 : List Addr} {H01 : Hp} (l : K.lookup a = some o) (c : o.cls = .type "tuple") (d : o.data = .seq #[] n) : Items K (Itt K a) [] A1 H01 := fun i G' A' σ' H' H0' sl' st' R x s =>
  ⟨fun hi => absurd hi (Nat.not_lt_zero _), fun hi => ⟨[], sqT_K l c d, Nat.zero_le _⟩⟩
def rng (lo : Int) (n : Nat) : List W := (List.range n).map fun (i : Nat) => W.dat (.int (lo + (i : Int)))
theorem rng_length (lo : Int) (n : Nat) : (rng lo n).length = n := by simp [rng]
theorem rng_get {lo : Int} {n i : Nat} (h : i < n) : (rng lo n)[i]? = some (W.dat (.int (lo + i))) := by
  unfold rng
  rw [List.getElem?_map, List.getElem?_range h]
  rfl
theorem items_range {K : PySem.W.Frag} {lo : Int} {n : Nat} {A1 : List Addr} {H01 : Hp} : Items K (Itr lo n) (rng lo n) A1 H01 := fun i G' A' σ' H' H0' sl' st' R x s => by
  rw [rng_length]
  refine ⟨fun hi => ⟨hi, fun v H'' y => ?_⟩, fun hi => Nat.le_of_eq hi.symm⟩
  obtain ⟨e1, y⟩ := y
  subst e1 y
  exact ⟨_, H0', rng_get hi, R, Same.refl _, Same.refl _, .int _⟩
def enm (xs : List D) : List W := xs.zipIdx.map fun q => W.dat (.tup [.int (q.2 : Int), q.1])
theorem enm_length (xs : List D) : (enm xs).length = xs.length := by simp [enm]
theorem enm_get {xs : List D} {i : Nat} {d : D} (h : xs[i]? = some d) : (enm xs)[i]? = some (W.dat (.tup [.int (i : Int), d])) := by
  unfold enm
  rw [List.getElem?_map, List.getElem?_zipIdx, h]
  simp
theorem items_enum {K : PySem.W.Frag} {a : Addr} {vs : List V} {xs : List D} {A1 : List Addr} {H01 : Hp} (he : H01 a = some (.lst vs)) (rr : Reps K H01 vs xs) : Items K (Ite K a) (enm xs) A1 H01 := fun i G' A' σ' H' H0' sl' st' R x s => by
  have hs : SqL K H' a vs := .inl (.inl (R.hs.le _ _ (s _ _ he)))
  have hl := rr.length
  rw [enm_length]
  refine ⟨fun hi => ⟨⟨vs, vs[i]'(by omega), hs, List.getElem?_eq_getElem _⟩, fun v H'' y => ?_⟩, fun hi => ⟨vs, hs, by omega⟩⟩
  obtain ⟨T, x, ev, hT, eH, y⟩ := y
  subst ev eH
  obtain ⟨d, hd, rd⟩ := rr.get' (y vs hs)
  have s0 := same_upd (o := .tup [V.int ((i : Nat) : Int), x]) (R.hs.free0 hT)
  exact ⟨_, _, enm_get hd, R.alloc hT, s0, same_upd hT, .tup upd_same (.cons (.int _) (.cons ((rd.mono s).mono s0) .nil))⟩
theorem iw_list (h : EW X G e sl st fun w st1 => (∃ xs, w = .dat (.lst xs) ∧ Θ (xs.map W.dat) st1)) : IWJ X G tg e sl st Θ := fun A σ H H0 R Rr k => wpI_of (pi_list pe_wp) (h A σ H H0 R _ fun w st1 v A1 H1 H01 ⟨xs, ew, q⟩ R1 x1 s1 r1 => by
  subst ew
  cases r1 with
  | lst e rr => exact ⟨_, rfl, ⟨_, .inl (.inl (R1.hs.le _ _ e))⟩, k _ _ st1 A1 H1 H01 q R1 x1 s1 (items_list e rr)⟩)
theorem iw_tup (h : EW X G e sl st fun w st1 => (∃ xs, w = .dat (.tup xs) ∧ Θ (xs.map W.dat) st1)) : IWJ X G tg e sl st Θ := fun A σ H H0 R Rr k => wpI_of (pi_tup pe_wp) (h A σ H H0 R _ fun w st1 v A1 H1 H01 ⟨xs, ew, q⟩ R1 x1 s1 r1 => by
  subst ew
  cases r1 with
  | tup e rr => exact ⟨_, rfl, ⟨_, .inl (.inl (R1.hs.le _ _ e))⟩, k _ _ st1 A1 H1 H01 q R1 x1 s1 (items_tup e rr)⟩
  | tupK l c d => exact ⟨_, rfl, ⟨_, sqT_K l c d⟩, k _ _ st1 A1 H1 H01 q R1 x1 s1 (items_tupK l c d)⟩)
theorem iw_range1 (hm : X.mg "range" = none) (h : AW X G [a] sl st fun ws st1 => ∃ j : Int, ws = [.dat (.int j)] ∧ -(2 ^ 62) ≤ j ∧ j < 2 ^ 62 ∧ Θ (rng 0 j.toNat) st1) (hg : Gl X "range" := by rfl) (hs : starEach [a] X.env = [(false, eval a X.env)] := by rfl) : IWJ X G tg (.Call (.Name "range" p) [a] [] pos) sl st Θ := fun A σ H H0 R Rr k =>
  wpI_of (pi_range1 hg hm pa_wp hs) (h A σ H H0 R _ fun ws st1 vs A1 H1 H01 ⟨j, ew, b1, b2, q⟩ R1 x1 s1 r1 => by
    subst ew
    obtain ⟨v, rfl, r⟩ := rep1 r1
    cases r
    exact ⟨j, rfl, b1, b2, k _ _ st1 A1 H1 H01 q R1 x1 s1 items_range⟩)
theorem iw_range2 (hm : X.mg "range" = none) (h : AW X G [a, b] sl st fun ws st1 => ∃ i j : Int, ws = [.dat (.int i), .dat (.int j)] ∧ (-(2 ^ 62) ≤ i ∧ i < 2 ^ 62 ∧ -(2 ^ 62) ≤ j ∧ j < 2 ^ 62) ∧ Θ (rng i (j - i).toNat) st1) (hg : Gl X "range" := by rfl) (hs : starEach [a, b] X.env = [(false, eval a X.env), (false, eval b X.env)] := by rfl) (hs2 : starEach [b] X.env = [(false, eval b X.env)] := by rfl) :
    IWJ X G tg (.Call (.Name "range" p) [a, b] [] pos) sl st Θ := fun A σ H H0 R Rr k =>
  wpI_of (pi_range2 hg hm pa_wp hs hs2) (h A σ H H0 R _ fun ws st1 vs A1 H1 H01 ⟨i, j, ew, bb, q⟩ R1 x1 s1 r1 => by
    subst ew
    obtain ⟨v, u, rfl, r, r'⟩ := rep2 r1
    cases r
    cases r'
    exact ⟨i, j, rfl, bb, k _ _ st1 A1 H1 H01 q R1 x1 s1 items_range⟩)
theorem iw_enum {elts : List Expr} {kk : Nat} {tpos : Pos} (hm : X.mg "enumerate" = none) (h : AW X G [e] sl st fun ws st1 => ∃ xs, ws = [.dat (.lst xs)] ∧ Θ (enm xs) st1) (hg : Gl X "enumerate" := by rfl) (hs : starEach [e] X.env = [(false, eval e X.env)] := by rfl) :
    IWJ X G (.Tuple elts kk tpos) (.Call (.Name "enumerate" p) [e] [] pos) sl st Θ := fun A σ H H0 R Rr k =>
  wpI_of (pi_enum hg hm pa_wp hs) (h A σ H H0 R _ fun ws st1 vs A1 H1 H01 ⟨xs, ew, q⟩ R1 x1 s1 r1 => by
    subst ew
    obtain ⟨v, rfl, r⟩ := rep1 r1
    cases r with
    | lst e rr => exact ⟨_, _, rfl, .inl (.inl (R1.hs.le _ _ e)), k _ _ st1 A1 H1 H01 q R1 x1 s1 (items_enum e rr)⟩)
abbrev GK := Sls → List Ob → Prop
def wpG (X : Cx) (tg : Expr) : TG := fun v σ H Q => ∀ (pins : List (Addr × Obj)) (s : Shared) (u : Value), Inv X pins σ H s → RelV v u →
    wpAny (model X.prog X.w) X.A (assign tg X.env u) (fun _ s' => ∃ σ' H', Inv X pins σ' H' s' ∧ Q σ' H') X.xe s
theorem pg_wp {X : Cx} {tg : Expr} : PG X tg (wpG X tg) := ⟨fun pins s _ _ _ u _ I r h => h pins s u I r⟩
theorem wpG_of {X : Cx} {tg : Expr} {g : TG} {v : V} {σ : St} {H : Hp} {Q : St → Hp → Prop} (h : PG X tg g) (q : g v σ H Q) : wpG X tg v σ H Q := fun pins s u I r => h.run pins s σ H v u Q I r q
def wpGs (X : Cx) (ts : List Expr) : TGs := fun vs σ H Q => ∀ (pins : List (Addr × Obj)) (s : Shared) (us : List Value), Inv X pins σ H s → Vals vs us →
    wpAny (model X.prog X.w) X.A (assignInOrder ((assignEach ts X.env).map (·.2)) us) (fun _ s' => ∃ σ' H', Inv X pins σ' H' s' ∧ Q σ' H') X.xe s
theorem pgs_wp {X : Cx} {ts : List Expr} : PGs X ts (wpGs X ts) := ⟨fun pins s _ _ _ us _ I r h => h pins s us I r⟩
theorem wpGs_of {X : Cx} {ts : List Expr} {g : TGs} {vs : List V} {σ : St} {H : Hp} {Q : St → Hp → Prop} (h : PGs X ts g) (q : g vs σ H Q) : wpGs X ts vs σ H Q := fun pins s us I r => h.run pins s σ H vs us Q I r q
def CtG (K : PySem.W.Frag) (G : Ent) (A : List Addr) (H0 : Hp) (Γ : GK) (Q : St → Hp → Prop) : Prop := ∀ A' σ' H' H0' sl' st', Γ sl' st' → RS K G A' σ' H' H0' sl' st' → Ext A A' → Same H0 H0' → Q σ' H'
def GW (X : Cx) (G : Ent) (tg : Expr) (w : W) (sl : Sls) (st : List Ob) (Γ : GK) : Prop := ∀ A σ H H0, RS X.K G A σ H H0 sl st → ∀ v, RepW X.K A H0 v w → ∀ Q, CtG X.K G A H0 Γ Q → wpG X tg v σ H Q
def GsW (X : Cx) (G : Ent) (ts : List Expr) (ws : List W) (sl : Sls) (st : List Ob) (Γ : GK) : Prop := ∀ A σ H H0, RS X.K G A σ H H0 sl st → ∀ vs, RepWs X.K A H0 vs ws → ∀ Q, CtG X.K G A H0 Γ Q → wpGs X ts vs σ H Q
theorem RS.set {K : PySem.W.Frag} {A : List Addr} {σ : St} {H H0 : Hp} (R : RS K G A σ H H0 sl st) {v : V} {w : W} (r : RepW K A H0 v w) (i : Nat) : RS K G A (σ.set i (some v)) H H0 (sl.set i (some w)) st := ⟨R.sl.set r i, R.hs, R.fr⟩
theorem gw_name (i : Nat) {x : Str} {w : W} {Γ : GK} (h : Γ (sl.set i (some w)) st) (hN : X.N.Nodup) (hi : X.N[i]? = some x := by rfl) (hx : Loc X.env.scope x := by first | exact .inl rfl | exact .inr rfl) (hf : X.fn x = true ∨ X.env.scope.names.lookup x = some .local := by first | exact .inl rfl | exact .inr rfl) : GW X G (.Name x pos) w sl st Γ := fun A σ H H0 R v r Q k =>
  wpG_of (pg_name hN hi hx hf) (show Q (σ.set i (some v)) H from k A _ H H0 _ st h (R.set r i) (Ext.refl _) (Same.refl _))
theorem gs_nil {Γ : GK} (h : Γ sl st) : GsW X G [] [] sl st Γ := fun A σ H H0 R vs r Q k => by
  match vs, r with
  | [], _ => exact wpGs_of pgs_nil ⟨rfl, k A σ H H0 sl st h R (Ext.refl _) (Same.refl _)⟩
theorem gs_cons {w : W} {ws : List W} {Γ : GK} (h : GW X G e w sl st fun sl1 st1 => GsW X G es ws sl1 st1 Γ) (hs : (assignEach (e :: es) X.env).map (·.2) = assign e X.env :: (assignEach es X.env).map (·.2) := by rfl) : GsW X G (e :: es) (w :: ws) sl st Γ := fun A σ H H0 R vs r Q k => by
  match vs, r with
  | v :: vs, r => exact wpGs_of (pgs_cons pg_wp pgs_wp hs) ⟨v, vs, rfl, h A σ H H0 R v r.1 _ fun A1 σ1 H1 H01 sl1 st1 q R1 x1 s1 => q A1 σ1 H1 H01 R1 vs (r.2.mono x1 s1) Q fun A2 σ2 H2 H02 sl2 st2 q2 R2 x2 s2 => k A2 σ2 H2 H02 sl2 st2 q2 R2 (x1.trans x2) (s1.trans s2)⟩
theorem gw_tup {kk : Nat} {ds : List D} {Γ : GK} (hc : X.calm = true) (h : GsW X G es (ds.map W.dat) sl st Γ) (hn : (assignEach es X.env).length = ds.length := by rfl) (hst : (assignEach es X.env).findIdx? (·.1) = none := by rfl) : GW X G (.Tuple es kk pos) (.dat (.tup ds)) sl st Γ := fun A σ H H0 R v r Q k => by
  cases r with
  | tup e rr => exact wpG_of (pg_tup hc pgs_wp hn hst) ⟨_, _, rfl, .inl (.inl (R.hs.le _ _ e)), rr.length, h A σ H H0 R _ (RepWs.of rr) Q k⟩
  | tupK l c d => exact wpG_of (pg_tup hc pgs_wp hn hst) ⟨_, _, rfl, sqT_K l c d, rfl, h A σ H H0 R _ (RepWs.of (vs := []) .nil) Q k⟩
theorem gw_sub {w : W} {Γ : GK} (h : EW X G o sl st fun w1 st1 => EW X G b sl st1 fun w2 st2 => ∃ j i k xs, w1 = .ptr j ∧ w2 = .dat (.int i) ∧ st2[j]? = some (.lst xs) ∧ ixN xs.length i = some k ∧ Γ sl (st2.set j (.lst (xs.set k w))))
    (ha : ∀ v, assign (.Subscript o b pos) X.env v = (do
      let ov ← holding [v] (eval o X.env)
      let iv ← holding [v, ov] (eval b X.env)
      standAt pos
      holding [v, ov, iv] (setItem ov iv v)
      release [v, ov, iv] []) := by intro _; rfl) : GW X G (.Subscript o b pos) w sl st Γ := fun A σ H H0 R v r Q k =>
  wpG_of (pg_sub pe_wp pe_wp set_list ha) (h A σ H H0 R _ fun w1 st1 v1 A1 H1 H01 e1 R1 x1 s1 r1 => e1 A1 σ H1 H01 R1 _ fun w2 st2 v2 A2 H2 H02 ⟨j, i, kx, xs, ew1, ew2, hj, hk, q⟩ R2 x2 s2 r2 => by
    subst ew1 ew2
    cases r2
    obtain ⟨ad, ha2, h0, vs, he, rr⟩ := R2.at hj
    obtain ⟨a', ha', rfl⟩ := r1.mono x2 s2
    have : a' = ad := Option.some.inj (ha'.symm.trans ha2)
    subst this
    refine ⟨a', vs, i, kx, rfl, rfl, he, by rw [rr.length]; exact hk, ?_⟩
    have rv := r.mono (x1.trans x2) (s1.trans s2)
    exact k A2 σ _ H02 sl _ q (R2.write ha2 hj h0 ⟨h0, _, upd_same, rr.set kx rv⟩) (x1.trans x2) (s1.trans s2))
structure KE where
  nx : GK
  rt : WK
  bk : GK := fun _ _ => False
  ct : GK := fun _ _ => False
structure EOk (K : PySem.W.Frag) (G : Ent) (A0 : List Addr) (H00 : Hp) (E : KE) (D : Ends) : Prop where
  nx : ∀ A σ H H0 sl st, E.nx sl st → RS K G A σ H H0 sl st → Ext A0 A → Same H00 H0 → D.nx σ H
  rt : ∀ A σ H H0 sl st w v, E.rt w st → RS K G A σ H H0 sl st → Ext A0 A → Same H00 H0 → RepW K A H0 v w → D.rt v H
  bk : ∀ A σ H H0 sl st, E.bk sl st → RS K G A σ H H0 sl st → Ext A0 A → Same H00 H0 → D.bk σ H
  ct : ∀ A σ H H0 sl st, E.ct sl st → RS K G A σ H H0 sl st → Ext A0 A → Same H00 H0 → D.ct σ H
theorem EOk.mv {K : PySem.W.Frag} {A0 A1 : List Addr} {H00 H01 : Hp} {E : KE} {D : Ends} (k : EOk K G A0 H00 E D) (x : Ext A0 A1) (s : Same H00 H01) : EOk K G A1 H01 E D :=
  ⟨fun A σ H H0 sl st q R x2 s2 => k.nx A σ H H0 sl st q R (x.trans x2) (s.trans s2), fun A σ H H0 sl st w v q R x2 s2 r => k.rt A σ H H0 sl st w v q R (x.trans x2) (s.trans s2) r,
    fun A σ H H0 sl st q R x2 s2 => k.bk A σ H H0 sl st q R (x.trans x2) (s.trans s2), fun A σ H H0 sl st q R x2 s2 => k.ct A σ H H0 sl st q R (x.trans x2) (s.trans s2)⟩
def wpS (X : Cx) (s : Stmt) : TS := fun D σ H => ∀ (pins : List (Addr × Obj)) (sh : Shared), Inv X pins σ H sh → wpAny (model X.prog X.w) X.A (exec s X.env) (SP X pins D) X.xe sh
theorem ps_wp {X : Cx} {s : Stmt} : PS X s (wpS X s) := ⟨fun pins sh _ _ _ I h => h pins sh I⟩
theorem wpS_of {X : Cx} {s : Stmt} {t : TS} {D : Ends} {σ : St} {H : Hp} (h : PS X s t) (q : t D σ H) : wpS X s D σ H := fun pins sh I => h.run pins sh σ H D I q
def wpSs (X : Cx) (ss : List Stmt) : TS := fun D σ H => ∀ (pins : List (Addr × Obj)) (sh : Shared), Inv X pins σ H sh → wpAny (model X.prog X.w) X.A (execs ss X.env) (SP X pins D) X.xe sh
theorem pss_wp {X : Cx} {ss : List Stmt} : PSs X ss (wpSs X ss) := ⟨fun pins sh _ _ _ I h => h pins sh I⟩
theorem wpSs_of {X : Cx} {ss : List Stmt} {t : TS} {D : Ends} {σ : St} {H : Hp} (h : PSs X ss t) (q : t D σ H) : wpSs X ss D σ H := fun pins sh I => h.run pins sh σ H D I q
def SW1 (X : Cx) (G : Ent) (s : Stmt) (sl : Sls) (st : List Ob) (E : KE) : Prop := ∀ A σ H H0, RS X.K G A σ H H0 sl st → ∀ D, EOk X.K G A H0 E D → wpS X s D σ H
def SW (X : Cx) (G : Ent) (ss : List Stmt) (sl : Sls) (st : List Ob) (E : KE) : Prop := ∀ A σ H H0, RS X.K G A σ H H0 sl st → ∀ D, EOk X.K G A H0 E D → wpSs X ss D σ H
variable {s : Stmt} {ss tt : List Stmt} {E : KE}
theorem sw_nil (h : E.nx sl st) : SW X G [] sl st E := fun A σ H H0 R D k => wpSs_of pss_nil (k.nx A σ H H0 sl st h R (Ext.refl _) (Same.refl _))
theorem sw_cons (h : SW1 X G s sl st { E with nx := fun sl1 st1 => SW X G ss sl1 st1 E }) : SW X G (s :: ss) sl st E := fun A σ H H0 R D k =>
  wpSs_of (pss_cons ps_wp pss_wp) (h A σ H H0 R _ ⟨fun A1 σ1 H1 H01 sl1 st1 q R1 x1 s1 => q A1 σ1 H1 H01 R1 D (k.mv x1 s1), k.rt, k.bk, k.ct⟩)
theorem sw_imp {E' : KE} (h : SW X G ss sl st E') (h1 : ∀ sl st, E'.nx sl st → E.nx sl st) (h2 : ∀ w st, E'.rt w st → E.rt w st) (h3 : ∀ sl st, E'.bk sl st → E.bk sl st) (h4 : ∀ sl st, E'.ct sl st → E.ct sl st) : SW X G ss sl st E := fun A σ H H0 R D k =>
  h A σ H H0 R D ⟨fun A1 σ1 H1 H01 sl1 st1 q => k.nx A1 σ1 H1 H01 sl1 st1 (h1 _ _ q), fun A1 σ1 H1 H01 sl1 st1 w v q => k.rt A1 σ1 H1 H01 sl1 st1 w v (h2 _ _ q), fun A1 σ1 H1 H01 sl1 st1 q => k.bk A1 σ1 H1 H01 sl1 st1 (h3 _ _ q), fun A1 σ1 H1 H01 sl1 st1 q => k.ct A1 σ1 H1 H01 sl1 st1 (h4 _ _ q)⟩
theorem sw_set (i : Nat) {x : Str} {pos' : Pos} (h : EW X G e sl st fun w st1 => E.nx (sl.set i (some w)) st1) (hN : X.N.Nodup) (hi : X.N[i]? = some x := by rfl) (hx : Loc X.env.scope x := by first | exact .inl rfl | exact .inr rfl) (hs : swapsWith e (some (.Name x pos')) pos.line X.env = pure false := by rfl)
    (hf : X.fn x = true ∨ X.env.scope.names.lookup x = some .local := by first | exact .inl rfl | exact .inr rfl) : SW1 X G (.Assign [.Name x pos'] e pos) sl st E := fun A σ H H0 R D k =>
  wpS_of (ps_set hN hi hx pe_wp hs hf) (h A σ H H0 R _ fun w st1 v A1 H1 H01 q R1 x1 s1 r1 => k.nx A1 _ H1 H01 _ st1 q (R1.set r1 i) x1 s1)
theorem sw_asg (h : EW X G e sl st fun w st1 => GW X G tg w sl st1 E.nx) (hs : swapsWithSole [tg] e pos.line X.env = pure false := by rfl) (hw : swappedStores [tg] e X.env = pure none := by rfl)
    (h1 : (assignEach [tg] X.env).map (·.2) = [assign tg X.env] := by rfl) : SW1 X G (.Assign [tg] e pos) sl st E := fun A σ H H0 R D k =>
  wpS_of (ps_asg pe_wp pg_wp hs hw h1) (h A σ H H0 R _ fun w st1 v A1 H1 H01 q R1 x1 s1 r1 => q A1 σ H1 H01 R1 v r1 _ fun A2 σ2 H2 H02 sl2 st2 q2 R2 x2 s2 => k.nx A2 σ2 H2 H02 sl2 st2 q2 R2 (x1.trans x2) (s1.trans s2))
theorem sw_par (i j : Nat) {x y : Str} {px py pt : Pos} {kt k2 pt2} (hc : X.calm = true) (h : AW X G [a, b] sl st fun ws st1 => ∃ w1 w2, ws = [w1, w2] ∧ E.nx ((sl.set i (some w1)).set j (some w2)) st1) (hN : X.N.Nodup) (hi : X.N[i]? = some x := by rfl) (hj : X.N[j]? = some y := by rfl) (hij : i ≠ j := by decide)
    (hx : X.env.scope.names.lookup x = some .local := by rfl) (hy : X.env.scope.names.lookup y = some .local := by rfl) (hst : swappedStores [Expr.Tuple [Expr.Name x px, Expr.Name y py] kt pt] (Expr.Tuple [a, b] k2 pt2) X.env = pure (some [x, y]) := by rfl) : SW1 X G (.Assign [.Tuple [.Name x px, .Name y py] kt pt] (.Tuple [a, b] k2 pt2) pos) sl st E := fun A σ H H0 R D k =>
  wpS_of (ps_par hc hN hi hj hij hx hy pa_wp hst) (h A σ H H0 R _ fun ws st1 vs A1 H1 H01 ⟨w1, w2, ew, q⟩ R1 x1 s1 r1 => by
    subst ew
    obtain ⟨v, u, rfl, r, r'⟩ := rep2 r1
    exact ⟨v, u, rfl, k.nx A1 _ H1 H01 _ st1 q ((R1.set r i).set r' j) x1 s1⟩)
theorem sw_expr (h : EW X G e sl st fun _ st1 => E.nx sl st1) (hs : swapsWith e none pos.line X.env = pure false := by rfl) : SW1 X G (.Expr e pos) sl st E := fun A σ H H0 R D k =>
  wpS_of (ps_expr pe_wp hs) (h A σ H H0 R _ fun w st1 v A1 H1 H01 q R1 x1 s1 r1 => k.nx A1 σ H1 H01 sl st1 q R1 x1 s1)
theorem sw_ret (h : EW X G e sl st E.rt) : SW1 X G (.Return (some e) pos) sl st E := fun A σ H H0 R D k =>
  wpS_of (ps_ret pe_wp) (h A σ H H0 R _ fun w st1 v A1 H1 H01 q R1 x1 s1 r1 => k.rt A1 σ H1 H01 sl st1 w v q R1 x1 s1 r1)
theorem sw_retN (h : E.rt (.dat .non) st) : SW1 X G (.Return none pos) sl st E := fun A σ H H0 R D k =>
  wpS_of ps_retN (k.rt A σ H H0 sl st _ _ h R (Ext.refl _) (Same.refl _) .non)
theorem sw_if (h : TW X G c sl st fun b st1 => if b = true then SW X G ss sl st1 E else SW X G tt sl st1 E) : SW1 X G (.If c ss tt pos) sl st E := fun A σ H H0 R D k => by
  refine wpS_of (ps_if pt_wp pss_wp pss_wp) (h A σ H H0 R _ fun b st1 A1 H1 H01 q R1 x1 s1 => ?_)
  cases b with
  | true =>
    rw [if_pos rfl] at q ⊢
    exact q A1 σ H1 H01 R1 D (k.mv x1 s1)
  | false =>
    rw [if_neg Bool.false_ne_true] at q ⊢
    exact q A1 σ H1 H01 R1 D (k.mv x1 s1)
theorem sw_pass (h : E.nx sl st) : SW1 X G (.Pass pos) sl st E := fun A σ H H0 R D k => wpS_of ps_pass (k.nx A σ H H0 sl st h R (Ext.refl _) (Same.refl _))
theorem sw_break (h : E.bk sl st) : SW1 X G (.Break pos) sl st E := fun A σ H H0 R D k => wpS_of ps_break (k.bk A σ H H0 sl st h R (Ext.refl _) (Same.refl _))
theorem sw_cont (h : E.ct sl st) : SW1 X G (.Continue pos) sl st E := fun A σ H H0 R D k => wpS_of ps_continue (k.ct A σ H H0 sl st h R (Ext.refl _) (Same.refl _))
def setF (f : Str) (w : W) : List (Str × W) → List (Str × W)
  | [] => [(f, w)]
  | (g, x) :: r => if g = f then (g, w) :: r else (g, x) :: setF f w r
theorem setF_rep {K : PySem.W.Frag} {A : List Addr} {H : Hp} {f : Str} {v : V} {w : W} (r : RepW K A H v w) : ∀ {vs : List (Str × V)} {fs : List (Str × W)}, RepWF K A H vs fs → RepWF K A H (putF f v vs) (setF f w fs)
  | [], [], _ => ⟨rfl, r, trivial⟩
  | (g, x) :: vs, (g', y) :: fs, h => by
    obtain ⟨h1, h2, h3⟩ := h
    simp only at h1 h2
    subst h1
    unfold putF setF
    by_cases e : g = f
    · rw [if_pos e, if_pos e]
      exact ⟨rfl, r, h3⟩
    · rw [if_neg e, if_neg e]
      exact ⟨rfl, h2, setF_rep r h3⟩
theorem RepWF.length {K : PySem.W.Frag} {A : List Addr} {H : Hp} : ∀ {vs : List (Str × V)} {fs : List (Str × W)}, RepWF K A H vs fs → vs.length = fs.length
  | [], [], _ => rfl
  | _ :: _, _ :: _, h => by simp [RepWF.length h.2.2]
theorem sw_fld {f : Str} {pos' : Pos} (h : EW X G e sl st fun w st1 => EW X G o sl st1 fun w2 st2 => ∃ j C fs, w2 = .ptr j ∧ st2[j]? = some (.ins C fs) ∧ Cls X.K C ∧ NoAttr X.K C f ∧ fs.length < 1000 ∧ E.nx sl (st2.set j (.ins C (setF f w fs))))
    (hs : swapsWith e (some (.Attribute o f pos')) pos.line X.env = pure false := by rfl) : SW1 X G (.Assign [.Attribute o f pos'] e pos) sl st E := fun A σ H H0 R D k =>
  wpS_of (ps_fld pe_wp pe_wp hs) (h A σ H H0 R _ fun w st1 v1 A1 H1 H01 e1 R1 x1 s1 r1 => e1 A1 σ H1 H01 R1 _ fun w2 st2 v2 A2 H2 H02 ⟨j, C, fs, ew, hj, hc, hn, hl, q⟩ R2 x2 s2 r2 => by
    subst ew
    obtain ⟨ad, ha, h0, dx, vs, he, rf⟩ := R2.at hj
    obtain ⟨a', ha', rfl⟩ := r2
    have : a' = ad := Option.some.inj (ha'.symm.trans ha)
    subst this
    exact ⟨_, C, dx, vs, rfl, he, hc, hn, by rw [rf.length]; exact hl, k.nx A2 σ _ H02 sl _ q (R2.write ha hj h0 ⟨h0, dx, _, upd_same, setF_rep (r1.mono x2 s2) rf⟩) (x1.trans x2) (s1.trans s2)⟩)
theorem ip_wp {op : Operator} : PIp X op (wpO X (inplaceOp op)) := fun pins s σ _ _ _ v u _ I r1 r2 h => h pins s σ v u I r1 r2
theorem sw_aug (i : Nat) {x : Str} {op : Operator} {w0 : W} {pos' : Pos} (h0 : sl[i]? = some (some w0)) (h : EW X G e sl st fun w st1 => OW X G (inplaceOp op) sl st1 w0 w fun w2 st2 => E.nx (sl.set i (some w2)) st2) (hN : X.N.Nodup) (hi : X.N[i]? = some x := by rfl) (hx : Loc X.env.scope x := by first | exact .inl rfl | exact .inr rfl)
    (hf : X.fn x = true ∨ X.env.scope.names.lookup x = some .local := by first | exact .inl rfl | exact .inr rfl) : SW1 X G (.AugAssign (.Name x pos') op e pos) sl st E := fun A σ H H0 R D k => by
  obtain ⟨v0, hv0, r0⟩ := R.sl.2 i w0 h0
  exact wpS_of (ps_aug hN hi hx pe_wp ip_wp hf) ⟨v0, hv0, h A σ H H0 R _ fun w st1 v A1 H1 H01 q R1 x1 s1 r1 => q A1 σ H1 H01 R1 v0 v (r0.mono x1 s1) r1 _ fun w2 st2 v2 A2 H2 H02 q2 R2 x2 s2 r2 => k.nx A2 _ H2 H02 _ st2 q2 (R2.set r2 i) (x1.trans x2) (s1.trans s2)⟩
theorem o_iadd {i j : Int} (h : Φ (.dat (.int (i + j))) st) : OW X G (inplaceOp .Add) sl st (.dat (.int i)) (.dat (.int j)) Φ := fun A σ H H0 R v1 v2 r1 r2 Q k pins s σ' u1 u2 I q1 q2 => by
  cases r1
  cases r2
  exact ip_add pins s σ' H _ _ u1 u2 Q I q1 q2 ⟨i, j, rfl, rfl, k _ st _ A H H0 h R (Ext.refl _) (Same.refl _) (.int _)⟩
theorem sw_for {body : List Stmt} (hp : PassesOwn (model X.prog X.w) X.A X.env X.xe) (hc : X.calm = true) (hi : IWJ X G tg iter sl st fun ws st1 => ∃ I : Nat → GK, I 0 sl st1 ∧
      (∀ i w sl' st', ws[i]? = some w → I i sl' st' → GW X G tg w sl' st' fun sl2 st2 => SW X G body sl2 st2 { E with nx := I (i + 1), ct := I (i + 1), bk := E.nx }) ∧ (∀ sl' st', I ws.length sl' st' → E.nx sl' st'))
    (hs : ∀ x, foldedSetIterable iter X.env x = pure x := by intro _; rfl) : SW1 X G (.For tg iter body [] pos) sl st E := fun A σ H H0 R D k => by
  refine wpS_of (ps_for hp hc pi_wp pg_wp pss_wp hs) (hi A σ H H0 R _ fun J ws st1 A1 H1 H01 ⟨I, i0, turn, fin⟩ R1 x1 s1 it => ?_)
  refine ⟨fun i m σ H => m = ws.length - i ∧ i ≤ ws.length ∧ ∃ A' H0' sl' st', I i sl' st' ∧ RS X.K G A' σ H H0' sl' st' ∧ Ext A1 A' ∧ Same H01 H0', ⟨ws.length, by simp, Nat.zero_le _, A1, H01, sl, st1, i0, R1, Ext.refl _, Same.refl _⟩, ?_⟩
  rintro i m σ H ⟨rfl, hle, A', H0', sl', st', q, R', x', s'⟩
  obtain ⟨go, stop⟩ := it i G A' σ H H0' sl' st' R' x' s'
  by_cases hlt : i < ws.length
  · obtain ⟨g1, g2⟩ := go hlt
    refine .inr ⟨g1, fun σ' H' => ∃ A' H0' sl' st', I (i + 1) sl' st' ∧ RS X.K G A' σ' H' H0' sl' st' ∧ Ext A1 A' ∧ Same H01 H0', fun σ' H' h => ⟨ws.length - (i + 1), by omega, rfl, hlt, h⟩, fun x H' y => ?_⟩
    obtain ⟨w, H0'', hw, R2, s2, s3, rw⟩ := g2 x H' y
    refine turn i w sl' st' hw q A' σ H' H0'' R2 x rw _ fun A3 σ3 H3 H03 sl3 st3 q3 R3 x3 s4 => ?_
    refine q3 A3 σ3 H3 H03 R3 _ ⟨fun A4 σ4 H4 H04 sl4 st4 q4 R4 x4 s5 => ?_, fun A4 σ4 H4 H04 sl4 st4 w v q4 R4 x4 s5 r4 => ?_, fun A4 σ4 H4 H04 sl4 st4 q4 R4 x4 s5 => ?_, fun A4 σ4 H4 H04 sl4 st4 q4 R4 x4 s5 => ?_⟩
    · exact ⟨A4, H04, sl4, st4, q4, R4, x'.trans (x3.trans x4), s'.trans (s2.trans (s4.trans s5))⟩
    · exact k.rt A4 σ4 H4 H04 sl4 st4 w v q4 R4 (x1.trans (x'.trans (x3.trans x4))) (s1.trans (s'.trans (s2.trans (s4.trans s5)))) r4
    · exact k.nx A4 σ4 H4 H04 sl4 st4 q4 R4 (x1.trans (x'.trans (x3.trans x4))) (s1.trans (s'.trans (s2.trans (s4.trans s5))))
    · exact ⟨A4, H04, sl4, st4, q4, R4, x'.trans (x3.trans x4), s'.trans (s2.trans (s4.trans s5))⟩
  · have e : i = ws.length := by omega
    exact .inl ⟨stop e, k.nx A' σ H H0' sl' st' (fin sl' st' (by rw [← e]; exact q)) R' (x1.trans x') (s1.trans s')⟩
theorem sw_while {body : List Stmt} (hp : PassesOwn (model X.prog X.w) X.A X.env X.xe) (I : Nat → GK) (m0 : Nat) (h0 : I m0 sl st)
    (hs : ∀ m sl st, I m sl st → TW X G c sl st fun b st1 => if b = true then SW X G body sl st1 { E with nx := fun sl' st' => ∃ m', m' < m ∧ I m' sl' st', ct := fun sl' st' => ∃ m', m' < m ∧ I m' sl' st', bk := E.nx } else E.nx sl st1) : SW1 X G (.While c body [] pos) sl st E := fun A σ H H0 R D k => by
  refine wpS_of (ps_while hp pt_wp pss_wp) ⟨fun m σ' H' => ∃ A' H0' sl' st', I m sl' st' ∧ RS X.K G A' σ' H' H0' sl' st' ∧ Ext A A' ∧ Same H0 H0', ⟨m0, A, H0, sl, st, h0, R, Ext.refl _, Same.refl _⟩, ?_⟩
  rintro m σ' H' ⟨A', H0', sl', st', q, R', x', s'⟩
  refine hs m sl' st' q A' σ' H' H0' R' _ fun b st1 A1 H1 H01 q1 R1 x1 s1 => ?_
  cases b with
  | true =>
    rw [if_pos rfl] at q1 ⊢
    refine ⟨fun σ2 H2 => ∃ A2 H02 sl2 st2, (∃ m', m' < m ∧ I m' sl2 st2) ∧ RS X.K G A2 σ2 H2 H02 sl2 st2 ∧ Ext A A2 ∧ Same H0 H02, fun σ2 H2 ⟨A2, H02, sl2, st2, ⟨m', hm, q2⟩, R2, x2, s2⟩ => ⟨m', hm, A2, H02, sl2, st2, q2, R2, x2, s2⟩, ?_⟩
    refine q1 A1 σ' H1 H01 R1 _ ⟨fun A4 σ4 H4 H04 sl4 st4 q4 R4 x4 s5 => ?_, fun A4 σ4 H4 H04 sl4 st4 w v q4 R4 x4 s5 r4 => ?_, fun A4 σ4 H4 H04 sl4 st4 q4 R4 x4 s5 => ?_, fun A4 σ4 H4 H04 sl4 st4 q4 R4 x4 s5 => ?_⟩
    · exact ⟨A4, H04, sl4, st4, q4, R4, x'.trans (x1.trans x4), s'.trans (s1.trans s5)⟩
    · exact k.rt A4 σ4 H4 H04 sl4 st4 w v q4 R4 (x'.trans (x1.trans x4)) (s'.trans (s1.trans s5)) r4
    · exact k.nx A4 σ4 H4 H04 sl4 st4 q4 R4 (x'.trans (x1.trans x4)) (s'.trans (s1.trans s5))
    · exact ⟨A4, H04, sl4, st4, q4, R4, x'.trans (x1.trans x4), s'.trans (s1.trans s5)⟩
  | false =>
    rw [if_neg Bool.false_ne_true] at q1 ⊢
    exact k.nx A1 σ' H1 H01 sl' st1 q1 R1 (x'.trans x1) (s'.trans s1)
theorem ew_frz {j : Nat} {xs : List D} (h : EW X G e sl st fun w st1 => (w = .ptr j ∧ st1[j]? = some (.lst (xs.map W.dat)) ∧ G.A.length ≤ j) ∧ Φ (.dat (.lst xs)) (st1.set j .gone)) : EW X G e sl st Φ := fun A σ H H0 R Q k => h A σ H H0 R Q fun w st1 v A1 H1 H01 ⟨⟨ew, hj, hg⟩, q⟩ R1 x1 s1 r1 => by
  subst ew
  obtain ⟨ad, ha, h0, vs, he, rr⟩ := R1.at hj
  obtain ⟨a', ha', rfl⟩ := r1
  have : a' = ad := Option.some.inj (ha'.symm.trans ha)
  subst this
  have gx : G.H a' = none := by
    rcases R1.fr.loc a' (List.mem_of_getElem? ha) with z | z
    · exfalso
      obtain ⟨i, hi, e⟩ := List.mem_iff_getElem.mp z
      have h1 := R1.fr.pre.get (List.getElem?_eq_getElem hi)
      rw [e] at h1
      have h2 := List.getElem?_eq_some_iff.mp h1
      have h3 := List.getElem?_eq_some_iff.mp ha
      have := (List.getElem_inj R1.hs.nd).mp (h2.2.trans h3.2.symm)
      omega
    · exact z
  have s0 : Same H01 (upd H01 a' (.lst vs)) := same_upd h0
  exact k _ _ _ A1 H1 _ q (R1.freeze ha hj he h0 gx) x1 (s1.trans s0) (.lst upd_same (rr.dats.mono s0))
end
end Dn
namespace Dn
open PySem PySem.Spec L2 StX ClX
open PyProof.Rows hiding St
def startS (N : List Str) (args : List W) : Sls := args.map some ++ List.replicate (N.length - args.length) none
def KrE (st0 : List Ob) (Ret : WK) : WK := fun w st' => ∃ st1 g, st' = st1 ++ g ∧ st0.length ≤ st1.length ∧ Clos st1 ∧ CloW st1.length w ∧ Ret w st1
def KxE (st0 : List Ob) (Exc : XKD) : XKS := fun c fs _ st' => ∃ st1 g, st' = st1 ++ g ∧ st0.length ≤ st1.length ∧ Clos st1 ∧ Exc c fs st1
theorem RepWs.lenS {K : PySem.W.Frag} {A : List Addr} {H0 : Hp} {N : List Str} {vs : List V} {args : List W} (h : RepWs K A H0 vs args) : Slots K A H0 (L2.start N vs) (startS N args) := by
  have hl := h.length
  refine ⟨by unfold L2.start startS; simp [hl], fun i w q => ?_⟩
  unfold startS at q
  unfold L2.start
  by_cases hi : i < args.length
  · rw [List.getElem?_append_left (by simpa using hi), List.getElem?_map] at q
    cases e : args[i]? with
    | none => rw [e] at q; cases q
    | some w' =>
      rw [e] at q
      cases q
      obtain ⟨v, hv, r⟩ := h.get e
      exact ⟨v, by rw [List.getElem?_append_left (by simpa [hl] using hi), List.getElem?_map, hv]; rfl, r⟩
  · rw [List.getElem?_append_right (by simpa using hi), List.getElem?_replicate] at q
    split at q <;> cases q
structure FnGo (P : Program) (w : World) (K : PySem.W.Frag) (mg : Str → Option Value) (base : Heap) (CX : CXT) (k : Nat) (f : Addr) (fd : FuncData) (ps : List Str) (sp : Sp) : Prop where
  ln : ∀ xs h Q E, sp xs h Q E → xs.length = ps.length
  go : ∀ (B : Around) (out : List Env) (t : Shared) (h : Hp) (ar : Args) (us : List Value) (xs : List V) (Q : VK) (E : XK), RoomG k B → Env0 P w K mg base B out t h → BindsTo t fd ar (ps.zip us) → Vals xs us → sp xs h Q E → codeAny (model P w) B (.call (.ref f) ar) (CR CX out P w h t Q E) t
section
variable {P : Program} {w : World} {K : PySem.W.Frag} {mg : Str → Option Value} {base : Heap} {k : Nat} {f : Addr} {fd : FuncData} {N ps : List Str} {sp : Sp}
theorem FnGo.plain {CX : CXT} (F : FnGo P w K mg base CX k f fd ps sp) (b : Binds K fd ps []) : FnG P w K mg base CX k f sp := fun B out t h us xs Q E hr e0 r q => by
  have hin : K.In t.heap := e0.mod.kin.keeps fun c o e => (e0.bs c o e).1
  have n1 : (us ++ []).length = ps.length := by rw [List.append_nil, ← r.length]; exact F.ln _ _ _ _ q
  have bd := b t us hin n1
  rw [List.append_nil] at bd
  exact F.go B out t h _ us xs Q E hr e0 bd r q
theorem FnGo.ofBody {x qual : Str} {st : Stmt} (F : Fun K x qual st f fd) (S : FnScope N ps (defScope st)) (ln : ∀ xs h Q E, sp xs h Q E → xs.length = ps.length)
    (bd : ∀ (cdv : Value) (B : Around) (out : List Env) (t : Shared) (h : Hp) (xs : List V) (Q : VK) (E : XK), RoomG k (B.deeper (envOfC qual (defScope st) t.heap.objs.size f cdv)) → sp xs h Q E →
      ∃ r, PSs (cxOf (L2.CX P w) P w K mg base N qual (defScope st) f cdv B out t h E) (defBody st) r ∧ r { nx := fun _ h' => Q .non h', rt := Q } (L2.start N xs) h) : FnGo P w K mg base (L2.CX P w) (k + 1) f fd ps sp := by
  obtain ⟨_, _, _, _, _, _, cdv, _, _, rfl, at_f, at_c⟩ := F.ex
  constructor
  · exact ln
  intro B out t h ar us xs Q E room env bound vals q
  have up : ∀ c o, base.get? c = some o → t.heap.get? c = some o := fun c o e => (env.bs c o e).1
  have hin := env.mod.kin.keeps up
  refine codeAny_call_function room.r.depth (hin _ _ at_f) rfl S.co S.gen rfl (PySem.W.codeRec_of hin at_c) (bound _ _ _ _ (wpAny_newFunctionEnv_cells S.kind ?_ ?_))
  · rintro ⟨n, v⟩ hm
    refine (S.par n (List.of_mem_zip hm).1).imp id fun c => ⟨c, ?_⟩
    exact PySem.W.cellsFrom_some _ _ _ (.inl c)
  · rintro env1 rfl t1 made
    refine ⟨(env.mod.nolimit.keeps up).keeps made.toInCall.keep, codeAny_func ?_⟩
    obtain ⟨r, walk, here⟩ := bd cdv B out t h xs Q E (room.deeper _) q
    have inv0 := inv_start (CX := L2.CX P w) (E := E) S room.hd env (ln _ _ _ _ q) vals made
    refine wpAny_mono (walk.run [] t1 _ h _ inv0 here) ?_ fun _ _ z => z
    rintro (_ | _ | _ | u) t2 z
    · obtain ⟨_, h2, J, z⟩ := z
      exact ⟨.non, h2, J.os, J.bare, J.base, J.hok, rfl, z⟩
    · obtain ⟨_, _, _, z⟩ := z
      exact z.elim
    · obtain ⟨_, _, _, z⟩ := z
      exact z.elim
    · obtain ⟨v, _, h2, J, rv, z⟩ := z
      exact ⟨v, h2, J.os, J.bare, J.base, J.hok, rv, z⟩
end
theorem fnD {P : Program} {w : World} {K : PySem.W.Frag} {mg : Str → Option Value} {base : Heap} {x qual : Str} {st : Stmt} {f : Addr} {fd : FuncData} {N ps : List Str} {k : Nat} {F : FT} (Fn : Fun K x qual st f fd) (S : FnScope N ps (defScope st)) (b : Binds K fd ps [])
    (hlen : ∀ args st0 Ret Exc, F args st0 Ret Exc → args.length = ps.length)
    (body : ∀ (cdv : Value) (A : Around) (outer : List Env) (s : Shared) (H : Hp) (E : XK) (H0 : Hp) (Al : List Addr) (args : List W) (st0 : List Ob) (Ret : WK) (Exc : XKD),
      RoomG k (cxOf (L2.CX P w) P w K mg base N qual (defScope st) f cdv A outer s H E).A →
      XOk (cxOf (L2.CX P w) P w K mg base N qual (defScope st) f cdv A outer s H E) ⟨H, H0, Al⟩ (KxE st0 Exc) →
      PassesOwn (model P w) (cxOf (L2.CX P w) P w K mg base N qual (defScope st) f cdv A outer s H E).A (cxOf (L2.CX P w) P w K mg base N qual (defScope st) f cdv A outer s H E).env (cxOf (L2.CX P w) P w K mg base N qual (defScope st) f cdv A outer s H E).xe →
      Al.length = st0.length → Clos st0 → F args st0 Ret Exc →
      SW (cxOf (L2.CX P w) P w K mg base N qual (defScope st) f cdv A outer s H E) ⟨H, H0, Al⟩ (defBody st) (startS N args) st0 { nx := fun _ st' => KrE st0 Ret (.dat .non) st', rt := KrE st0 Ret }) :
    FnG P w K mg base (L2.CX P w) (k + 1) f (spD K F) := by
  have ok : FnGo P w K mg base (L2.CX P w) (k + 1) f fd ps (spD K F) := by
    refine FnGo.ofBody Fn S (fun vs H Q E h => ?_) (fun cdv A outer s H vs Q E hr h => ?_)
    · obtain ⟨H0, Al, args, st0, Ret, Exc, hs, rw, hF, _⟩ := h
      rw [rw.length]
      exact hlen _ _ _ _ hF
    · obtain ⟨H0, Al, args, st0, Ret, Exc, hs, rw, hF, hR, hE⟩ := h
      refine ⟨_, pss_wp, ?_⟩
      have fin : ∀ {A' H' H0' st' w v}, KrE st0 Ret w st' → HS K A' H' H0' st' → Fr ⟨H, H0, Al⟩ A' H' H0' → RepW K A' H0' v w → Q v H' := fun {A' H' H0' st' w v} q hs' fr r => by
        obtain ⟨st1, g, rfl, hl, hc, hw, q⟩ := q
        exact hR w st1 v _ H' H0' q (hs'.drop hc) (fr.drop (by show Al.length ≤ _; rw [hs.al]; exact hl)) (r.take hw)
      refine body cdv A outer s H E H0 Al args st0 Ret Exc hr ⟨_, takes_of rfl rfl rfl rfl, fun cls fs d vfs A' σ' H' H0' sl' st' q R xd rf => ?_⟩ (passes_of rfl) hs.al hs.clos hF Al (L2.start N vs) H H0 ⟨rw.lenS, hs, Fr.refl hs⟩ _ ⟨fun A' σ' H' H0' sl' st' q R _ _ => ?_, fun A' σ' H' H0' sl' st' w v q R _ _ r => ?_, fun _ _ _ _ _ _ q => q.elim, fun _ _ _ _ _ _ q => q.elim⟩
      · obtain ⟨st1, g, rfl, hl, hc, q⟩ := q
        exact hE cls fs d vfs st1 _ H' H0' q (R.hs.drop hc) (R.fr.drop (by show Al.length ≤ _; rw [hs.al]; exact hl)) xd rf
      · exact fin q R.hs R.fr (show RepW K A' H0' .non (.dat .non) from .non)
      · exact fin q R.hs R.fr r
  exact ok.plain b
theorem krE_of {st : List Ob} {Ret : WK} {d : D} (hc : Clos st) (h : Ret (.dat d) st) : KrE st Ret (.dat d) st := ⟨st, [], by simp, Nat.le_refl _, hc, trivial, h⟩
theorem krE_app {st g : List Ob} {Ret : WK} {d : D} (hc : Clos st) (h : Ret (.dat d) st) : KrE st Ret (.dat d) (st ++ g) := ⟨st, g, rfl, Nat.le_refl _, hc, trivial, h⟩
theorem kxE_of {st : List Ob} {Exc : XKD} {c : Value} {fs : List (Str × D)} {sl : Sls} (hc : Clos st) (h : Exc c fs st) : KxE st Exc c fs sl st := ⟨st, [], by simp, Nat.le_refl _, hc, h⟩
theorem kxE_app {st g : List Ob} {Exc : XKD} {c : Value} {fs : List (Str × D)} {sl : Sls} (hc : Clos st) (h : Exc c fs st) : KxE st Exc c fs sl (st ++ g) := ⟨st, g, rfl, Nat.le_refl _, hc, h⟩
def wipeL (sl : Sls) : List Nat → Sls
  | [] => sl
  | v :: vs => (wipeL sl vs).set v none
theorem Slots.wipe {K : PySem.W.Frag} {A : List Addr} {H0 : Hp} {σ : St} {sl : Sls} (h : Slots K A H0 σ sl) : ∀ vs : List Nat, Slots K A H0 (L2.wipe σ vs) (wipeL sl vs)
  | [] => h
  | v :: vs => by
    unfold L2.wipe wipeL
    exact (h.wipe vs).weak v none
theorem wipe_in {σ : St} {i : Nat} : ∀ {vs : List Nat}, i ∈ vs → (L2.wipe σ vs)[i]? = if i < σ.length then some none else none
  | v :: vs, h => by
    unfold L2.wipe
    by_cases hi : v = i
    · subst hi
      by_cases hl : v < σ.length
      · rw [if_pos hl, List.getElem?_set_self (by rw [wipe_length]; exact hl)]
      · rw [if_neg hl, List.getElem?_eq_none (by rw [List.length_set, wipe_length]; omega)]
    · rw [List.getElem?_set_ne hi]
      rcases List.mem_cons.mp h with e | h
      · exact absurd e.symm hi
      · exact wipe_in h
theorem wipe_eq {σ τ : St} {vs : List Nat} (hl : σ.length = τ.length) (h : ∀ i, i ∉ vs → σ[i]? = τ[i]?) : L2.wipe σ vs = L2.wipe τ vs := by
  apply List.ext_getElem?
  intro i
  by_cases hi : i ∈ vs
  · rw [wipe_in hi, wipe_in hi, hl]
  · rw [wipe_out hi, wipe_out hi]
    exact h i hi
theorem wipe_twice {σ : St} {vs : List Nat} : L2.wipe (L2.wipe σ vs) vs = L2.wipe σ vs := wipe_eq (wipe_length σ vs) fun i hi => wipe_out hi
def gl : List Nat → TGs
  | [] => gNil
  | i :: is => gCons (gName i) (gl is)
def setAll {α : Type} (σ : List (Option α)) : List Nat → List α → List (Option α)
  | i :: is, v :: vs => setAll (σ.set i (some v)) is vs
  | _, _ => σ
theorem gl_run {Q : St → Hp → Prop} {H : Hp} : ∀ {is : List Nat} {vs : List V} {σ : St}, vs.length = is.length → Q (setAll σ is vs) H → gl is vs σ H Q
  | [], [], σ, _, q => ⟨rfl, q⟩
  | i :: is, v :: vs, σ, h, q => ⟨v, vs, rfl, gl_run (by simpa using h) q⟩
theorem setAll_length {α : Type} : ∀ {is : List Nat} {vs : List α} {σ : List (Option α)}, (setAll σ is vs).length = σ.length
  | [], _, _ => rfl
  | _ :: _, [], _ => rfl
  | i :: is, v :: vs, σ => by
    unfold setAll
    rw [setAll_length, List.length_set]
theorem setAll_out {α : Type} {k : Nat} : ∀ {is : List Nat} {vs : List α} {σ : List (Option α)}, k ∉ is → (setAll σ is vs)[k]? = σ[k]?
  | [], _, _, _ => rfl
  | _ :: _, [], _, _ => rfl
  | i :: is, v :: vs, σ, h => by
    unfold setAll
    rw [setAll_out fun z => h (List.mem_cons_of_mem _ z), List.getElem?_set_ne fun z => h (by rw [z]; exact List.mem_cons_self)]
theorem Slots.setAll {K : PySem.W.Frag} {A : List Addr} {H0 : Hp} : ∀ {is : List Nat} {vs : List V} {ws : List W} {σ : St} {sl : Sls}, Slots K A H0 σ sl → RepWs K A H0 vs ws → Slots K A H0 (Dn.setAll σ is vs) (Dn.setAll sl is ws)
  | [], _, _, _, _, h, _ => h
  | _ :: _, [], [], _, _, h, _ => h
  | i :: is, v :: vs, w :: ws, σ, sl, h, r => (h.set r.1 i).setAll r.2
def tset : Bool → List Nat → W → Sls → Option Sls
  | false, [i], w, sl => some (sl.set i (some w))
  | true, is, .dat (.tup ds), sl => if ds.length = is.length then some (setAll sl is (ds.map W.dat)) else none
  | _, _, _, _ => none
def tgt (K : PySem.W.Frag) : Bool → List Nat → TG
  | false, is => gName (is.headD 0)
  | true, is => gTup K is.length (gl is)
theorem tgt_run {K : PySem.W.Frag} {A : List Addr} {σ : St} {H H0 : Hp} {sl sl2 : Sls} {v : V} {w : W} {b : Bool} {is vs : List Nat} {Q : St → Hp → Prop} (le : Same H0 H) (h : Slots K A H0 σ sl) (hs : ∀ i ∈ is, i ∈ vs) (r : RepW K A H0 v w) (e : tset b is w sl = some sl2)
    (q : ∀ σ2, Slots K A H0 σ2 sl2 → L2.wipe σ2 vs = L2.wipe σ vs → Q σ2 H) : tgt K b is v σ H Q := by
  cases b with
  | false =>
    match is, e, hs with
    | [i], e, hs =>
      cases e
      refine q _ (h.set r i) (wipe_eq (by simp) fun k hk => ?_)
      rw [List.getElem?_set_ne fun z => hk (by rw [← z]; exact hs i List.mem_cons_self)]
  | true =>
    cases w with
    | ptr j => cases is <;> cases e
    | dat d =>
      cases r with
      | tupK l c d =>
        simp only [tset] at e
        split at e
        · rename_i hl
          cases e
          refine ⟨_, [], rfl, sqT_K l c d, hl, gl_run hl (q _ (h.setAll (RepWs.of (vs := []) .nil)) (wipe_eq setAll_length fun k hk => setAll_out fun z => hk (hs k z)))⟩
        · cases e
      | @tup a us ds ea rr =>
        simp only [tset] at e
        split at e
        · rename_i hl
          cases e
          refine ⟨a, us, rfl, .inl (.inl (le _ _ ea)), by rw [rr.length, hl], gl_run (by rw [rr.length, hl]) (q _ (h.setAll (RepWs.of rr)) (wipe_eq setAll_length fun k hk => setAll_out fun z => hk (hs k z)))⟩
        · cases e
      | non => cases is <;> cases e
      | bl => cases is <;> cases e
      | int => cases is <;> cases e
      | str => cases is <;> cases e
      | lst _ _ => cases is <;> cases e
      | ins _ _ => cases is <;> cases e
      | scr => cases is <;> cases e
      | adr => cases is <;> cases e
      | ty => cases is <;> cases e
      | err0 => cases is <;> cases e
      | err _ _ => cases is <;> cases e
      | dk _ _ _ => cases is <;> cases e
      | dt _ _ _ => cases is <;> cases e
section
variable {K : PySem.W.Frag} {G : Ent} {A A' : List Addr} {σ : St} {H H' H0 H0' : Hp} {sl : Sls} {st st' : List Ob}
theorem RS.poke (R : RS K G A σ H H0 sl st) {p : Addr} {o : HO} (h0 : H0 p = none) (hA : p ∉ A) (hG : G.H p = none) : RS K G A σ (upd H p o) H0 sl st := by
  refine ⟨R.sl, ⟨same_updL R.hs.le h0, R.hs.al, R.hs.nd, fun j a u ha hu => ?_⟩, ⟨fun b u h hb => ?_, R.fr.old, R.fr.new, R.fr.pre, R.fr.loc⟩⟩
  · have hpa : a ≠ p := fun z => hA (by rw [← z]; exact List.mem_of_getElem? ha)
    exact (R.hs.ob j a u ha hu).heap (upd_ne hpa)
  · have hbp : b ≠ p := fun z => by
      rw [z, hG] at h
      cases h
    rw [upd_ne hbp]
    exact R.fr.fr b u h hb
end
section
variable {X : Cx} {G : Ent} {e a b c o tg iter elt : Expr} {es : List Expr} {sl : Sls} {st : List Ob} {Φ : WK} {Ψ : BK} {pos p : Pos}
def BlkE (X : Cx) (scope : Scope) (elt : Expr) : TE := fun σ H Q => ∀ (s : Shared) (Hb : Hp) (C : Addr) (cl : List (Str × Addr)) (fp : List Addr), wpE (X.blk s Hb scope (compEnvC scope cl C X.env) fp) elt σ H Q
def BlkT (X : Cx) (scope : Scope) (c : Expr) : TT := fun σ H Q => ∀ (s : Shared) (Hb : Hp) (C : Addr) (cl : List (Str × Addr)) (fp : List Addr), wpT (X.blk s Hb scope (compEnvC scope cl C X.env) fp) c σ H Q
def EWb (X : Cx) (scope : Scope) (elt : Expr) (sl : Sls) (st : List Ob) (Φ : WK) : Prop := ∀ (G : Ent) (s : Shared) (Hb : Hp) (C : Addr) (cl : List (Str × Addr)) (fp : List Addr), EW (X.blk s Hb scope (compEnvC scope cl C X.env) fp) G elt sl st Φ
def TWb (X : Cx) (scope : Scope) (c : Expr) (sl : Sls) (st : List Ob) (Ψ : BK) : Prop := ∀ (G : Ent) (s : Shared) (Hb : Hp) (C : Addr) (cl : List (Str × Addr)) (fp : List Addr), TW (X.blk s Hb scope (compEnvC scope cl C X.env) fp) G c sl st Ψ
def LcT (X : Cx) (scope : Scope) (ifs : List Expr) (elt : Expr) (sl2 : Sls) (st : List Ob) (acc : List D) (I : List D → List Ob → Prop) : Prop :=
  match ifs with
  | [] => EWb X scope elt sl2 st fun w st' => ∃ d, w = .dat d ∧ acc.length < sizeLine ∧ I (acc ++ [d]) st'
  | c :: _ => TWb X scope c sl2 st fun b st1 => if b = true then EWb X scope elt sl2 st1 fun w st' => ∃ d, w = .dat d ∧ acc.length < sizeLine ∧ I (acc ++ [d]) st' else I acc st1
def LcJ (X : Cx) (G : Ent) (tg iter : Expr) (ifs : List Expr) (elt : Expr) (scope : Scope) (tb : Bool) (is vs : List Nat) (sl : Sls) (st : List Ob) (fin : List D → List Ob → Prop) : Prop :=
  IWJ X G tg iter sl st fun ws st1 => ∃ I : Nat → List D → List Ob → Prop, I 0 [] st1 ∧
    (∀ i w acc st', ws[i]? = some w → I i acc st' → ∃ sl2, tset tb is w (wipeL sl vs) = some sl2 ∧ LcT X scope ifs elt sl2 st' acc (I (i + 1))) ∧ (∀ acc st', I ws.length acc st' → fin acc st')
theorem lc_run {ifs : List Expr} {scope : Scope} {tb : Bool} {is vs : List Nat} {tt : TT} {fin : List D → List Ob → Prop} (hif : (ifs = [] ∧ tt = tYes) ∨ (∃ c, ifs = [c] ∧ tt = BlkT X scope c)) (his : ∀ i ∈ is, i ∈ vs) (h : LcJ X G tg iter ifs elt scope tb is vs sl st fin)
    {A : List Addr} {σ : St} {H H0 : Hp} (R : RS X.K G A σ H H0 sl st) {Q : VK} (k : Ct X.K G A σ H0 sl (fun w st' => ∃ acc, w = .dat (.lst acc) ∧ fin acc st') Q) : tLc (wpI X tg iter) (tgt X.K tb is) tt (BlkE X scope elt) vs σ H Q := by
  refine h A σ H H0 R _ fun J ws st1 A1 H1 H01 ⟨I, i0, turn, fn⟩ R1 x1 s1 it => ?_
  intro Dl hD
  have h00 := R1.hs.free0 hD
  have hA0 := R1.hs.notin hD
  have hG0 := free_in R1.fr R1.hs hD
  refine ⟨fun i m H => m = ws.length - i ∧ i ≤ ws.length ∧ ∃ A' H0' st' acc us, I i acc st' ∧ RS X.K G A' σ H H0' sl st' ∧ Ext A1 A' ∧ Same H01 H0' ∧ H Dl = some (.lst us) ∧ Reps X.K H0' us acc ∧ H0' Dl = none ∧ Dl ∉ A',
    ⟨ws.length, by simp, Nat.zero_le _, A1, H01, st1, [], [], i0, R1.fresh hD, Ext.refl _, Same.refl _, upd_same, .nil, h00, hA0⟩, ?_⟩
  rintro i m Hc ⟨rfl, hle, A', H0', st', acc, us, q, R', x', s', hDl, racc, h0D, hAD⟩
  have RL : RS X.K ⟨Hc, H0', A'⟩ A' σ Hc H0' sl st' := ⟨R'.sl, R'.hs, Fr.refl R'.hs⟩
  obtain ⟨go, stop⟩ := it i ⟨Hc, H0', A'⟩ A' σ Hc H0' sl st' RL x' s'
  by_cases hlt : i < ws.length
  · obtain ⟨g1, g2⟩ := go hlt
    refine .inr ⟨g1, fun H' => ∃ A' H0' st' acc us, I (i + 1) acc st' ∧ RS X.K G A' σ H' H0' sl st' ∧ Ext A1 A' ∧ Same H01 H0' ∧ H' Dl = some (.lst us) ∧ Reps X.K H0' us acc ∧ H0' Dl = none ∧ Dl ∉ A', fun H' h => ⟨ws.length - (i + 1), by omega, rfl, hlt, h⟩, fun x H'' y => ?_⟩
    obtain ⟨w, H0'', hw, R2, s2, s3, rw⟩ := g2 x H'' y
    obtain ⟨sl2, hsl2, lt⟩ := turn i w acc st' hw q
    have noD : ∀ {Hn H0n : Hp} {An : List Addr}, Fr ⟨Hc, H0', A'⟩ An Hn H0n → H0n Dl = none ∧ Dl ∉ An ∧ Hn Dl = some (.lst us) := fun {Hn H0n An} f => by
      refine ⟨?_, fun z => ?_, f.fr Dl _ hDl hAD⟩
      · cases z : H0n Dl with
        | none => rfl
        | some o =>
          rcases f.new Dl o z with ⟨u, e⟩ | e
          · exact absurd (h0D.symm.trans e) (by intro z; cases z)
          · exact absurd (e _ hDl) (by rintro ⟨xs, z⟩; cases z)
      · rcases f.loc Dl z with z | z
        · exact hAD z
        · exact absurd (hDl.symm.trans z) (by intro z; cases z)
    have RG : RS X.K G A' σ H'' H0'' sl st' := R'.after R2.hs R2.fr
    have hG : G.H Dl = none := hG0
    refine tgt_run (vs := vs) R2.hs.le (R2.sl.wipe vs) his rw hsl2 fun σ2 hσ2 hw2 => ⟨by rw [hw2, wipe_twice], ?_⟩
    have elem : ∀ {A3 : List Addr} {H3 H03 : Hp} {st3 : List Ob}, (EWb X scope elt sl2 st3 fun w st' => ∃ d, w = .dat d ∧ acc.length < sizeLine ∧ I (i + 1) (acc ++ [d]) st') → RS X.K ⟨Hc, H0', A'⟩ A3 σ2 H3 H03 sl2 st3 →
        BlkE X scope elt σ2 H3 fun y H4 => ∃ acc', H4 Dl = some (.lst acc') ∧ acc'.length < sizeLine ∧ ∃ A' H0' st' acc us, I (i + 1) acc st' ∧ RS X.K G A' σ (upd H4 Dl (.lst (acc' ++ [y]))) H0' sl st' ∧ Ext A1 A' ∧ Same H01 H0' ∧ (upd H4 Dl (.lst (acc' ++ [y]))) Dl = some (.lst us) ∧ Reps X.K H0' us acc ∧ H0' Dl = none ∧ Dl ∉ A' := fun {A3 H3 H03 st3} hel R3 => by
      intro sb Hb C cl fp
      refine hel ⟨Hc, H0', A'⟩ sb Hb C cl fp A3 σ2 H3 H03 R3 _ fun w4 st4 v4 A4 H4 H04 ⟨d, ew, hz, q4⟩ R4 x4 s4 r4 => ?_
      subst ew
      obtain ⟨n0, nA, nH⟩ := noD R4.fr
      have R5 : RS X.K G A4 σ H4 H04 sl st4 := R'.after R4.hs R4.fr
      exact ⟨us, nH, by rw [racc.length]; exact hz, A4, H04, st4, acc ++ [d], us ++ [v4], q4, R5.poke n0 nA hG, x'.trans R4.fr.pre, s'.trans R4.fr.old, upd_same, (racc.mono R4.fr.old).append (.cons r4 .nil), n0, nA⟩
    have RB : RS X.K ⟨Hc, H0', A'⟩ A' σ2 H'' H0'' sl2 st' := ⟨hσ2, R2.hs, R2.fr⟩
    rcases hif with ⟨rfl, rfl⟩ | ⟨c, rfl, rfl⟩
    · show BlkE X scope elt σ2 H'' _
      exact elem lt RB
    · intro sb Hb C cl fp
      refine lt ⟨Hc, H0', A'⟩ sb Hb C cl fp A' σ2 H'' H0'' RB _ fun b st3 A3 H3 H03 q3 R3 x3 s3 => ?_
      cases b with
      | true =>
        rw [if_pos rfl] at q3 ⊢
        exact elem q3 R3
      | false =>
        rw [if_neg Bool.false_ne_true] at q3 ⊢
        obtain ⟨n0, nA, nH⟩ := noD R3.fr
        exact ⟨A3, H03, st3, acc, us, q3, R'.after R3.hs R3.fr, x'.trans R3.fr.pre, s'.trans R3.fr.old, nH, racc.mono R3.fr.old, n0, nA⟩
  · have e : i = ws.length := by omega
    refine .inl ⟨stop e, ?_⟩
    have s0 : Same H0' (upd H0' Dl (.lst us)) := same_upd h0D
    exact k _ st' _ A' Hc _ ⟨acc, rfl, fn acc st' (by rw [← e]; exact q)⟩ (R'.join hDl h0D hAD (fresh0_none hG0)) (x1.trans x') ((s1.trans s').trans s0) (.lst upd_same (racc.mono s0))
theorem blkE_pe {scope : Scope} : ∀ (s : Shared) (H : Hp) (C : Addr) (cl : List (Str × Addr)) (fp : List Addr), PE (X.blk s H scope (compEnvC scope cl C X.env) fp) elt (BlkE X scope elt) := fun s H C cl fp => ⟨fun pins sh σ Hh Q I h => h s H C cl fp pins sh I⟩
theorem blkT_pt {scope : Scope} : ∀ (s : Shared) (H : Hp) (C : Addr) (cl : List (Str × Addr)) (fp : List Addr), PT (X.blk s H scope (compEnvC scope cl C X.env) fp) c (BlkT X scope c) := fun s H C cl fp => ⟨fun pins sh σ Hh Q I h => h s H C cl fp pins sh I⟩
def TgOk (X : Cx) (tg : Expr) (scope : Scope) (tb : Bool) (is : List Nat) : Prop := ∀ (s : Shared) (H : Hp) (C : Addr) (cl : List (Str × Addr)) (fp : List Addr), PG (X.blk s H scope (compEnvC scope cl C X.env) fp) tg (tgt X.K tb is)
theorem ew_lc {own : List (Str × Nat)} {scope : Scope} {tb : Bool} {is : List Nat} (hc : X.calm = true) (hN : X.N.Nodup) (ok : BlkOk X.N X.env.scope scope own) (ht : TgOk X tg scope tb is) (his : ∀ i ∈ is, i ∈ own.map (·.2)) (h : LcJ X G tg iter [] elt scope tb is (own.map (·.2)) sl st fun acc st' => Φ (.dat (.lst acc)) st')
    (hs : ∀ x, foldedSetIterable iter X.env x = pure x := by intro _; rfl) : EW X G (.ListComp elt [⟨tg, iter, [], 0⟩] scope pos) sl st Φ := fun A σ H H0 R Q k =>
  wpE_of (pe_lc hc hN pi_wp ok ht (fun _ _ _ _ _ => pts_nil) blkE_pe hs) (lc_run (.inl ⟨rfl, rfl⟩) his h R fun w st' v A' H' H0' ⟨acc, ew, q⟩ => by subst ew; exact k _ st' v A' H' H0' q)
theorem ew_lcif {own : List (Str × Nat)} {scope : Scope} {tb : Bool} {is : List Nat} (hc : X.calm = true) (hN : X.N.Nodup) (ok : BlkOk X.N X.env.scope scope own) (ht : TgOk X tg scope tb is) (his : ∀ i ∈ is, i ∈ own.map (·.2)) (h : LcJ X G tg iter [c] elt scope tb is (own.map (·.2)) sl st fun acc st' => Φ (.dat (.lst acc)) st')
    (hs : ∀ x, foldedSetIterable iter X.env x = pure x := by intro _; rfl) : EW X G (.ListComp elt [⟨tg, iter, [c], 0⟩] scope pos) sl st Φ := fun A σ H H0 R Q k =>
  wpE_of (pe_lc hc hN pi_wp ok ht (fun s H C cl fp => pts_one (blkT_pt s H C cl fp)) blkE_pe hs) (lc_run (.inr ⟨c, rfl, rfl⟩) his h R fun w st' v A' H' H0' ⟨acc, ew, q⟩ => by subst ew; exact k _ st' v A' H' H0' q)
variable {E : KE}
theorem sw_setLc (i : Nat) {y : Str} {py spos : Pos} {own : List (Str × Nat)} {scope : Scope} {tb : Bool} {is : List Nat} (hc : X.calm = true) (hN : X.N.Nodup) (hyl : X.env.scope.names.lookup y = some .local) (hsw : swapsWith (.ListComp elt [⟨tg, iter, [], 0⟩] scope pos) (some (.Name y py)) spos.line X.env = pure true)
    (ok : BlkOk X.N X.env.scope scope own) (ht : TgOk X tg scope tb is) (his : ∀ i ∈ is, i ∈ own.map (·.2)) (h : LcJ X G tg iter [] elt scope tb is (own.map (·.2)) sl st fun acc st' => E.nx (sl.set i (some (.dat (.lst acc)))) st') (hy : X.N[i]? = some y := by rfl)
    (hs : ∀ x, foldedSetIterable iter X.env x = pure x := by intro _; rfl) : SW1 X G (.Assign [.Name y py] (.ListComp elt [⟨tg, iter, [], 0⟩] scope pos) spos) sl st E := fun A σ H H0 R D k =>
  wpS_of (ps_setLc hc hN hy hyl hsw pi_wp ok ht (fun _ _ _ _ _ => pts_nil) blkE_pe hs) (lc_run (.inl ⟨rfl, rfl⟩) his h R fun w st' v A' H' H0' ⟨acc, ew, q⟩ R' x' s' r' => by subst ew; exact k.nx A' _ H' H0' _ st' q (R'.set r' i) x' s')
theorem sw_setLcif (i : Nat) {y : Str} {py spos : Pos} {own : List (Str × Nat)} {scope : Scope} {tb : Bool} {is : List Nat} (hc : X.calm = true) (hN : X.N.Nodup) (hyl : X.env.scope.names.lookup y = some .local) (hsw : swapsWith (.ListComp elt [⟨tg, iter, [c], 0⟩] scope pos) (some (.Name y py)) spos.line X.env = pure true)
    (ok : BlkOk X.N X.env.scope scope own) (ht : TgOk X tg scope tb is) (his : ∀ i ∈ is, i ∈ own.map (·.2)) (h : LcJ X G tg iter [c] elt scope tb is (own.map (·.2)) sl st fun acc st' => E.nx (sl.set i (some (.dat (.lst acc)))) st') (hy : X.N[i]? = some y := by rfl)
    (hs : ∀ x, foldedSetIterable iter X.env x = pure x := by intro _; rfl) : SW1 X G (.Assign [.Name y py] (.ListComp elt [⟨tg, iter, [c], 0⟩] scope pos) spos) sl st E := fun A σ H H0 R D k =>
  wpS_of (ps_setLc hc hN hy hyl hsw pi_wp ok ht (fun s H C cl fp => pts_one (blkT_pt s H C cl fp)) blkE_pe hs) (lc_run (.inr ⟨c, rfl, rfl⟩) his h R fun w st' v A' H' H0' ⟨acc, ew, q⟩ R' x' s' r' => by subst ew; exact k.nx A' _ H' H0' _ st' q (R'.set r' i) x' s')
end
end Dn
namespace Dn
open PySem PySem.Spec L2 StX ClX
open PyProof.Rows hiding St
section
variable {X : Cx} {G : Ent} {e a b c o tg iter elt : Expr} {es : List Expr} {sl : Sls} {st : List Ob} {Φ : WK} {Ψ : BK} {pos p np pos' : Pos} {E : KE} {Kx : XKS} {body suite : List Stmt} {b₀ : Stmt} {x n : Str} {cv : Value}
theorem RS.at_entry {K : PySem.W.Frag} {A : List Addr} {σ : St} {H H0 : Hp} (R : RS K G A σ H H0 sl st) : RS K ⟨H, H0, A⟩ A σ H H0 sl st := ⟨R.sl, R.hs, Fr.refl R.hs⟩
theorem RS.back {K : PySem.W.Frag} {A A' : List Addr} {σ σ' : St} {H H' H0 H0' : Hp} {sl sl' : Sls} {st st' : List Ob} (R : RS K G A σ H H0 sl st) (R' : RS K ⟨H, H0, A⟩ A' σ' H' H0' sl' st') : RS K G A' σ' H' H0' sl' st' :=
  ⟨R'.sl, R'.hs, (R.after R'.hs R'.fr).fr⟩
theorem EOk.back {K : PySem.W.Frag} {A : List Addr} {σ : St} {H H0 : Hp} {D : Ends} (R : RS K G A σ H H0 sl st) (k : EOk K G A H0 E D) : EOk K ⟨H, H0, A⟩ A H0 E D :=
  ⟨fun A1 σ1 H1 H01 sl1 st1 q R1 => k.nx A1 σ1 H1 H01 sl1 st1 q (R.back R1), fun A1 σ1 H1 H01 sl1 st1 w v q R1 => k.rt A1 σ1 H1 H01 sl1 st1 w v q (R.back R1),
    fun A1 σ1 H1 H01 sl1 st1 q R1 => k.bk A1 σ1 H1 H01 sl1 st1 q (R.back R1), fun A1 σ1 H1 H01 sl1 st1 q R1 => k.ct A1 σ1 H1 H01 sl1 st1 q (R.back R1)⟩
theorem rep_err {K : PySem.W.Frag} {H0 : Hp} {d : Option Addr} {vfs : List (Str × V)} {fs : List (Str × D)} {a : Addr} {cls : Value} (xd : XD H0 d vfs) (rf : RepF K H0 vfs fs) : Rep K H0 (.ref a) (.err a d cls fs) := by
  rcases xd with ⟨rfl, rfl⟩ | ⟨dx, rfl, h⟩
  · cases rf
    exact .err0
  · exact .err h rf
theorem sw_try_as (i : Nat) {KxB : XKS} (xk : XOk X G Kx) (hc : Names X x cv) (hb : ∀ (G' : Ent) (pn : List (Addr × Obj)) (xe : Value → Shared → Prop), XOk (X.tr pn xe) G' KxB → PassesOwn (model X.prog X.w) X.A X.env xe → SW (X.tr pn xe) G' body sl st E)
    (hh : ∀ cls fs sl' st', KxB cls fs sl' st' → ∃ b, PySem.W.exmOne X.K cls cv = some b ∧ (b = true → ∀ (G' : Ent) (ad : Addr) (oe : Obj) (d : Option Addr) (pn : List (Addr × Obj)), Zc cls d oe → (∃ vs, oe.data = .fields vs) →
      SW (X.suite ad ((ad, oe) :: pn)) G' (b₀ :: suite) (sl'.set i (some (.dat (.err ad d cls fs)))) st' { nx := fun sl st => E.nx (sl.set i none) st, rt := E.rt, bk := fun sl st => E.bk (sl.set i none) st, ct := fun sl st => E.ct (sl.set i none) st }) ∧ (b = false → Kx cls fs sl' st'))
    (hN : X.N.Nodup) (hi : X.N[i]? = some n := by rfl) (hln : X.env.kindOf n = some .local := by rfl) (hs : X.stack = X.env :: X.outer := by rfl) (hf : X.env.frame = some X.env.locals := by rfl) :
    SW1 X G (.Try body [.ExceptHandler (some (.Name x np)) (some n) (b₀ :: suite) pos'] [] [] pos) sl st E := fun A σ H H0 R D k => by
  obtain ⟨Wx, tk, hW⟩ := xk
  have k1 := k.back R
  refine wpS_of (ps_try_as (tb := fun W D σ H => ∀ pn xe, Takes (X.tr pn xe) W → PassesOwn (model X.prog X.w) X.A X.env xe → wpSs (X.tr pn xe) body D σ H) (ts := fun a cls d D σ H => ∀ oe pn, Zc cls d oe → (∃ vs, oe.data = .fields vs) → wpSs (X.suite a ((a, oe) :: pn)) (b₀ :: suite) D σ H)
    hs hf hN hi hln hc tk (fun W pn xe t hp => ⟨fun pins sh σ H D I q => q pn xe t hp pins sh I⟩) (fun a oe cls d pn hz hv => ⟨fun pins sh σ H D I q => q oe pn hz hv pins sh I⟩)) ?_
  intro pn xe t hp
  refine hb ⟨H, H0, A⟩ pn xe ⟨_, t, fun cls fs d vfs A1 σ1 H1 H01 sl1 st1 q R1 xd rf => ?_⟩ hp A σ H H0 R.at_entry D k1
  obtain ⟨b, he, hy, hn⟩ := hh cls fs sl1 st1 q
  have R2 : RS X.K G A1 σ1 H1 H01 sl1 st1 := R.back R1
  refine ⟨b, he, fun hb1 ad had oe pn' hz hv => ?_, fun hb0 => hW cls fs d vfs A1 σ1 H1 H01 sl1 st1 (hn hb0) R2 xd rf⟩
  have k2 : EOk X.K G A1 H01 E D := k.mv R1.fr.pre R1.fr.old
  have gone : ∀ {A : List Addr} {σ : St} {H H0 : Hp} {sl : Sls} {st : List Ob}, RS X.K G A σ H H0 sl st → RS X.K G A (σ.set i none) H H0 (sl.set i none) st := fun {A σ H H0 sl st} R => ⟨R.sl.weak i none, R.hs, R.fr⟩
  exact hy hb1 G ad oe d pn' hz hv A1 _ H1 H01 (R2.set (show RepW X.K A1 H01 (.ref ad) (.dat (.err ad d cls fs)) from rep_err xd rf) i) _
    ⟨fun A4 σ4 H4 H04 sl4 st4 q4 R4 => k2.nx A4 _ H4 H04 _ st4 q4 (gone R4), fun A4 σ4 H4 H04 sl4 st4 w v q4 R4 => k2.rt A4 _ H4 H04 sl4 st4 w v q4 R4, fun A4 σ4 H4 H04 sl4 st4 q4 R4 => k2.bk A4 _ H4 H04 _ st4 q4 (gone R4), fun A4 σ4 H4 H04 sl4 st4 q4 R4 => k2.ct A4 _ H4 H04 _ st4 q4 (gone R4)⟩
def MkErr (X : Cx) (x f : Str) (C : Addr) : Prop := ∀ (a : Expr) (ta : TA) (p pos : Pos) (k : Nat), RoomG k X.A → PA X [a] ta → Gl X x → starEach (a :: []) X.env = (false, eval a X.env) :: starEach [] X.env → (backTo pos (starEach [] X.env)).any (·.1) = false →
  PMk X (.Call (.Name x p) [a] [] pos) (fun σ H Q => ta σ H fun vs H1 => ∃ v, vs = [v] ∧ ∀ d, H1 d = none → Q (.ref C) (some d) (upd H1 d (.xd [(f, v)])))
theorem sw_raise1 {f : Str} {C : Addr} {k : Nat} {pos2 : Pos} (T : MkErr X x f C) (hr : RoomG k X.A) (xk : XOk X G Kx) (h : EW X G a sl st fun w st1 => ∃ d, w = .dat d ∧ Kx (.ref C) [(f, d)] sl st1) (hc : X.calm = true := by rfl) (hg : Gl X x := by rfl)
    (he : starEach (a :: []) X.env = (false, eval a X.env) :: starEach [] X.env := by rfl) (hpl : (backTo pos (starEach [] X.env)).any (·.1) = false := by rfl) (hst : starEach (a :: []) X.env = (false, eval a X.env) :: starEach [] X.env := by rfl) : SW1 X G (.Raise (some (.Call (.Name x p) [a] [] pos)) none pos2) sl st E := fun A σ H H0 R D kk => by
  obtain ⟨Wx, tk, hW⟩ := xk
  refine wpS_of (ps_raise hc tk (T a _ p pos k hr (pa_cons pe_wp pa_nil hst) hg he hpl)) ?_
  refine h A σ H H0 R _ fun w st1 v A1 H1 H01 ⟨d, ew, q⟩ R1 x1 s1 r1 => ?_
  subst ew
  refine ⟨v, rfl, fun dd hd => ?_⟩
  have s0 := same_upd (o := .xd [(f, v)]) (R1.hs.free0 hd)
  exact hW _ _ _ _ A1 σ _ _ sl st1 q (R1.alloc hd) (.inr ⟨dd, rfl, upd_same⟩) (.cons (Rep.mono r1 s0) .nil)
def FldErr (X : Cx) (f : Str) (C : Addr) : Prop := ∀ (ad dx : Addr) (oe : Obj) (pn : List (Addr × Obj)) (e : Expr) (te : TE) (pos : Pos), Zc (.ref C) (some dx) oe → (∃ vs, oe.data = .fields vs) → PE (X.suite ad ((ad, oe) :: pn)) e te → attributeBase e f X.env (eval e X.env) = eval e X.env →
  PE (X.suite ad ((ad, oe) :: pn)) (.Attribute e f pos) (fun σ H Q => te σ H fun x H1 => x = .ref ad ∧ (Value.ref C = Value.ref C) ∧ ∃ (dd : Addr) (v : V), (some dx = some dd) ∧ H1 dd = some (.xd [(f, v)]) ∧ Q v H1)
theorem ew_errfld {f : Str} {C ad dx : Addr} {oe : Obj} {pn : List (Addr × Obj)} {d : D} (T : FldErr X f C) (hz : Zc (.ref C) (some dx) oe) (hv : ∃ vs, oe.data = .fields vs)
    (h : EW (X.suite ad ((ad, oe) :: pn)) G e sl st fun w st1 => w = .dat (.err ad (some dx) (.ref C) [(f, d)]) ∧ Φ (.dat d) st1) (hb : attributeBase e f X.env (eval e X.env) = eval e X.env := by rfl) : EW (X.suite ad ((ad, oe) :: pn)) G (.Attribute e f pos) sl st Φ := fun A σ H H0 R Q k => by
  refine wpE_of (T ad dx oe pn e _ pos hz hv pe_wp hb) (h A σ H H0 R _ fun w st1 v A1 H1 H01 ⟨ew, q⟩ R1 x1 s1 r1 => ?_)
  subst ew
  cases r1 with
  | err hx rf =>
    cases rf with
    | cons r0 rn =>
      cases rn
      exact ⟨rfl, rfl, dx, _, rfl, R1.hs.le _ _ hx, k _ st1 _ A1 H1 H01 q R1 x1 s1 r0⟩
end
end Dn
namespace Dn
open PySem PySem.Spec L2 StX ClX
open PyProof.Rows hiding St
def ixOf : List Str → Str → Nat
  | [], _ => 0
  | y :: r, x => if y = x then 0 else ixOf r x + 1
section
variable {X : Cx} {G : Ent} {e a b c o : Expr} {es : List Expr} {sl : Sls} {st : List Ob} {Φ : WK} {Ψ : BK} {pos p : Pos} {E : KE}
theorem ew_nm {x : Str} {w : W} (hi : sl[ixOf X.N x]? = some (some w)) (h : Φ w st) (hN : X.N[ixOf X.N x]? = some x := by rfl) (hv : Vis X.env.scope x := by first | exact Or.inl rfl | exact Or.inr (Or.inl rfl) | exact Or.inr (Or.inr rfl))
    (hd : (x == ("__debug__" : Str)) = false := by decide) (hcd : (x == ("__classdict__" : Str)) = false := by decide) : EW X G (.Name x pos) sl st Φ := ew_name _ hi h hN hv hd hcd
theorem ifB {b : Bool} {A B : Prop} (h1 : b = true → A) (h2 : b = false → B) : if b = true then A else B := by
  cases b with
  | true => rw [if_pos rfl]; exact h1 rfl
  | false => rw [if_neg Bool.false_ne_true]; exact h2 rfl
theorem ifD {P : Prop} [Decidable P] {A B : Prop} (h1 : P → A) (h2 : ¬ P → B) : if decide P = true then A else B := ifB (fun h => h1 (of_decide_eq_true h)) (fun h => h2 (of_decide_eq_false h))
theorem ifN {b : Bool} {A B : Prop} (h1 : b = false → A) (h2 : b = true → B) : if (!b) = true then A else B := by
  cases b with
  | false => rw [show (!false) = true from rfl, if_pos rfl]; exact h1 rfl
  | true => rw [show (!true) = false from rfl, if_neg Bool.false_ne_true]; exact h2 rfl
theorem ifN' {P : Prop} [Decidable P] {A B : Prop} (h1 : ¬ P → A) (h2 : P → B) : if (!decide P) = true then A else B := ifN (fun h => h1 (of_decide_eq_false h)) (fun h => h2 (of_decide_eq_true h))
theorem ifT {b : Bool} {A B : Prop} (hb : b = true) (h : A) : if b = true then A else B := by rw [if_pos hb]; exact h
theorem ifF {b : Bool} {A B : Prop} (hb : b = false) (h : B) : if b = true then A else B := by rw [hb, if_neg Bool.false_ne_true]; exact h
end
end Dn
namespace Dn
open PySem
theorem bt_isinstance : bootBuiltins "isinstance" = some (.builtin "isinstance") := by rfl
theorem bt_len : bootBuiltins "len" = some (.builtin "len") := by rfl
theorem bt_all : bootBuiltins "all" = some (.builtin "all") := by rfl
theorem bt_any : bootBuiltins "any" = some (.builtin "any") := by rfl
theorem bt_abs : bootBuiltins "abs" = some (.builtin "abs") := by rfl
theorem bt_min : bootBuiltins "min" = some (.builtin "min") := by rfl
theorem bt_max : bootBuiltins "max" = some (.builtin "max") := by rfl
theorem bt_int : bootBuiltins "int" = some (.type "int") := by rfl
theorem bt_bool : bootBuiltins "bool" = some (.type "bool") := by rfl
theorem bt_str : bootBuiltins "str" = some (.type "str") := by rfl
theorem bt_list : bootBuiltins "list" = some (.type "list") := by rfl
theorem bt_tuple : bootBuiltins "tuple" = some (.type "tuple") := by rfl
end Dn
namespace Dn
open PySem PySem.Spec L2 StX ClX
def tyOf : D → Option String
  | .non => some "NoneType" | .bl _ => some "bool" | .int _ => some "int" | .str _ => some "str" | .lst _ => some "list" | .tup _ => some "tuple"
  | _ => none
theorem tyD_of {K : PySem.W.Frag} {d : D} {t : String} (h : tyOf d = some t) : TyD K d (.type t) := by
  cases d <;> simp [tyOf] at h <;> subst h <;> constructor
def tys : List String := ["NoneType", "bool", "int", "str", "list", "tuple"]
theorem tyOf_mem {d : D} {t : String} (h : tyOf d = some t) : t ∈ tys := by
  cases d <;> simp [tyOf] at h <;> subst h <;> decide
def isA (a b : String) : Bool := a == b || (a == "bool" && b == "int")
theorem kit_isA : ∀ a ∈ tys, ∀ b ∈ tys, kitB a b = some (isA a b) := by decide +kernel
section
variable {X : Cx} {G : Ent} {sl : Sls} {st : List Ob} {Φ : WK}
theorem c_is1 {d : D} {t b : String} (ht : tyOf d = some t) (hb : b ∈ tys) (h : Φ (.dat (.bl (isA t b))) st) : CW X G (.builtin "isinstance") sl st [.dat d, .dat (.ty b)] Φ :=
  c_isi (tyD_of ht) (.ty b) (kit_ty (kit_isA t (tyOf_mem ht) b hb)) h
theorem c_is2 {d : D} {t b c : String} (ht : tyOf d = some t) (hb : b ∈ tys) (hc : c ∈ tys) (h : Φ (.dat (.bl (isA t b || isA t c))) st) : CW X G (.builtin "isinstance") sl st [.dat d, .dat (.tup [.ty b, .ty c])] Φ :=
  c_isiT (by simp) (tyD_of ht) (.cons (.ty b) (.cons (.ty c) .nil)) (kitAny_cons (kit_ty (kit_isA t (tyOf_mem ht) b hb)) (fun h1 => by
    rw [h1, Bool.false_or]
    refine kitAny_cons (kit_ty (kit_isA t (tyOf_mem ht) c hc)) (fun h2 => by rw [h2]; exact kitAny_nil) (fun h2 => h2)) (fun h1 => by rw [h1]; rfl)) h
end
end Dn
namespace Dn
open PySem PySem.Spec L2 StX ClX
open PyProof.Rows hiding St
mutual
def toPy : D → Option PyData
  | .non => some .none
  | .bl b => some (.bool b)
  | .int i => some (.int i)
  | .str x => some (.str x)
  | .lst xs => (toPys xs).map .list
  | .tup xs => (toPys xs).map .tuple
  | _ => none
def toPys : List D → Option (List PyData)
  | [] => some []
  | x :: xs => match toPy x with
    | none => none
    | some p => (toPys xs).map (p :: ·)
end
mutual
theorem toPy_dp {K : PySem.W.Frag} {H : Hp} : ∀ (d : D) (v : V) (p : PyData), Rep K H v d → toPy d = some p → Dp K H v p
  | .non, _, _, r, h => by cases r; simp only [toPy, Option.some.injEq] at h; subst h; exact .non
  | .bl b, _, _, r, h => by cases r; simp only [toPy, Option.some.injEq] at h; subst h; exact .bl b
  | .int b, _, _, r, h => by cases r; simp only [toPy, Option.some.injEq] at h; subst h; exact .int b
  | .str b, _, _, r, h => by cases r; simp only [toPy, Option.some.injEq] at h; subst h; exact .str b
  | .lst xs, _, _, r, h => by
    cases r with
    | lst e rr =>
      simp only [toPy] at h
      obtain ⟨ps, h1, h2⟩ := Option.map_eq_some_iff.mp h
      subst h2
      exact .lst (.inl (.inl e)) (toPys_dp xs _ ps rr h1)
  | .tup xs, _, _, r, h => by
    cases r with
    | tup e rr =>
      simp only [toPy] at h
      obtain ⟨ps, h1, h2⟩ := Option.map_eq_some_iff.mp h
      subst h2
      exact .tup (.inl (.inl e)) (toPys_dp xs _ ps rr h1)
    | tupK l c d =>
      simp only [toPy] at h
      obtain ⟨ps, h1, h2⟩ := Option.map_eq_some_iff.mp h
      subst h2
      simp only [toPys, Option.some.injEq] at h1
      subst h1
      exact .tup (sqT_K l c d) .nil
  | .ins _ _, _, _, _, h => by simp [toPy] at h
  | .scr _, _, _, _, h => by simp [toPy] at h
  | .adr _, _, _, _, h => by simp [toPy] at h
  | .ty _, _, _, _, h => by simp [toPy] at h
  | .err _ _ _ _, _, _, _, h => by simp [toPy] at h
theorem toPys_dp {K : PySem.W.Frag} {H : Hp} : ∀ (ds : List D) (vs : List V) (ps : List PyData), Reps K H vs ds → toPys ds = some ps → DpAll K H vs ps
  | [], _, _, r, h => by cases r; simp only [toPys, Option.some.injEq] at h; subst h; exact .nil
  | d :: ds, _, _, r, h => by
    cases r with
    | cons r rr =>
      simp only [toPys] at h
      cases e : toPy d with
      | none => rw [e] at h; cases h
      | some p =>
        rw [e] at h
        obtain ⟨ps, h1, h2⟩ := Option.map_eq_some_iff.mp h
        subst h2
        exact .cons (toPy_dp d _ p r e) (toPys_dp ds _ ps rr h1)
end
theorem dp_mono {K : PySem.W.Frag} {H H' : Hp} {v : V} {p : PyData} (h : Dp K H v p) (s : Same H H') : Dp K H' v p :=
  Dp.rec (motive_1 := fun v p _ => Dp K H' v p) (motive_2 := fun vs ps _ => DpAll K H' vs ps) .non .bl .int .str (fun h _ r => .lst (s.seq h) r)
    (fun h _ r => .tup (by
      rcases h with (h | ⟨o, h⟩) | h
      · exact .inl (.inl (s _ _ h))
      · exact .inl (.inr ⟨o, s _ _ h⟩)
      · exact .inr h) r) .nil (fun _ _ a b => .cons a b) h
section
variable {X : Cx} {G : Ent} {e a b c o : Expr} {es : List Expr} {sl : Sls} {st : List Ob} {Φ : WK} {Ψ : BK} {pos p : Pos} {E : KE} {j : Nat}
theorem o_eqD {d1 d2 : D} {p1 p2 : PyData} (hr : RoomG j X.A) (h1 : toPy d1 = some p1) (h2 : toPy d2 = some p2) (s1 : SeqAt.shaped p1 = true) (s2 : SeqAt.shaped p2 = true) (h : Φ (.dat (.bl (PyData.eqv p1 p2))) st) : OW X G (compareOp .Eq) sl st (.dat d1) (.dat d2) Φ := ow_of (op_eqD hr.units) fun A σ H H0 R v1 v2 r1 r2 Q k =>
  ⟨p1, p2, dp_mono (toPy_dp d1 v1 p1 r1 h1) R.hs.le, dp_mono (toPy_dp d2 v2 p2 r2 h2) R.hs.le, s1, s2, k _ st _ A H H0 h R (Ext.refl _) (Same.refl _) (.bl _)⟩
theorem o_neD {d1 d2 : D} {p1 p2 : PyData} (hr : RoomG j X.A) (h1 : toPy d1 = some p1) (h2 : toPy d2 = some p2) (s1 : SeqAt.shaped p1 = true) (s2 : SeqAt.shaped p2 = true) (h : Φ (.dat (.bl (!PyData.eqv p1 p2))) st) : OW X G (compareOp .NotEq) sl st (.dat d1) (.dat d2) Φ := ow_of (op_neD hr.units) fun A σ H H0 R v1 v2 r1 r2 Q k =>
  ⟨p1, p2, dp_mono (toPy_dp d1 v1 p1 r1 h1) R.hs.le, dp_mono (toPy_dp d2 v2 p2 r2 h2) R.hs.le, s1, s2, k _ st _ A H H0 h R (Ext.refl _) (Same.refl _) (.bl _)⟩
theorem o_eqI {i k : Int} (h : Φ (.dat (.bl (decide (i = k)))) st) : OW X G (compareOp .Eq) sl st (.dat (.int i)) (.dat (.int k)) Φ := o_eq rfl rfl rfl (by
  have : decide (V.int i = V.int k) = decide (i = k) := by simp
  rw [this]; exact h)
theorem o_neI {i k : Int} (h : Φ (.dat (.bl (!decide (i = k)))) st) : OW X G (compareOp .NotEq) sl st (.dat (.int i)) (.dat (.int k)) Φ := o_ne rfl rfl rfl (by
  have : decide (V.int i = V.int k) = decide (i = k) := by simp
  rw [this]; exact h)
theorem o_eqS {i k : Str} (h : Φ (.dat (.bl (decide (i = k)))) st) : OW X G (compareOp .Eq) sl st (.dat (.str i)) (.dat (.str k)) Φ := o_eq rfl rfl rfl (by
  have : decide (V.str i = V.str k) = decide (i = k) := by simp
  rw [this]; exact h)
theorem o_neS {i k : Str} (h : Φ (.dat (.bl (!decide (i = k)))) st) : OW X G (compareOp .NotEq) sl st (.dat (.str i)) (.dat (.str k)) Φ := o_ne rfl rfl rfl (by
  have : decide (V.str i = V.str k) = decide (i = k) := by simp
  rw [this]; exact h)
theorem o_eqB {i k : Bool} (h : Φ (.dat (.bl (decide (i = k)))) st) : OW X G (compareOp .Eq) sl st (.dat (.bl i)) (.dat (.bl k)) Φ := o_eq rfl rfl rfl (by
  have : decide (V.bl i = V.bl k) = decide (i = k) := by simp
  rw [this]; exact h)
end
theorem clos_nil : Clos [] := fun o ho => by simp at ho
theorem CloW.mono {n m : Nat} {w : W} (h : CloW n w) (hm : n ≤ m) : CloW m w := by
  cases w with
  | dat d => trivial
  | ptr j => exact Nat.lt_of_lt_of_le h hm
theorem Clo.mono {n m : Nat} {o : Ob} (h : Clo n o) (hm : n ≤ m) : Clo m o := by
  cases o with
  | gone => trivial
  | lst ws => exact fun w hw => (h w hw).mono hm
  | ins C fs => exact fun w hw => (h w hw).mono hm
  | dct kvs => exact fun w hw => (h w hw).mono hm
  | dtt kvs => exact fun w hw => (h w hw).mono hm
theorem clos_add {st : List Ob} {o : Ob} (h : Clos st) (ho : Clo (st.length + 1) o) : Clos (st ++ [o]) := fun u hu => by
  rw [List.length_append]
  rcases List.mem_append.mp hu with z | z
  · exact (h u z).mono (Nat.le_add_right _ _)
  · simp at z
    subst z
    exact ho
theorem clos_set {st : List Ob} {o : Ob} {j : Nat} (h : Clos st) (ho : Clo st.length o) : Clos (st.set j o) := fun u hu => by
  rw [List.length_set]
  rcases List.mem_or_eq_of_mem_set hu with z | z
  · exact h u z
  · subst z
    exact ho
section
variable {X : Cx} {G : Ent} {e : Expr} {sl : Sls} {st : List Ob} {Φ : WK} {Ψ : BK}
theorem tw_mid (b : Bool) (h : TW X G e sl st fun k st' => k = b ∧ st' = st) (q : Ψ b st) : TW X G e sl st Ψ := h.imp fun k st' ⟨e1, e2⟩ => by rw [e1, e2]; exact q
theorem ew_mid (w : W) (h : EW X G e sl st fun w' st' => w' = w ∧ st' = st) (q : Φ w st) : EW X G e sl st Φ := h.imp fun k st' ⟨e1, e2⟩ => by rw [e1, e2]; exact q
end
end Dn
namespace Dn
open PySem PySem.Spec L2 StX ClX
open PyProof.Rows hiding St
open AutoSeq1 (wpAny_loadPart')
theorem enumT_new (l : Addr) (items : Array Value) (n : Nat) (dct : Option Addr) (sl : Array (Option Value)) :
    Meets (Builtin.«enumerate.__new__» ⟨[.type "enumerate", .ref l], []⟩) (fun _ R s => s.heap.get? l = some { cls := .type "tuple", dict := dct, data := .seq items n, slots := sl } ∧
      R (.ok (.ret (.ref (s.heap.push { cls := .type "tuple_iterator", data := .fields #[.ref l, .int 0 0] }).objs.size)))
        { s with heap := (s.heap.push { cls := .type "tuple_iterator", data := .fields #[.ref l, .int 0 0] }).push { cls := .type "enumerate", data := .fields #[.none, .bool false, .ref s.heap.objs.size, rawInt 0, .none, .none] } }) :=
  .of_wp fun prog w A R s h => by
    obtain ⟨hp, g, d, tk, os⟩ := s; obtain ⟨hl, h⟩ := h
    have hsub := sub_enumerate
    have hL : Heap.IsTuple (Shared.heap ⟨hp, g, d, tk, os⟩) l items := ⟨_, hl, rfl, n, rfl⟩
    wp_walk using wpAny_loadPart' hl
    refine wpAny_stack_any fun st => wpAny_pure ?_
    split
    · rename_i c _ _ _ _ _
      cases (c == Value.type "enumerate")
      · wp_walk using wpAny_loadPart' hl, wpAny_pyIter_tuple hL
        exact ⟨_, rfl, h⟩
      · wp_walk using wpAny_loadPart' hl, wpAny_pyIter_tuple hL
        exact ⟨_, rfl, h⟩
    · wp_walk using wpAny_loadPart' hl, wpAny_pyIter_tuple hL
      exact ⟨_, rfl, h⟩
theorem call_enumT {prog : Program} {w : World} {A : Around} {E : Value → Shared → Prop} {s : Shared} {l : Addr} {items : Array Value} {Q : Value → Shared → Prop} (hL : s.heap.IsTuple l items)
    (h : ∀ h', IsEnum h' (s.heap.objs.size + 1) s.heap.objs.size 0 .none → h'.IsTupleIter s.heap.objs.size l 0 → h'.objs.size = s.heap.objs.size + 2 →
      (∀ b o, s.heap.get? b = some o → h'.get? b = some o) → Q (.ref (s.heap.objs.size + 1)) { s with heap := h' }) :
    wpAny (model prog w) A (call (.type "enumerate") [.ref l]) Q E s := by
  obtain ⟨⟨c, dct, dt, sl⟩, hl, hc, n, hd⟩ := hL
  replace hc : c = .type "tuple" := hc
  replace hd : dt = .seq items n := hd
  subst hc hd
  refine callType_new F.called_enumerate (by decide) (F.typeCall_enumerate_1 _) (F.newCall_enumerate_1 _) (fun obj => F.args_object_init_2 obj _) F.entry_enumerate_new
    (enumT_new l items n dct sl) ⟨hl, ?_⟩
  have hz : (s.heap.push { cls := .type "tuple_iterator", data := .fields #[.ref l, .int 0 0] }).objs.size = s.heap.objs.size + 1 := Heap.size_push ..
  show _ ∧ _
  rw [hz]
  have he : IsEnum ((s.heap.push { cls := .type "tuple_iterator", data := .fields #[.ref l, .int 0 0] }).push
      { cls := .type "enumerate", data := .fields #[.none, .bool false, .ref s.heap.objs.size, rawInt 0, .none, .none] }) (s.heap.objs.size + 1) s.heap.objs.size 0 .none := by
    have := Heap.get?_push_size (s.heap.push { cls := .type "tuple_iterator", data := .fields #[.ref l, .int 0 0] })
      (o := { cls := .type "enumerate", data := .fields #[.none, .bool false, .ref s.heap.objs.size, rawInt 0, .none, .none] }) rfl
    rw [hz] at this; exact this
  refine ⟨⟨_, he, rfl⟩, h _ he ⟨_, Heap.get?_push_of_some _ (Heap.get?_push_size _ rfl), rfl, rfl⟩ (by rw [Heap.size_push, hz]) fun b o x => Heap.get?_push_of_some _ (Heap.get?_push_of_some _ x)⟩
def IteT (K : PySem.W.Frag) (a : Addr) : It :=
  ⟨fun i H => ∃ (xs : List V) (x : V), SqT K H a xs ∧ xs[i]? = some x, fun i H v H' => ∃ T x, v = .ref T ∧ H T = none ∧ H' = upd H T (.tup [.int (i : Nat), x]) ∧ ∀ xs, SqT K H a xs → xs[i]? = some x, fun i H => ∃ xs : List V, SqT K H a xs ∧ xs.length = i⟩
theorem turn_enumT {P : Program} {w : World} {K : PySem.W.Frag} {elts : List Expr} {kk : Nat} {tpos : Pos} (a e it : Addr) (hai : a ≠ it) (hae : e ≠ a) :
    Turn P w K (.Tuple elts kk tpos) (IteT K a) [e, it] e (fun i h => (∃ old, IsEnum h e it ((i : Nat) : Int) old) ∧ h.IsTupleIter it a i ∧ e ≠ it) where
  mem := by simp
  obj := fun i h st b hb => by
    obtain ⟨⟨old, he⟩, ⟨o, ho, hc, hd⟩, _⟩ := st
    have e' : b = e ∨ b = it := by simpa using hb
    rcases e' with z | z
    · rw [z]; exact ⟨_, he, fun v q => nomatch q⟩
    · rw [z]; exact ⟨o, ho, fun v q => by rw [hd] at q; cases q⟩
  keep := fun i h h' st k => let ⟨⟨old, he⟩, hi, hne⟩ := st; ⟨⟨old, k e (by simp) _ he⟩, hi.at fun o q => k it (by simp) o q, hne⟩
  item := by
    intro X hP hw hK hc i pins s σ H E I hf st hg
    subst hP hw hK
    obtain ⟨⟨old, he⟩, hit, hne⟩ := st
    obtain ⟨xs, x, hq, hx⟩ := hg
    obtain ⟨its, rv, p, hz⟩ := I.tuple hq
    obtain ⟨u, hu, ru⟩ := rv.get hx
    have hel : e < s.heap.objs.size := Heap.lt_size he
    have hil : it < s.heap.objs.size := by obtain ⟨_, q, _⟩ := hit; exact Heap.lt_size q
    have pt : s.heap.IsTuple a its.toArray := p
    have hlt : i < its.toArray.size := by
      have := (List.getElem?_eq_some_iff.mp hu).1
      simpa using this
    refine wpAny_pyNext_enum_itemD (Draws.tuple (A := X.A.in1) (I.ok.hd hc) it a hai its.toArray) he ⟨hit, pt⟩ hlt hne (by simp [hne, hae]) fun x' h' tk hPx ho hst' hT hsz hk => ?_
    have hxu : x' = u := by
      have h1 : its.toArray[i]? = some x' := hPx
      have h2 : its[i]? = some x' := by simpa using h1
      rw [hu] at h2
      exact (Option.some.inj h2).symm
    subst hxu
    obtain ⟨hit', _⟩ := hst'
    refine ⟨_, rfl, wpAny_letOwnedTupleGo_enum (s := { s with heap := h', toks := tk + 1 }) ho fun h'' he' sb => ?_⟩
    have hT2 : h''.get? s.heap.objs.size = some { cls := .type "tuple", data := .seq #[.int i tk, x'] } := (sb.2 _ (Nat.ne_of_gt hel)).trans hT
    have new : ObjOk X.prog X.w (upd H s.heap.objs.size (.tup [.int (i : Nat), x])) h'' s.heap.objs.size (.tup [.int (i : Nat), x]) :=
      ⟨by show 2 ≤ sizeLine; decide, [.int i tk, x'], .cons ⟨_, rfl⟩ (.cons ru .nil), ⟨_, hT2, rfl, _, rfl⟩⟩
    have I1 : Inv X pins σ (upd H s.heap.objs.size (.tup [.int (i : Nat), x])) { s with heap := h'', toks := tk + 1 } :=
      I.turnedNew (ch := [e, it]) (fun b ob hb q => (sb.2 b (fun z => hb (by simp [z]))).trans (hk b ob (fun z => hb (by simp [z])) (fun z => hb (by simp [z])) q)) hf (Nat.le_refl _) new
    refine ⟨.ref s.heap.objs.size, _, I1, rfl, ⟨_, x, rfl, I.hok.fresh (Nat.le_refl _), rfl, fun ys hy => by rw [I.tuple_inj hy hq]; exact hx⟩, ⟨⟨x', ?_⟩, hit'.at fun o q => (sb.2 it (Ne.symm hne)).trans q, hne⟩, fun b hb => ?_⟩
    · have e1 : ((i + 1 : Nat) : Int) = (i : Int) + 1 := by omega
      rw [e1]; exact he'
    · have hb' : b < s.heap.objs.size := by
        have e' : b = e ∨ b = it := by simpa using hb
        rcases e' with z | z
        · rw [z]; exact hel
        · rw [z]; exact hil
      rw [upd_ne (Nat.ne_of_lt hb')]
      exact (hf b hb).1
  done := by
    intro X hP hw hK hc i pins s σ H E I hf st hg
    subst hP hw hK
    obtain ⟨⟨old, he⟩, hit, hne⟩ := st
    obtain ⟨xs, hq, hx⟩ := hg
    obtain ⟨its, rv, p, hz⟩ := I.tuple hq
    obtain ⟨f0, f1, f2, f3, f4, f5⟩ := hf it (by simp)
    have hl := rv.length
    have pt : s.heap.IsTuple a its.toArray := p
    have hsz : its.toArray.size = i := by rw [List.size_toArray, ← hl]; exact hx
    have Dt := Draws.tuple (prog := X.prog) (w := X.w) (A := X.A.in1) (I.ok.hd hc) it a hai its.toArray
    rw [hsz] at Dt
    refine wpAny_pyNext_enum_endD Dt he (show s.heap.IsTupleIter it a i ∧ s.heap.IsTuple a its.toArray from ⟨hit, pt⟩) fun h' eb => ⟨rfl, I.turned (t' := s.toks) (fun b o hb q => eb b o hb q) f0 f1 f3 f4 f5⟩
  self := fun A i s Q E st h => let ⟨⟨_, he⟩, _⟩ := st; wpAny_pyIter_enum he h
def iEnumT (K : PySem.W.Frag) (ta : TA) : TI := fun σ H R => ta σ H fun vs H1 => ∃ a xs, vs = [.ref a] ∧ SqT K H1 a xs ∧ R (IteT K a) H1
theorem pi_enumT {X : Cx} {e : Expr} {ta : TA} {p pos tpos : Pos} {elts : List Expr} {kk : Nat} (hg : Gl X "enumerate") (hm : X.mg "enumerate" = none) (ha : PA X [e] ta) (hs : starEach [e] X.env = [(false, eval e X.env)] := by rfl) :
    PI X (.Tuple elts kk tpos) (.Call (.Name "enumerate" p) [e] [] pos) (iEnumT X.K ta) := by
  refine ⟨fun pins s σ H R I h => ?_⟩
  refine Call_ (ld_blt I hg hm boot_enumerate (PyProof.Rows.callWith_type1 (thn (ha.run pos pins s σ H _ I h) fun us s1 ⟨vs, H1, I1, r1, q1⟩ => ?_) hs rfl))
  obtain ⟨a, xs, ex, hq, q⟩ := q1
  subst ex
  cases r1 with
  | cons r rr =>
    cases rr
    cases r
    obtain ⟨its, rv, p', hz⟩ := I1.tuple hq
    have pt : s1.heap.IsTuple a its.toArray := p'
    have hal : a < s1.heap.objs.size := by obtain ⟨o, e1, _⟩ := pt; exact Heap.lt_size e1
    refine call_enumT pt fun h' he hit hsz hk => wpAny_pyIter_enum he ?_
    have I2 : Inv X pins σ H1 { s1 with heap := h' } := I1.kept (t' := s1.toks) hk
    refine ⟨s1.heap.objs.size + 1, [s1.heap.objs.size + 1, s1.heap.objs.size], _, _, H1, rfl, I2, turn_enumT a (s1.heap.objs.size + 1) s1.heap.objs.size (Nat.ne_of_lt hal) (Nat.ne_of_gt (Nat.lt_succ_of_lt hal)), ⟨⟨.none, he⟩, hit, Nat.succ_ne_self _⟩, fun b hb => ?_, q⟩
    have e' : b = s1.heap.objs.size + 1 ∨ b = s1.heap.objs.size := by simpa using hb
    have hle : s1.heap.objs.size ≤ b := by
      rcases e' with z | z
      · rw [z]; exact Nat.le_add_right _ _
      · rw [z]; exact Nat.le_refl _
    exact I1.fpOk hle (I1.hok.fresh hle)
theorem items_enumT {K : PySem.W.Frag} {a : Addr} {vs : List V} {xs : List D} {A1 : List Addr} {H01 : Hp} (he : H01 a = some (.tup vs)) (rr : Reps K H01 vs xs) : Items K (IteT K a) (enm xs) A1 H01 := fun i G' A' σ' H' H0' sl' st' R x s => by
  have hs : SqT K H' a vs := .inl (.inl (R.hs.le _ _ (s _ _ he)))
  have hl := rr.length
  rw [enm_length]
  refine ⟨fun hi => ⟨⟨vs, vs[i]'(by omega), hs, List.getElem?_eq_getElem _⟩, fun v H'' y => ?_⟩, fun hi => ⟨vs, hs, by omega⟩⟩
  obtain ⟨T, x, ev, hT, eH, y⟩ := y
  subst ev eH
  obtain ⟨d, hd, rd⟩ := rr.get' (y vs hs)
  have s0 := same_upd (o := .tup [V.int ((i : Nat) : Int), x]) (R.hs.free0 hT)
  exact ⟨_, _, enm_get hd, R.alloc hT, s0, same_upd hT, .tup upd_same (.cons (.int _) (.cons ((rd.mono s).mono s0) .nil))⟩
theorem items_enumTK {K : PySem.W.Frag} {a : Addr} {o : Obj} {n : Nat} {A1 : List Addr} {H01 : Hp} (l : K.lookup a = some o) (c : o.cls = .type "tuple") (d : o.data = .seq #[] n) : Items K (IteT K a) (enm []) A1 H01 := fun i G' A' σ' H' H0' sl' st' R x s =>
  ⟨fun hi => absurd hi (Nat.not_lt_zero _), fun hi => ⟨[], sqT_K l c d, hi.symm⟩⟩
theorem iw_enumT {X : Cx} {G : Ent} {e : Expr} {sl : Sls} {st : List Ob} {Θ : IK} {p pos : Pos} {elts : List Expr} {kk : Nat} {tpos : Pos} (hm : X.mg "enumerate" = none) (h : AW X G [e] sl st fun ws st1 => ∃ xs, ws = [.dat (.tup xs)] ∧ Θ (enm xs) st1) (hg : Gl X "enumerate" := by rfl) (hs : starEach [e] X.env = [(false, eval e X.env)] := by rfl) :
    IWJ X G (.Tuple elts kk tpos) (.Call (.Name "enumerate" p) [e] [] pos) sl st Θ := fun A σ H H0 R Rr k =>
  wpI_of (pi_enumT hg hm pa_wp hs) (h A σ H H0 R _ fun ws st1 vs A1 H1 H01 ⟨xs, ew, q⟩ R1 x1 s1 r1 => by
    subst ew
    obtain ⟨v, rfl, r⟩ := rep1 r1
    cases r with
    | tup e rr => exact ⟨_, _, rfl, .inl (.inl (R1.hs.le _ _ e)), k _ _ st1 A1 H1 H01 q R1 x1 s1 (items_enumT e rr)⟩
    | tupK l c d => exact ⟨_, _, rfl, sqT_K l c d, k _ _ st1 A1 H1 H01 q R1 x1 s1 (items_enumTK l c d)⟩)
end Dn
namespace Dn
open PySem PySem.Spec L2 StX ClX
open PyProof.Rows hiding St
section
variable {X : Cx} {G : Ent} {e a b c o tg iter elt : Expr} {es : List Expr} {sl : Sls} {st : List Ob} {Φ : WK} {Ψ : BK} {pos p : Pos} {scope : Scope} {tb : Bool} {is vs : List Nat} {fin : List D → List Ob → Prop}
theorem lcj_pure (ys : List D) (hz : ys.length < sizeLine) (hi : IWJ X G tg iter sl st fun ws st1 => st1 = st ∧ ws.length = ys.length ∧
      ∀ (i : Nat) (w : W) (y : D), ws[i]? = some w → ys[i]? = some y → ∃ sl2, tset tb is w (wipeL sl vs) = some sl2 ∧ EWb X scope elt sl2 st fun w' st' => w' = .dat y ∧ st' = st) (hf : fin ys st) : LcJ X G tg iter [] elt scope tb is vs sl st fin := fun A σ H H0 R Rr k =>
  hi A σ H H0 R Rr fun J ws st1 A1 H1 H01 ⟨e1, hl, turn⟩ R1 x1 s1 it => k J ws st1 A1 H1 H01 ⟨fun i acc st' => acc = ys.take i ∧ st' = st, ⟨by simp, e1⟩, fun i w acc st' hw ⟨ea, es⟩ => by
    have hiw := (List.getElem?_eq_some_iff.mp hw).1
    have hiy : i < ys.length := by omega
    obtain ⟨sl2, h1, h2⟩ := turn i w ys[i] hw (List.getElem?_eq_getElem hiy)
    refine ⟨sl2, h1, fun G2 s Hb C cl fp => ?_⟩
    subst es
    refine (h2 G2 s Hb C cl fp).imp fun w' st2 ⟨ew, es2⟩ => ⟨ys[i], ew, ?_, ?_, es2⟩
    · rw [ea, List.length_take]
      omega
    · rw [ea, List.take_succ, List.getElem?_eq_getElem hiy]
      rfl, fun acc st' ⟨ea, es⟩ => by
    rw [ea, hl, List.take_length, es]
    exact hf⟩ R1 x1 s1 it
theorem lcj_filter (bs : List Bool) (ys : List D) (hz : ys.length < sizeLine) (hbl : bs.length = ys.length) (hi : IWJ X G tg iter sl st fun ws st1 => st1 = st ∧ ws.length = ys.length ∧
      ∀ (i : Nat) (w : W) (b : Bool) (y : D), ws[i]? = some w → bs[i]? = some b → ys[i]? = some y → ∃ sl2, tset tb is w (wipeL sl vs) = some sl2 ∧ TWb X scope c sl2 st fun b' st' => b' = b ∧ st' = st ∧ (b = true → EWb X scope elt sl2 st fun w' st' => w' = .dat y ∧ st' = st))
    (hf : fin (((bs.zip ys).filter (·.1)).map (·.2)) st) : LcJ X G tg iter [c] elt scope tb is vs sl st fin := fun A σ H H0 R Rr k =>
  hi A σ H H0 R Rr fun J ws st1 A1 H1 H01 ⟨e1, hl, turn⟩ R1 x1 s1 it => k J ws st1 A1 H1 H01 ⟨fun i acc st' => acc = (((bs.zip ys).take i).filter (·.1)).map (·.2) ∧ st' = st, ⟨by simp, e1⟩, fun i w acc st' hw ⟨ea, es⟩ => by
    have hiw := (List.getElem?_eq_some_iff.mp hw).1
    have hiy : i < ys.length := by omega
    have hib : i < bs.length := by omega
    obtain ⟨sl2, h1, h2⟩ := turn i w bs[i] ys[i] hw (List.getElem?_eq_getElem hib) (List.getElem?_eq_getElem hiy)
    have hzi : (bs.zip ys)[i]? = some (bs[i], ys[i]) := by
      rw [List.getElem?_eq_getElem (by simp; omega)]
      simp
    refine ⟨sl2, h1, fun G2 s Hb C cl fp => ?_⟩
    subst es
    refine (h2 G2 s Hb C cl fp).imp fun b' st2 ⟨eb, es2, q⟩ => ?_
    subst eb es2
    cases hb : bs[i] with
    | true =>
      rw [if_pos rfl]
      intro G3 s3 Hb3 C3 cl3 fp3
      refine (q hb G3 s3 Hb3 C3 cl3 fp3).imp fun w' st2 ⟨ew, es2⟩ => ⟨ys[i], ew, ?_, ?_, es2⟩
      · rw [ea, List.length_map]
        have := List.length_filter_le (fun x : Bool × D => x.1) ((bs.zip ys).take i)
        rw [List.length_take, List.length_zip] at this
        omega
      · rw [ea, List.take_succ, hzi]
        simp [hb]
    | false =>
      rw [if_neg Bool.false_ne_true]
      refine ⟨?_, rfl⟩
      rw [ea, List.take_succ, hzi]
      simp [hb], fun acc st' ⟨ea, es⟩ => by
    rw [ea, es, hl, List.take_of_length_le (by rw [List.length_zip]; omega)]
    exact hf⟩ R1 x1 s1 it
theorem getElem?_mapW {xs : List D} {i : Nat} {w : W} (h : (xs.map W.dat)[i]? = some w) : ∃ d, xs[i]? = some d ∧ w = .dat d := by
  rw [List.getElem?_map] at h
  cases e : xs[i]? with
  | none => rw [e] at h; cases h
  | some d => rw [e] at h; exact ⟨d, rfl, (Option.some.inj h).symm⟩
theorem getElem?_rng {lo : Int} {n i : Nat} {w : W} (h : (rng lo n)[i]? = some w) : i < n ∧ w = .dat (.int (lo + i)) := by
  have hi : i < n := by
    have := (List.getElem?_eq_some_iff.mp h).1
    rwa [rng_length] at this
  rw [rng_get hi] at h
  exact ⟨hi, (Option.some.inj h).symm⟩
theorem getElem?_enm {xs : List D} {i : Nat} {w : W} (h : (enm xs)[i]? = some w) : ∃ d, xs[i]? = some d ∧ w = .dat (.tup [.int (i : Int), d]) := by
  have hi : i < xs.length := by
    have := (List.getElem?_eq_some_iff.mp h).1
    rwa [enm_length] at this
  rw [enm_get (List.getElem?_eq_getElem hi)] at h
  exact ⟨xs[i], List.getElem?_eq_getElem hi, (Option.some.inj h).symm⟩
end
theorem szl {n : Nat} (h : n ≤ 1000000) : n < sizeLine := Nat.lt_of_le_of_lt h (by decide)
theorem szl' {n : Nat} (h : n ≤ 1000000) : n ≤ sizeLine := Nat.le_of_lt (szl h)
theorem itm_lst {st : List Ob} {xs : List D} {i : Int} {j : Nat} {d : D} (e : i = (j : Int)) (h : xs[j]? = some d) : Itm st (.dat (.lst xs)) i = some (.dat d) := by
  subst e
  show (atI xs (j : Int)).map W.dat = _
  rw [atI_nat h]
  rfl
theorem itm_tup {st : List Ob} {xs : List D} {i : Int} {j : Nat} {d : D} (e : i = (j : Int)) (h : xs[j]? = some d) : Itm st (.dat (.tup xs)) i = some (.dat d) := by
  subst e
  show (atI xs (j : Int)).map W.dat = _
  rw [atI_nat h]
  rfl
theorem itm_scr {st : List Ob} {xs : List Int} {i : Int} {j : Nat} {d : Int} (e : i = (j : Int)) (h : xs[j]? = some d) : Itm st (.dat (.scr xs)) i = some (.dat (.int d)) := by
  subst e
  show (atI xs (j : Int)).map _ = _
  rw [atI_nat h]
  rfl
theorem itm_ptr {st : List Ob} {xs : List W} {i : Int} {j k : Nat} {w : W} (hk : st[k]? = some (.lst xs)) (e : i = (j : Int)) (h : xs[j]? = some w) : Itm st (.ptr k) i = some w := by
  subst e
  simp only [Itm, hk]
  exact atI_nat h
end Dn
namespace Dn
open PySem PySem.Spec L2 StX ClX
open PyProof.Rows hiding St
section
variable {X : Cx} {G : Ent} {e a b c o : Expr} {es : List Expr} {sl : Sls} {st : List Ob} {Φ : WK} {Ψ : BK} {pos p : Pos}
theorem op_is_nb : OpR X (compareOp .Is) (fun x y H Q => ∃ b, x = .non ∧ y = .bl b ∧ Q (.bl false) H) := by
  intro pins s σ H x y v u Q I rx ry h
  obtain ⟨b, rfl, rfl, q⟩ := h
  cases (show v = Value.none from rx)
  cases (show u = Value.bool b from ry)
  exact wpAny_is_other rfl (fun z => nomatch z) ⟨.bl false, H, I, rfl, q⟩
def optB : Option Bool → D
  | none => .non
  | some b => .bl b
theorem o_isB {ob : Option Bool} {b : Bool} (h : Φ (.dat (.bl (ob == some b))) st) : OW X G (compareOp .Is) sl st (.dat (optB ob)) (.dat (.bl b)) Φ := by
  cases ob with
  | none =>
    refine ow_of op_is_nb fun A σ H H0 R v1 v2 r1 r2 Q k => ?_
    cases r1
    cases r2
    exact ⟨b, rfl, rfl, k _ st _ A H H0 h R (Ext.refl _) (Same.refl _) (.bl _)⟩
  | some a =>
      refine ow_of op_is_bl fun A σ H H0 R v1 v2 r1 r2 Q k => ?_
      cases r1
      cases r2
      have e : (some a == some b) = decide (a = b) := by cases a <;> cases b <;> rfl
      rw [e] at h
      exact ⟨a, b, rfl, rfl, k _ st _ A H H0 h R (Ext.refl _) (Same.refl _) (.bl _)⟩
theorem scV_flat {d : D} {x : V} (h : scV d = some x) : flatV x = true := by cases d <;> simp [scV] at h <;> subst h <;> rfl
def scVs : List D → Option (List V)
  | [] => some []
  | d :: ds => match scV d with
    | none => none
    | some x => (scVs ds).map (x :: ·)
theorem scVs_rep {K : PySem.W.Frag} {H : Hp} : ∀ {ds : List D} {vs us : List V}, Reps K H vs ds → scVs ds = some us → vs = us ∧ us.all flatV = true
  | [], _, _, .nil, h => by cases h; exact ⟨rfl, rfl⟩
  | d :: ds, _, us, .cons r rr, h => by
    simp only [scVs] at h
    cases e : scV d with
    | none => rw [e] at h; cases h
    | some x =>
      rw [e] at h
      obtain ⟨us', h1, h2⟩ := Option.map_eq_some_iff.mp h
      subst h2
      obtain ⟨e1, e2⟩ := scVs_rep rr h1
      rw [scV_rep r e, e1, List.all_cons, scV_flat e, e2]
      exact ⟨rfl, rfl⟩
def SeqD (st : List Ob) (w : W) (ds : List D) : Prop := w = .dat (.lst ds) ∨ w = .dat (.tup ds) ∨ ∃ j, w = .ptr j ∧ st[j]? = some (.lst (ds.map W.dat))
theorem seqD_at {K : PySem.W.Frag} {A : List Addr} {σ : St} {H H0 : Hp} {v : V} {w : W} {ds : List D} (R : RS K G A σ H H0 sl st) (h : SeqD st w ds) (r : RepW K A H0 v w) : ∃ p vs, v = .ref p ∧ (SqL K H p vs ∨ SqT K H p vs) ∧ Reps K H0 vs ds := by
  rcases h with rfl | rfl | ⟨j, rfl, hj⟩
  · cases r with
    | lst e rr => exact ⟨_, _, rfl, .inl (.inl (.inl (R.hs.le _ _ e))), rr⟩
  · cases r with
    | tup e rr => exact ⟨_, _, rfl, .inr (.inl (.inl (R.hs.le _ _ e))), rr⟩
    | tupK l c d => exact ⟨_, _, rfl, .inr (sqT_K l c d), .nil⟩
  · obtain ⟨ad, ha, hn, vs, he, rr⟩ := R.at hj
    obtain ⟨a', ha', rfl⟩ := r
    have : a' = ad := Option.some.inj (ha'.symm.trans ha)
    subst this
    exact ⟨_, _, rfl, .inl (.inl (.inl he)), rr.dats⟩
theorem o_in {d : D} {w : W} {ds : List D} {x : V} {xs : List V} (h0 : scV d = some x) (h1 : SeqD st w ds) (h2 : scVs ds = some xs) (h : Φ (.dat (.bl (inV x xs))) st) : OW X G (compareOp .In) sl st (.dat d) w Φ := ow_of op_in_seq fun A σ H H0 R v1 v2 r1 r2 Q k => by
  obtain ⟨p, vs, rfl, hq, rr⟩ := seqD_at R h1 r2
  obtain ⟨e1, e2⟩ := scVs_rep rr h2
  rw [scV_rep r1 h0]
  rw [e1] at hq
  exact ⟨p, xs, rfl, hq, scV_flat h0, e2, k _ st _ A H H0 h R (Ext.refl _) (Same.refl _) (.bl _)⟩
theorem o_notin {d : D} {w : W} {ds : List D} {x : V} {xs : List V} (h0 : scV d = some x) (h1 : SeqD st w ds) (h2 : scVs ds = some xs) (h : Φ (.dat (.bl (!inV x xs))) st) : OW X G (compareOp .NotIn) sl st (.dat d) w Φ := ow_of op_notIn_seq fun A σ H H0 R v1 v2 r1 r2 Q k => by
  obtain ⟨p, vs, rfl, hq, rr⟩ := seqD_at R h1 r2
  obtain ⟨e1, e2⟩ := scVs_rep rr h2
  rw [scV_rep r1 h0]
  rw [e1] at hq
  exact ⟨p, xs, rfl, hq, scV_flat h0, e2, k _ st _ A H H0 h R (Ext.refl _) (Same.refl _) (.bl _)⟩
end
section
variable {X : Cx} {G : Ent} {sl : Sls} {st : List Ob} {s : Stmt} {ss : List Stmt} {E E' : KE}
theorem SW1.imp (h : SW1 X G s sl st E') (h1 : ∀ sl st, E'.nx sl st → E.nx sl st) (h2 : ∀ w st, E'.rt w st → E.rt w st) (h3 : ∀ sl st, E'.bk sl st → E.bk sl st) (h4 : ∀ sl st, E'.ct sl st → E.ct sl st) : SW1 X G s sl st E := fun A σ H H0 R D k =>
  h A σ H H0 R D ⟨fun A1 σ1 H1 H01 sl1 st1 q => k.nx A1 σ1 H1 H01 sl1 st1 (h1 _ _ q), fun A1 σ1 H1 H01 sl1 st1 w v q => k.rt A1 σ1 H1 H01 sl1 st1 w v (h2 _ _ q), fun A1 σ1 H1 H01 sl1 st1 q => k.bk A1 σ1 H1 H01 sl1 st1 (h3 _ _ q), fun A1 σ1 H1 H01 sl1 st1 q => k.ct A1 σ1 H1 H01 sl1 st1 (h4 _ _ q)⟩
theorem sw_cut (M : GK) (h : SW1 X G s sl st { E with nx := M }) (q : ∀ sl st, M sl st → SW X G ss sl st E) : SW X G (s :: ss) sl st E := sw_cons (h.imp (fun sl st hm => q sl st hm) (fun _ _ x => x) (fun _ _ x => x) (fun _ _ x => x))
end
theorem at_end {st : List Ob} {o : Ob} : (st ++ [o])[st.length]? = some o := by simp
theorem set_end {st : List Ob} {o u : Ob} : (st ++ [o]).set st.length u = st ++ [u] := by simp
theorem ixN_m1 {n : Nat} (h : 0 < n) : ixN n (-1) = some (n - 1) := by
  unfold ixN
  rw [if_neg (by decide), if_pos (by omega)]
  congr 1
  omega
theorem atI_m1 {α : Type} {xs : List α} {v : α} (h : xs.getLast? = some v) : atI xs (-1) = some v := by
  have hne : xs ≠ [] := by rintro rfl; cases h
  have hp : 0 < xs.length := List.length_pos_iff.mpr hne
  unfold atI
  rw [ixN_m1 hp]
  show xs[xs.length - 1]? = some v
  rw [← List.getLast?_eq_getElem?]
  exact h
theorem take_succ_of {α : Type} {xs : List α} {i : Nat} {x : α} (h : xs[i]? = some x) : xs.take (i + 1) = xs.take i ++ [x] := by
  rw [List.take_succ, h]
  rfl
end Dn
namespace Dn
open PySem PySem.Spec L2 StX ClX
open PyProof.Rows hiding St
section
variable {X : Cx} {G : Ent} {sl : Sls} {st : List Ob} {Φ : WK} {Kx : XKS} {F : FT} {k j : Nat} {x m : Str} {p pos apos : Pos} {e o : Expr} {es : List Expr}
theorem ew_cmeth {C : Addr} {pl : Sem Bool} (c : CMt X.prog X.w X.K X.mg X.base k C m F) (hr : RoomG j X.A) (hk : k ≤ j) (xk : XOk X G Kx)
    (h : EW X G o sl st fun w st1 => w = .dat (.adr C) ∧ AW X G (e :: es) sl st1 fun ws st2 => F (.dat (.adr C) :: ws) st2 Φ fun cls fs st3 => Kx cls fs sl st3)
    (hst : starEach (e :: es) X.env = (false, eval e X.env) :: starEach es X.env := by rfl) (hpl : (backTo pos (starEach es X.env)).any (·.1) = false := by rfl)
    (ht : eval (.Call (.Attribute o m apos) (e :: es) [] pos) X.env = (do
      let ov ← eval o X.env
      standAt apos.atName
      let (f, first) ← holding [ov] (getMethod ov m pl)
      callWith pos f first (backTo pos (starEach (e :: es) X.env)) (backToKw pos (keywordEach [] X.env))) := by rfl) : EW X G (.Call (.Attribute o m apos) (e :: es) [] pos) sl st Φ := fun A σ H H0 R Q k pins s I => by
  obtain ⟨mc, p, g, cr, cm, Fn⟩ := c
  refine PySem.W.methodCall_KW (pl := pl) (thn (h A σ H H0 R (fun v H1 => ∃ A1 H01 st1, v = .ref C ∧ (AW X G (e :: es) sl st1 fun ws st2 => F (.dat (.adr C) :: ws) st2 Φ fun cls fs st3 => Kx cls fs sl st3) ∧ RS X.K G A1 σ H1 H01 sl st1 ∧ Ext A A1 ∧ Same H0 H01)
    (fun w st1 v A1 H1 H01 ⟨ew, q⟩ R1 x1 s1 r1 => by subst ew; cases r1; exact ⟨A1, H01, st1, rfl, q, R1, x1, s1⟩) pins s I) fun u s1 ⟨v, H1, I1, rx, A1, H01, st1, ev, q, R1, x1, s1'⟩ => ?_) ht
  subst ev
  obtain rfl : u = Value.ref C := rx
  refine getmethcm_ok I1 cr cm fun s2 I2 => ?_
  refine callwith_cm I2 (base_none I1 (Nat.le_refl _)) cm.fi (thn (q A1 σ H1 H01 R1 (fun us H2 => ∃ A2 H02 st2 ws, F (.dat (.adr C) :: ws) st2 Φ (fun cls fs st3 => Kx cls fs sl st3) ∧ RS X.K G A2 σ H2 H02 sl st2 ∧ Ext A1 A2 ∧ Same H01 H02 ∧ RepWs X.K A2 H02 us ws)
    (fun ws st2 us A2 H2 H02 q R2 x2 s2 r2 => ⟨A2, H02, st2, ws, q, R2, x2, s2, r2⟩) pos _ s2 I2) fun us s3 ⟨vs2, H2, I3, r, A2, H02, st2, ws, q2, R2, x2, s2', r2⟩ => ⟨⟨pin_at I3, I3.kIn⟩, ?_⟩) hst hpl
  have z : wpAny (model X.prog X.w) X.A (call (.ref s1.heap.objs.size) us) (EP X ((s1.heap.objs.size, PySem.W.methodObj (.ref g) (.ref C)) :: pins) σ Q) X.xe s3 := by
    refine wpAny_call (PySem.W.method_call (pin_at I3) (codeAny_mono (run_D (us := .ref C :: us) (vs := .ref C :: vs2) (ws := .dat (.adr C) :: ws) (Ret := Φ) Fn (hr.mono hk) xk R2 ⟨.adr _, r2⟩ I3 (.cons rfl r) q2 (k.mv (x1.trans x2) (s1'.trans s2')) fun _ _ _ q => q) fun r s' q => ?_))
    cases r with
    | error e => exact q
    | ok fl => cases fl <;> exact q
  exact thn z fun _ _ y => unpinE y
theorem ew_mid' (M : W → Prop) (h : EW X G e sl st fun w' st' => M w' ∧ st' = st) (q : ∀ w, M w → Φ w st) : EW X G e sl st Φ := h.imp fun k st' ⟨e1, e2⟩ => by rw [e2]; exact q k e1
theorem ew_midS (M : WK) (h : EW X G e sl st M) (q : ∀ w st', M w st' → Φ w st') : EW X G e sl st Φ := h.imp q
theorem tw_midS {Ψ : BK} (M : BK) (h : TW X G e sl st M) (q : ∀ b st', M b st' → Ψ b st') : TW X G e sl st Ψ := h.imp q
theorem ew_errfldL (i : Nat) {f : Str} {C ad : Addr} {oe : Obj} {od : Option Addr} {pn : List (Addr × Obj)} {d : D} (hi : sl[i]? = some (some (.dat (.err ad od (.ref C) [(f, d)])))) (T : FldErr X f C) (hz : Zc (.ref C) od oe) (hv : ∃ vs, oe.data = .fields vs) (h : Φ (.dat d) st)
    (hN : X.N[i]? = some x := by rfl) (hvs : Vis X.env.scope x := by first | exact Or.inl rfl | exact Or.inr (Or.inl rfl) | exact Or.inr (Or.inr rfl))
    (hd : (x == ("__debug__" : Str)) = false := by decide) (hcd : (x == ("__classdict__" : Str)) = false := by decide) (hb : attributeBase (.Name x p) f X.env (eval (.Name x p) X.env) = eval (.Name x p) X.env := by rfl) : EW (X.suite ad ((ad, oe) :: pn)) G (.Attribute (.Name x p) f pos) sl st Φ := fun A σ H H0 R Q k => by
  obtain ⟨v, hs, r⟩ := R.sl.2 i _ hi
  have r' : Rep X.K H0 v (.err ad od (.ref C) [(f, d)]) := r
  cases r' with
  | err hx rf => exact ew_errfld T hz hv (ew_name i hi ⟨rfl, h⟩ hN hvs hd hcd) hb A σ H H0 R Q k
end
end Dn
namespace Dn
open PySem PySem.Spec L2 StX ClX
open PyProof.Rows hiding St
theorem fnDok {P : Program} {w : World} {K : PySem.W.Frag} {mg : Str → Option Value} {base : Heap} {x qual : Str} {st : Stmt} {f : Addr} {fd : FuncData} {N ps : List Str} {k : Nat} {F : FT} (Fn : Fun K x qual st f fd) (S : FnScope N ps (defScope st))
    (hlen : ∀ args st0 Ret Exc, F args st0 Ret Exc → args.length = ps.length)
    (body : ∀ (cdv : Value) (A : Around) (outer : List Env) (s : Shared) (H : Hp) (E : XK) (H0 : Hp) (Al : List Addr) (args : List W) (st0 : List Ob) (Ret : WK) (Exc : XKD),
      RoomG k (cxOf (L2.CX P w) P w K mg base N qual (defScope st) f cdv A outer s H E).A →
      XOk (cxOf (L2.CX P w) P w K mg base N qual (defScope st) f cdv A outer s H E) ⟨H, H0, Al⟩ (KxE st0 Exc) →
      PassesOwn (model P w) (cxOf (L2.CX P w) P w K mg base N qual (defScope st) f cdv A outer s H E).A (cxOf (L2.CX P w) P w K mg base N qual (defScope st) f cdv A outer s H E).env (cxOf (L2.CX P w) P w K mg base N qual (defScope st) f cdv A outer s H E).xe →
      Al.length = st0.length → Clos st0 → F args st0 Ret Exc →
      SW (cxOf (L2.CX P w) P w K mg base N qual (defScope st) f cdv A outer s H E) ⟨H, H0, Al⟩ (defBody st) (startS N args) st0 { nx := fun _ st' => KrE st0 Ret (.dat .non) st', rt := KrE st0 Ret }) :
    FnGo P w K mg base (L2.CX P w) (k + 1) f fd ps (spD K F) := by
  refine FnGo.ofBody Fn S (fun vs H Q E h => ?_) (fun cdv A outer s H vs Q E hr h => ?_)
  · obtain ⟨H0, Al, args, st0, Ret, Exc, hs, rw, hF, _⟩ := h
    rw [rw.length]
    exact hlen _ _ _ _ hF
  · obtain ⟨H0, Al, args, st0, Ret, Exc, hs, rw, hF, hR, hE⟩ := h
    refine ⟨_, pss_wp, ?_⟩
    have fin : ∀ {A' H' H0' st' w v}, KrE st0 Ret w st' → HS K A' H' H0' st' → Fr ⟨H, H0, Al⟩ A' H' H0' → RepW K A' H0' v w → Q v H' := fun {A' H' H0' st' w v} q hs' fr r => by
      obtain ⟨st1, g, rfl, hl, hc, hw, q⟩ := q
      exact hR w st1 v _ H' H0' q (hs'.drop hc) (fr.drop (by show Al.length ≤ _; rw [hs.al]; exact hl)) (r.take hw)
    refine body cdv A outer s H E H0 Al args st0 Ret Exc hr ⟨_, takes_of rfl rfl rfl rfl, fun cls fs d vfs A' σ' H' H0' sl' st' q R xd rf => ?_⟩ (passes_of rfl) hs.al hs.clos hF Al (L2.start N vs) H H0 ⟨rw.lenS, hs, Fr.refl hs⟩ _ ⟨fun A' σ' H' H0' sl' st' q R _ _ => ?_, fun A' σ' H' H0' sl' st' w v q R _ _ r => ?_, fun _ _ _ _ _ _ q => q.elim, fun _ _ _ _ _ _ q => q.elim⟩
    · obtain ⟨st1, g, rfl, hl, hc, q⟩ := q
      exact hE cls fs d vfs st1 _ H' H0' q (R.hs.drop hc) (R.fr.drop (by show Al.length ≤ _; rw [hs.al]; exact hl)) xd rf
    · exact fin q R.hs R.fr (show RepW K A' H0' .non (.dat .non) from .non)
    · exact fin q R.hs R.fr r
def LawF : FT := fun args st Ret _ => ∃ ns : List Int, ns.length ≤ 63 ∧ args = [.dat (.scr ns)] ∧ Ret (.dat (.bl true)) st
theorem law_sp {K : PySem.W.Frag} {H : Hp} {a : Addr} {ns : List Int} (hl : ns.length ≤ 63) (hS : SqL K H a (ns.map V.int)) : spD K LawF [.ref a] H (fun v _ => v = .bl true) fun _ _ _ => False := by
  refine ⟨H, [], [.dat (.scr ns)], [], fun w _ => w = .dat (.bl true), fun _ _ _ => False, ⟨fun _ _ e => e, rfl, List.nodup_nil, fun j a o h => by simp at h⟩, ⟨.scr hS, trivial⟩, ⟨ns, hl, rfl, rfl⟩, fun w st' v A' H' H0' e _ _ r => ?_, fun _ _ _ _ _ _ _ _ e => e.elim⟩
  subst e
  cases r
  rfl
theorem law_start {P : Program} {w : World} {K : PySem.W.Frag} {mg mb : Str → Option Value} {k : Nat} {fa a : Addr} {fd : FuncData} {x : Str} {sp : Sp} {t : Shared} {vs : List Value} {ns : List Int}
    (hin : K.In t.heap) (gl : t.heap.Ns mainGlobals mg) (bl : t.heap.Ns builtinsNs mb) (bb : ∀ y : Str, y ≠ "__name__" → mb y = bootBuiltins y) (nl : t.heap.NoLimit) (ng : t.gens = #[]) (at_a : t.heap.get? a = some { cls := .type "list", data := .seq vs.toArray }) (iv : IntsAre vs ns) (len : ns.length ≤ sizeLine) (room : RoomG k callerA)
    (F : ∀ base : Heap, K.In base → base.Ns mainGlobals mg → FnGo P w K mg base (L2.CX P w) k fa fd [x] sp) (bd : ∀ (s : Shared) (u : Value), BindsTo s fd ⟨[u], []⟩ [(x, u)]) (here : ∀ h : Hp, SqL K h a (ns.map V.int) → sp [.ref a] h (fun v _ => v = .bl true) fun _ _ _ => False) :
    codeAny (model P w) callerA (.call (.ref fa) ⟨[.ref a], []⟩) (fun r t' => r = .ok (.ret (.bool true)) ∧ OldK t.heap t'.heap ∧ t'.os = t.os ∧ AllBare t'.gens) t := by
  have rv := vals_ints iv
  have lv := iv.length
  obtain ⟨h, only, sq⟩ : ∃ h : Hp, (∀ b u, h b = some u → b = a ∧ K.lookup a = none ∧ u = .frz { cls := .type "list", data := .seq vs.toArray } (.lst (ns.map V.int))) ∧ SqL K h a (ns.map V.int) := by
    by_cases own : K.lookup a = none
    · refine ⟨upd (fun _ => none) a (.frz { cls := .type "list", data := .seq vs.toArray } (.lst (ns.map V.int))), fun b u e => ?_, .inl (.inr ⟨_, upd_same⟩)⟩
      by_cases hb : b = a
      · subst hb
        rw [upd_same] at e
        cases e
        exact ⟨rfl, own, rfl⟩
      · rw [upd_ne hb] at e
        cases e
    · obtain ⟨o, e⟩ := Option.ne_none_iff_exists'.mp own
      have e2 := hin a o e
      rw [at_a] at e2
      cases e2
      exact ⟨fun _ => none, (fun b u e => by cases e), .inr ⟨_, vs.toArray, _, e, rfl, rfl, rfl, by rw [List.size_toArray, lv]; exact len, by simpa using rv⟩⟩
  have kept : ∀ {b : Addr} {o : Obj}, t.heap.get? b = some o → h b = none → (hidT t.heap h).get? b = some o := hidT_get
  have hin2 : K.In (hidT t.heap h) := fun b o e => kept (hin b o e) <| Option.eq_none_iff_forall_ne_some.mpr fun u z => by
    obtain ⟨rfl, n, _⟩ := only b u z
    rw [n] at e
    cases e
  have spaces : ∀ {b : Addr} {m : Str → Option Value}, t.heap.Ns b m → (hidT t.heap h).Ns b m := by
    rintro b m ⟨o, es, ep, e, dt, rest⟩
    refine ⟨o, es, ep, kept e (Option.eq_none_iff_forall_ne_some.mpr fun u z => ?_), dt, rest⟩
    obtain ⟨rfl, _⟩ := only b u z
    rw [at_a] at e
    cases e
    exact Data.noConfusion dt
  obtain ⟨mc, l1, l2⟩ := nl
  have ok : HOk P w h t.heap := fun b u z => by
    obtain ⟨rfl, _, rfl⟩ := only b u z
    exact ⟨at_a, by rw [List.length_map]; exact len, vs, _, rv, at_a⟩
  have env : Env0 P w K mg (hidT t.heap h) callerA [] t h := ⟨rfl, ⟨hin2, spaces gl, ⟨mb, spaces bl, bb⟩, ⟨mc, spaces l1, l2⟩⟩, fun b o e => of_hidT e, Nat.le_of_eq (hidT_size _ _), trivial, fun b z => by simp [frs] at z, ok, .of_eq ng⟩
  refine codeAny_mono ((F _ hin2 (spaces gl)).go callerA [] t h ⟨[.ref a], []⟩ [.ref a] [.ref a] _ _ room env (bd t _) (.cons rfl .nil) (here h sq)) ?_
  rintro (e | _ | _ | _ | u) t' z
  · obtain ⟨_, _, _, _, _, _, _, _, _, _, _, _, z⟩ := z
    exact z.elim
  · exact z.elim
  · exact z.elim
  · exact z.elim
  · obtain ⟨v, h', os, bare, un, ok', r', q⟩ := z
    cases (show v = .bl true from q)
    cases (show u = Value.bool true from r')
    refine ⟨rfl, OldK.of_keep fun b o e => ?_, os, bare⟩
    match hb : h b with
    | none => exact un.keep b o e hb (by simp [frs]) (by simp)
    | some u =>
      obtain ⟨rfl, _, rfl⟩ := only b u hb
      have e1 := (ok b _ hb).1
      have e2 := (ok' b _ (un.frzs b _ _ hb)).1
      rw [e1] at e
      cases e
      exact e2
theorem walkD {l : PySem.W.OpenLaw} {q : Program} {loose : List Str} {XP : (Str → Option Value) → Heap → Prop} {YP : World → Heap → Prop} {d : DefRec} {K : Params → PySem.W.Frag} (k : Nat) (hn : l.most = some 63) (hdf : d.params.defaults = []) (hr : RoomG k callerA) (x : Str)
    (hY : ∀ (w : World) (h : Heap), YP w h → (K w.params).In h)
    (F : ∀ (w : World) (mg : Str → Option Value) (fa : Addr) (h : Heap), (K w.params).In h → h.Ns mainGlobals mg → mg d.name = some (.ref fa) →
      ∃ fd : FuncData, (∀ (s : Shared) (u : Value), BindsTo s fd ⟨[u], []⟩ [(x, u)]) ∧ ∀ base : Heap, (K w.params).In base → base.Ns mainGlobals mg → FnGo l.prog w (K w.params) mg base (L2.CX l.prog w) k fa fd [x] (spD (K w.params) LawF)) :
    PySem.W.WalkO q loose XP YP l.row.toRowW d [] (fun f vs => PySem.call f vs) := by
  refine Att.attach_call hn hdf fun w _ t mg mb fa _ _ _ _ a vs ns G Y _ _ _ at_g hobj hints hlen ng => ?_
  have hin := hY w _ Y
  obtain ⟨fd, bd, run⟩ := F w mg fa _ hin G.T.g at_g
  exact law_start hin G.T.g G.T.b G.T.builtins G.T.nolimit ng hobj hints (Nat.le_trans hlen (by decide)) hr run bd fun h sq => law_sp hlen sq
end Dn
namespace Dn
open PySem PySem.Spec L2 StX ClX
open PyProof.Rows hiding St
def CDivL (i j : Int) : Prop := j ≠ 0 ∧ j.natAbs.log2 < 9000
theorem divL_of {i j : Int} (h0 : 0 < j) (h1 : j < 18446744073709551616) : CDivL i j := ⟨by omega, by
  have h2 : j.natAbs < 2 ^ 64 := by omega
  have h3 : j.natAbs.log2 < 64 := (Nat.log2_lt (by omega)).mpr h2
  omega⟩
section
variable {X : Cx} {G : Ent} {e a b c o tg iter elt : Expr} {es : List Expr} {sl : Sls} {st : List Ob} {Φ : WK} {Ψ : BK} {pos p : Pos} {scope : Scope} {tb : Bool} {is vs : List Nat} {fin : List D → List Ob → Prop}
theorem op_fdivL : OpR X (binaryOp .FloorDiv) (rI CDivL fun i j => .int (i.fdiv j)) := opI fun _ _ _ _ _ _ _ hc q => floordiv_int hc.1 q (.inl (PyProof.noPylong_of_log2 hc.2))
theorem o_divL {i j : Int} (hc : CDivL i j) (h : Φ (.dat (.int (i.fdiv j))) st) : OW X G (binaryOp .FloorDiv) sl st (.dat (.int i)) (.dat (.int j)) Φ := ow_I (g' := fun i j => .int (i.fdiv j)) op_fdivL (fun _ _ _ _ => .int _) hc h
theorem reps_of_ints {K : PySem.W.Frag} {H : Hp} : ∀ zs : List Int, Reps K H (zs.map V.int) (zs.map D.int)
  | [] => .nil
  | z :: zs => .cons (.int z) (reps_of_ints zs)
theorem c_sorted {zs : List Int} (h : ∀ ys : List Int, ys.Perm zs → ys.Pairwise (· ≤ ·) → Φ (.dat (.lst (ys.map D.int))) st) : CW X G (.builtin "sorted") sl st [.dat (.lst (zs.map D.int))] Φ := cw_of cr_sortedI fun A σ H H0 R vs rw Q k => by
  obtain ⟨v, rfl, r⟩ := rep1 rw
  cases r with
  | @lst ad us _ eh rr =>
    have e := reps_int rr
    subst e
    refine ⟨ad, zs, rfl, .inl (.inl (R.hs.le _ _ eh)), fun ys l hp hw hl => ?_⟩
    have s0 := same_upd (o := .lst (ys.map V.int)) (R.hs.free0 hl)
    exact k _ st _ A _ _ (h ys hp hw) (R.alloc hl) (Ext.refl _) s0 (.lst upd_same (reps_of_ints ys))
theorem lcj_pureS (ys : List D) (hz : ys.length < sizeLine) (hi : IWJ X G tg iter sl st fun ws st1 => (ws.length = ys.length ∧
      ∀ (i : Nat) (w : W) (y : D), ws[i]? = some w → ys[i]? = some y → ∃ sl2, tset tb is w (wipeL sl vs) = some sl2 ∧ EWb X scope elt sl2 st1 fun w' st' => w' = .dat y ∧ st' = st1) ∧ fin ys st1) : LcJ X G tg iter [] elt scope tb is vs sl st fin := fun A σ H H0 R Rr k =>
  hi A σ H H0 R Rr fun J ws st1 A1 H1 H01 ⟨⟨hl, turn⟩, hf⟩ R1 x1 s1 it => k J ws st1 A1 H1 H01 ⟨fun i acc st' => acc = ys.take i ∧ st' = st1, ⟨by simp, rfl⟩, fun i w acc st' hw ⟨ea, es⟩ => by
    have hiw := (List.getElem?_eq_some_iff.mp hw).1
    have hiy : i < ys.length := by omega
    obtain ⟨sl2, h1, h2⟩ := turn i w ys[i] hw (List.getElem?_eq_getElem hiy)
    refine ⟨sl2, h1, fun G2 s Hb C cl fp => ?_⟩
    subst es
    refine (h2 G2 s Hb C cl fp).imp fun w' st2 ⟨ew, es2⟩ => ⟨ys[i], ew, ?_, ?_, es2⟩
    · rw [ea, List.length_take]
      omega
    · rw [ea, List.take_succ, List.getElem?_eq_getElem hiy]
      rfl, fun acc st' ⟨ea, es⟩ => by
    rw [ea, hl, List.take_length, es]
    exact hf⟩ R1 x1 s1 it
theorem bt_sorted : bootBuiltins "sorted" = some (.builtin "sorted") := by rfl
end
end Dn
namespace Dn
open PySem PySem.Spec L2 StX ClX
open PyProof.Rows hiding St
section
variable {X : Cx} {G : Ent} {sl : Sls} {st : List Ob} {Φ : WK}
def rIsEd (K : PySem.W.Frag) (ad : Addr) (b : Bool) (C S dx : Addr) (vfs : List (Str × V)) : List V → Hp → VK → Prop := fun xs H Q => xs = [.ref ad, .ref S] ∧ H dx = some (.xd vfs) ∧ PySem.W.kitOne K (.ref C) (.ref S) = some b ∧ Q (.bl b) H
theorem call_isEd {ad C S dx : Addr} {b : Bool} {oe : Obj} {pn : List (Addr × Obj)} {vfs : List (Str × V)} (E : L2.ExcC X.K C) (hz : Zc (.ref C) (some dx) oe) (hf : ∃ vs, oe.data = .fields vs) : CallR (X.suite ad ((ad, oe) :: pn)) (.builtin "isinstance") (rIsEd X.K ad b C S dx vfs) := by
  intro pins s σ H xs us Q I r h
  obtain ⟨rfl, hx, e, q⟩ := h
  cases r with
  | cons rx rr =>
    cases rr with
    | cons rt rr =>
      cases rr
      cases rx
      cases rt
      obtain ⟨hget, _⟩ := I.pin (ad, oe) (List.mem_append.mpr (.inl List.mem_cons_self))
      obtain ⟨vs, hv⟩ := hf
      have hx' : ObjOk X.prog X.w H s.heap dx (.xd vfs) := I.hok dx _ hx
      obtain ⟨mA, hns, _⟩ := hx'
      obtain ⟨od, ho, _⟩ := lookIn_ns hns
      have J : PySem.W.InstAt s.heap ad oe C (some od) := ⟨hget, hz.1, by unfold PySem.W.notCls; rw [hv] <;> rfl, by rw [hz.2]; exact ho⟩
      have hcl : (PySem.W.clsIn X.K C).isSome = true := by
        have hd := E.hd
        unfold PySem.W.hasDictIn at hd
        cases hc : PySem.W.clsIn X.K C with
        | none => rw [hc] at hd; cases hd
        | some cd => rfl
      exact PySem.W.kia_one (PySem.W.kitx_exc (od := some od) hcl E.hg E.hk E.hs E.ha E.hn E.ht E.hm) I.kIn J e (fun z => nomatch z) fun tk => ⟨.bl b, H, I.kept (t' := tk) fun _ _ z => z, rfl, q⟩
theorem c_isEd {C S ad : Addr} {od : Option Addr} {b : Bool} {oe : Obj} {pn : List (Addr × Obj)} {f : Str} {d : D} (E : L2.ExcC X.K C) (hz : Zc (.ref C) od oe) (hf : ∃ vs, oe.data = .fields vs) (hk : PySem.W.kitOne X.K (.ref C) (.ref S) = some b) (h : Φ (.dat (.bl b)) st) :
    CW (X.suite ad ((ad, oe) :: pn)) G (.builtin "isinstance") sl st [.dat (.err ad od (.ref C) [(f, d)]), .dat (.adr S)] Φ := fun A σ H H0 R vs rw Q k => by
  obtain ⟨v, u, rfl, r, r'⟩ := rep2 rw
  cases r with
  | @err _ dx _ vfs _ hx rf =>
    cases r'
    exact wpC_of (call_isEd (b := b) (S := S) (vfs := vfs) E hz hf) ⟨rfl, R.hs.le _ _ hx, hk, k _ st _ A H H0 h R (Ext.refl _) (Same.refl _) (.bl b)⟩
theorem o_catM {xs ys : List D} (hz : xs.length + ys.length ≤ sizeLine) (h : Φ (.ptr st.length) (st ++ [.lst ((xs ++ ys).map W.dat)])) : OW X G (binaryOp .Add) sl st (.dat (.lst xs)) (.dat (.lst ys)) Φ := ow_of op_cat fun A σ H H0 R v1 v2 r1 r2 Q k => by
  cases r1 with
  | @lst _ us _ e1 q1 =>
    cases r2 with
    | @lst _ us2 _ e2 q2 =>
      refine ⟨_, _, _, _, rfl, rfl, R.hs.le _ _ e1, R.hs.le _ _ e2, by rw [q1.length, q2.length]; exact hz, fun p hp => ?_⟩
      have e : Ext A (A ++ [p]) := ⟨[p], rfl⟩
      refine k _ _ _ _ _ _ h (R.push hp ⟨R.hs.free0 hp, us ++ us2, upd_same, RepWs.of (q1.append q2)⟩) e (Same.refl _) ⟨p, ?_, rfl⟩
      rw [← R.hs.al, List.getElem?_append_right (Nat.le_refl _)]
      simp
end
end Dn
namespace Dn
open PySem PySem.Spec L2 StX ClX
open PyProof.Rows hiding St
structure OpTxt (K : PySem.W.Frag) (C f : Addr) (nm : Str) : Prop where
  at_ : PySem.W.findIn K (.ref C) nm = some (some (.ref f))
  fn : PySem.W.isFn K (.ref f) = true
def OpM (P : Program) (w : World) (K : PySem.W.Frag) (mg : Str → Option Value) (base : Heap) (k : Nat) (C : Addr) (nm : Str) (F : FT) : Prop :=
  ∃ f : Addr, OpTxt K C f nm ∧ FnG P w K mg base (L2.CX P w) k f (spD K F)
section
variable {X : Cx} {G : Ent} {sl : Sls} {st : List Ob} {Φ : WK} {Kx : XKS} {F : FT} {k j : Nat}
theorem rs_any {K : PySem.W.Frag} {A : List Addr} {σ σ' : St} {H H0 : Hp} (R : RS K G A σ H H0 sl st) : RS K G A σ' H H0 (List.replicate σ'.length none) st :=
  ⟨⟨by simp, fun i w h => by
    rw [List.getElem?_replicate] at h
    split at h <;> cases h⟩, R.hs, R.fr⟩
theorem cmpback {pins : List (Addr × Obj)} {σ : St} {Q : VK} {u : Value} {s : Shared} (h : EP X pins σ Q u s) : PySem.W.CmpBack (EP X pins σ Q) u s := by
  cases u with
  | notImplemented =>
    obtain ⟨v, H', _, rv, _⟩ := h
    cases v <;> first | (obtain ⟨_, z⟩ := rv; cases z) | exact absurd rv (by intro z; cases z)
  | _ => exact h
theorem run_op {pins : List (Addr × Obj)} {A : List Addr} {σ σ' : St} {H H0 : Hp} {s : Shared} {f : Addr} {us : List Value} {vs : List V} {ws : List W} {Q : VK} (Fn : FnG X.prog X.w X.K X.mg X.base (L2.CX X.prog X.w) k f (spD X.K F)) (hr : RoomG k X.A) (xk : XOk X G Kx) (R : RS X.K G A σ H H0 sl st)
    (rw : RepWs X.K A H0 vs ws) (I : Inv X pins σ' H s) (r : Vals vs us) (hF : F ws st Φ (fun cls fs st' => ∀ sl', Kx cls fs sl' st')) (c : Ct X.K G A σ H0 sl Φ Q) : wpAny (model X.prog X.w) X.A (call (.ref f) us) (EP X pins σ' Q) X.xe s := by
  refine wpAny_call (codeAny_mono (run_D (Q := Q) (Ret := Φ) (Exc := fun cls fs st' => ∀ sl', Kx cls fs sl' st') Fn hr xk (rs_any (σ' := σ') R) rw I r hF (fun w st' v A' H' H0' q R' x' s' rr => ?_) fun cls fs st' q => q _) fun r s' q => ?_)
  · exact c w st' v A' H' H0' q ⟨R.sl.mono x' s', R'.hs, R'.fr⟩ x' s' rr
  · cases r with
    | error e => exact q
    | ok fl => cases fl <;> exact q
variable {C : Addr} {fs gs : List (Str × D)}
theorem o_own {op : Operator} (c : OpM X.prog X.w X.K X.mg X.base k C (dunder op.info.snd) F) (sf : PySem.W.selfFirst X.K C = true) (hr : RoomG j X.A) (hk : k ≤ j) (xk : XOk X G Kx)
    (h : F [.dat (.ins C fs), .dat (.ins C gs)] st Φ fun cls es st2 => ∀ sl', Kx cls es sl' st2) : OW X G (binaryOp op) sl st (.dat (.ins C fs)) (.dat (.ins C gs)) Φ := fun A σ H H0 R v1 v2 r1 r2 Q kk pins s σ' v u I rv ru => by
  obtain ⟨f, T, Fn⟩ := c
  cases r1 with
  | @ins a _ dx vs _ e1 q1 =>
  cases r2 with
  | @ins b _ dy us _ e2 q2 =>
  obtain rfl : v = Value.ref a := rv
  obtain rfl : u = Value.ref b := ru
  obtain ⟨ox, od, J, hd⟩ := insC_at I (.inr ⟨dx, vs, R.hs.le _ _ e1⟩ : StX.InsC X H a C)
  obtain ⟨oy, oe, J2, hd2⟩ := insC_at I (.inr ⟨dy, us, R.hs.le _ _ e2⟩ : StX.InsC X H b C)
  obtain ⟨m, fr⟩ := I.fr
  refine PySem.W.binop_K fr I.ok.mod.kin J J2.type sf T.at_ T.fn (wpAny_mono (run_op (vs := [.ref a, .ref b]) (ws := [.dat (.ins C fs), .dat (.ins C gs)]) Fn (hr.mono hk) xk R ⟨.ins e1 q1, .ins e2 q2, trivial⟩ I (.cons rfl (.cons rfl .nil)) h kk) (fun u s' q => cmpback q) fun _ _ q => q)
theorem o_cmpOwn {op : CmpOp} (hop : compareOp op = richCompare op) (c : OpM X.prog X.w X.K X.mg X.base k C (cmpInfo op).2.1 F) (hr : RoomG j X.A) (hk : k ≤ j) (xk : XOk X G Kx)
    (h : F [.dat (.ins C fs), .dat (.ins C gs)] st Φ fun cls es st2 => ∀ sl', Kx cls es sl' st2) : OW X G (compareOp op) sl st (.dat (.ins C fs)) (.dat (.ins C gs)) Φ := fun A σ H H0 R v1 v2 r1 r2 Q kk pins s σ' v u I rv ru => by
  obtain ⟨f, T, Fn⟩ := c
  cases r1 with
  | @ins a _ dx vs _ e1 q1 =>
  cases r2 with
  | @ins b _ dy us _ e2 q2 =>
  obtain rfl : v = Value.ref a := rv
  obtain rfl : u = Value.ref b := ru
  obtain ⟨ox, od, J, hd⟩ := insC_at I (.inr ⟨dx, vs, R.hs.le _ _ e1⟩ : StX.InsC X H a C)
  obtain ⟨oy, oe, J2, hd2⟩ := insC_at I (.inr ⟨dy, us, R.hs.le _ _ e2⟩ : StX.InsC X H b C)
  obtain ⟨m, fr⟩ := I.fr
  rw [hop]
  refine PySem.W.cmp_K (tb := .ref C) (Nat.lt_of_le_of_lt (Nat.le_add_right _ _) hr.units) fr I.ok.mod.kin J J2.type (by unfold PySem.W.notFirst; rw [beq_self_eq_true]; rfl) T.at_ T.fn (wpAny_mono (run_op (vs := [.ref a, .ref b]) (ws := [.dat (.ins C fs), .dat (.ins C gs)]) Fn (hr.mono hk) xk R ⟨.ins e1 q1, .ins e2 q2, trivial⟩ I (.cons rfl (.cons rfl .nil)) h kk) (fun u s' q => cmpback q) fun _ _ q => q)
structure NeTxt (K : PySem.W.Frag) (C : Addr) : Prop where
  ne : PySem.W.findIn K (.ref C) "__ne__" = some (some (.builtin "object.__ne__"))
  cls : ∃ nm q N bs bm hd sn sub ab col dd k0 k1 k2 k3 k5 newId, K.lookup C = some (excClassObj nm q C N bs bm hd sn sub ab col dd k0 k1 k2 k3 k5 newId) ∧ bm.contains (.type "object") = true
theorem ifBoundB {M : Model} {A : Around} {E : Value → Shared → Prop} {s : Shared} {K : PySem.W.Frag} {x C : Addr} {id : String} {ox : Obj} {od : Option Obj} {name : Str} {args : List Value} {Q : Option Value → Shared → Prop} (IX : K.In s.heap) (I : PySem.W.InstAt s.heap x ox C od) (hs : PySem.W.findIn K (.ref C) name = some (some (.builtin id)))
    (hb : ∀ self, bindSpecial (.builtin id) self = pure (.builtin id, [self])) (h : wpAny M A (call (.builtin id) (.ref x :: args)) (fun v => Q (some v)) E s) : wpAny M A (callSpecialIfBound? (.ref x) name args) Q E s := by
  have fin : wpAny M A (call (.builtin id) (.ref x :: args) >>= fun r => pure (some r)) Q E s := wpAny_bind (wpAny_mono h (fun v s' h' => wpAny_pure h') fun _ _ h' => h')
  unfold callSpecialIfBound? bindSpecialIfBound? specialOf
  refine wpAny_holding (wpAny_bind (wpAny_bind (wpAny_bind (PySem.W.Looks.here I.type (PySem.W.Looks.here (PySem.W.looks_findIn IX hs) (wpAny_bind (wpAny_askSetting ?_)))))))
  simp only [hb]
  refine wpAny_ite ?_
  split
  · exact wpAny_bind (wpAny_pure (wpAny_pure fin))
  · exact wpAny_tryCatch (wpAny_bind (wpAny_pure (wpAny_pure fin)))
theorem run_opB {B : Around} {pins : List (Addr × Obj)} {A : List Addr} {σ σ' : St} {H H0 : Hp} {s : Shared} {f : Addr} {us : List Value} {vs : List V} {ws : List W} {Q : VK} (Fn : FnG X.prog X.w X.K X.mg X.base (L2.CX X.prog X.w) k f (spD X.K F)) (hr : RoomG k B) (hf : B.frames = X.A.frames) (xk : XOk X G Kx) (R : RS X.K G A σ H H0 sl st)
    (rw : RepWs X.K A H0 vs ws) (I : Inv X pins σ' H s) (r : Vals vs us) (hF : F ws st Φ (fun cls fs st' => ∀ sl', Kx cls fs sl' st')) (c : Ct X.K G A σ H0 sl Φ Q) : wpAny (model X.prog X.w) B (call (.ref f) us) (EP X pins σ' Q) X.xe s := by
  obtain ⟨Wx, tk, hW⟩ := xk
  have R0 := rs_any (σ' := σ') R
  have e0 := I.env0
  refine wpAny_call (codeAny_mono (Fn B X.stack s H us vs Q (WE Wx σ') hr ⟨hf.trans e0.frames, e0.mod, e0.bs, e0.bsz, e0.funs, e0.frf, e0.hok, e0.bare⟩ r ⟨H0, A, ws, st, Φ, fun cls fs st' => ∀ sl', Kx cls fs sl' st', R.hs, rw, hF, fun w st' v A' H' H0' q hs fr rr => ?_, fun cls fs d vfs st' A' H' H0' q hs fr xd rf => ?_⟩) fun r s' hq => ?_)
  · exact c w st' v A' H' H0' q (R.after hs fr) fr.pre fr.old rr
  · exact hW cls fs d vfs A' σ' H' H0' _ st' (q _) (R0.after hs fr) xd rf
  · cases r with
    | error e => exact passAt tk σ' pins H s e s' I hq
    | ok fl =>
      cases fl with
      | ret u => exact I.after hq
      | next => exact False.elim hq
      | brk => exact False.elim hq
      | cont => exact False.elim hq
theorem o_neOwn (N : NeTxt X.K C) (c : OpM X.prog X.w X.K X.mg X.base k C "__eq__" F) (hr : RoomG j X.A) (hk : k + 1 ≤ j) (xk : XOk X G Kx)
    (h : F [.dat (.ins C fs), .dat (.ins C gs)] st (fun w st' => ∃ b, w = .dat (.bl b) ∧ Φ (.dat (.bl (!b))) st') fun cls es st2 => ∀ sl', Kx cls es sl' st2) : OW X G (compareOp .NotEq) sl st (.dat (.ins C fs)) (.dat (.ins C gs)) Φ := fun A σ H H0 R v1 v2 r1 r2 Q kk pins s σ' v u I rv ru => by
  obtain ⟨f, T, Fn⟩ := c
  obtain ⟨nm, q, N', bs, bm, hd, sn, sub, ab, col, dd, k0, k1, k2, k3, k5, newId, hC, hob⟩ := N.cls
  cases r1 with
  | @ins a _ dx vs _ e1 q1 =>
  cases r2 with
  | @ins b _ dy us _ e2 q2 =>
  obtain rfl : v = Value.ref a := rv
  obtain rfl : u = Value.ref b := ru
  obtain ⟨ox, od, J, hd⟩ := insC_at I (.inr ⟨dx, vs, R.hs.le _ _ e1⟩ : StX.InsC X H a C)
  obtain ⟨oy, oe, J2, hd2⟩ := insC_at I (.inr ⟨dy, us, R.hs.le _ _ e2⟩ : StX.InsC X H b C)
  have hu : X.A.units < cLine := Nat.lt_of_le_of_lt (Nat.le_add_right _ _) hr.units
  have hu1 : X.A.in1.units < cLine := Nat.lt_of_le_of_lt (by show X.A.units + 1 ≤ X.A.units + 64; omega) hr.units
  have hrB : RoomG k X.A.in1 := ⟨⟨hr.hd, by have := hr.dp; show X.A.depth + 3 * k + 5 < _; omega, by have := hr.un; show X.A.units + 1 + 16 * k + 200 < _; omega⟩, hr.gd⟩
  have one : wpAny (model X.prog X.w) X.A (tryCompare (.ref a) (Str.ofString "__ne__") (.ref b)) (fun r s' => ∃ v, r = some v ∧ EP X pins σ' Q v s') X.xe s := by
    unfold tryCompare
    refine wpAny_bind (ifBoundB I.kIn J N.ne (fun self => PySem.F.slot_object_ne.bind self) (wpAny_call (codeAny_call_builtin PySem.F.slot_object_ne.plain PySem.F.cmpEntry_ne ?_)))
    refine wpAny_check_slot_inst PySem.F.cmpKind_ne PySem.F.cmpSplit_ne (PySem.F.cmpArgs_ne _ _) hob J.at_ J.cls (I.kIn _ _ hC) ?_
    unfold Builtin.«object.__ne__» slotArgs
    refine wpAny_bind (wpAny_ite_false rfl (wpAny_ite_false rfl (wpAny_pure (wpAny_bind (wpAny_cRoomFor hu1 (wpAny_bind (PySem.W.ifBound_K I.kIn J T.at_ T.fn ?_)))))))
    refine wpAny_mono (run_opB (vs := [.ref a, .ref b]) (ws := [.dat (.ins C fs), .dat (.ins C gs)]) (Φ := fun w st' => ∃ b, w = .dat (.bl b) ∧ Φ (.dat (.bl (!b))) st') (Q := fun v H' => ∃ b, v = .bl b ∧ Q (.bl (!b)) H') Fn hrB rfl xk R ⟨.ins e1 q1, .ins e2 q2, trivial⟩ I (.cons rfl (.cons rfl .nil)) h ?_) (fun u' s' hq => ?_) fun _ _ q => q
    · intro w st' v A' H' H0' ⟨b', ew, q'⟩ R' x' s' rr
      subst ew
      cases rr
      exact ⟨b', rfl, kk _ st' _ A' H' H0' q' R' x' s' (.bl _)⟩
    · obtain ⟨v, H', I', rv', b', ev, q'⟩ := hq
      subst ev
      cases (show u' = Value.bool b' from rv')
      exact wpAny_bind (wpAny_truthy_bool (wpAny_pure (wpAny_pure ⟨_, rfl, .bl (!b'), H', I', rfl, q'⟩)))
  show wpAny _ _ (richCompare .NotEq (.ref a) (.ref b)) _ _ _
  unfold richCompare
  refine wpAny_holding (wpAny_bind (wpAny_cRoomFor hu ?_))
  refine wpAny_bind (PySem.W.Looks.here J.type (wpAny_bind (PySem.W.Looks.here J2.type ?_)))
  refine wpAny_ite_false (by simp) (wpAny_bind (wpAny_pure ?_))
  refine wpAny_ite_false rfl ?_
  refine wpAny_bind (wpAny_mono one (fun r s' hq => ?_) fun _ _ q => q)
  obtain ⟨v, rfl, q⟩ := hq
  exact wpAny_pure q
end
end Dn
namespace Dn
open PySem PySem.Spec L2 StX ClX
open PyProof.Rows hiding St
section
variable {X : Cx} {G : Ent} {e a b c o tg iter elt tg1 iter1 : Expr} {es : List Expr} {sl : Sls} {st : List Ob} {Φ : WK} {Ψ : BK} {pos p : Pos}
theorem gw_unl {kk : Nat} {ds : List D} {Γ : GK} (hc : X.calm = true) (h : GsW X G es (ds.map W.dat) sl st Γ) (hn : (assignEach es X.env).length = ds.length := by rfl) (hst : (assignEach es X.env).findIdx? (·.1) = none := by rfl) : GW X G (.Tuple es kk pos) (.dat (.lst ds)) sl st Γ := fun A σ H H0 R v r Q k => by
  cases r with
  | lst e rr => exact wpG_of (pg_unl hc pgs_wp hn hst) ⟨_, _, rfl, .inl (.inl (R.hs.le _ _ e)), rr.length, h A σ H H0 R _ (RepWs.of rr) Q k⟩
def BlkI (X : Cx) (scope : Scope) (tg iter : Expr) : TI := fun σ H R => ∀ (s : Shared) (Hb : Hp) (C : Addr) (cl : List (Str × Addr)) (fp : List Addr), wpI (X.blk s Hb scope (compEnvC scope cl C X.env) fp) tg iter σ H R
theorem blkI_pi {scope : Scope} : ∀ (s : Shared) (H : Hp) (C : Addr) (cl : List (Str × Addr)) (fp : List Addr), PI (X.blk s H scope (compEnvC scope cl C X.env) fp) tg iter (BlkI X scope tg iter) := fun s H C cl fp => ⟨fun pins sh σ Hh Q I h => h s H C cl fp pins sh I⟩
def IWb (X : Cx) (scope : Scope) (tg iter : Expr) (sl : Sls) (st : List Ob) (Θ : IK) : Prop := ∀ (G : Ent) (s : Shared) (Hb : Hp) (C : Addr) (cl : List (Str × Addr)) (fp : List Addr), IWJ (X.blk s Hb scope (compEnvC scope cl C X.env) fp) G tg iter sl st Θ
def LcJ2 (X : Cx) (G : Ent) (tg iter tg1 iter1 elt : Expr) (scope : Scope) (tb : Bool) (is : List Nat) (tb1 : Bool) (is1 : List Nat) (vs vs1 : List Nat) (sl : Sls) (st : List Ob) (fin : List D → List Ob → Prop) : Prop :=
  IWJ X G tg iter sl st fun ws st1 => ∃ I : Nat → List D → List Ob → Prop, I 0 [] st1 ∧
    (∀ i w acc st', ws[i]? = some w → I i acc st' → ∃ sl2, tset tb is w (wipeL sl vs) = some sl2 ∧ IWb X scope tg1 iter1 sl2 st' fun ws1 st2 => ∃ I1 : Nat → List D → List Ob → Prop, I1 0 acc st2 ∧
      (∀ j w1 acc1 st3, ws1[j]? = some w1 → I1 j acc1 st3 → ∃ sl3, tset tb1 is1 w1 (wipeL sl2 vs1) = some sl3 ∧ EWb X scope elt sl3 st3 fun w' st4 => ∃ d, w' = .dat d ∧ acc1.length < sizeLine ∧ I1 (j + 1) (acc1 ++ [d]) st4) ∧ (∀ acc1 st3, I1 ws1.length acc1 st3 → I (i + 1) acc1 st3)) ∧
    (∀ acc st', I ws.length acc st' → fin acc st')
theorem lc_run2 {scope : Scope} {tb tb1 : Bool} {is is1 vs vs1 : List Nat} {fin : List D → List Ob → Prop} (his : ∀ i ∈ is, i ∈ vs) (his1 : ∀ i ∈ is1, i ∈ vs1) (h : LcJ2 X G tg iter tg1 iter1 elt scope tb is tb1 is1 vs vs1 sl st fin)
    {A : List Addr} {σ : St} {H H0 : Hp} (R : RS X.K G A σ H H0 sl st) {Q : VK} (k : Ct X.K G A σ H0 sl (fun w st' => ∃ acc, w = .dat (.lst acc) ∧ fin acc st') Q) : tLc2 (wpI X tg iter) (tgt X.K tb is) tYes (BlkI X scope tg1 iter1) (tgt X.K tb1 is1) tYes (BlkE X scope elt) vs vs1 σ H Q := by
  refine h A σ H H0 R _ fun J ws st1 A1 H1 H01 ⟨I, i0, turn, fn⟩ R1 x1 s1 it => ?_
  intro Dl hD
  have h00 := R1.hs.free0 hD
  have hA0 := R1.hs.notin hD
  have hG0 : G.H Dl = none := free_in R1.fr R1.hs hD
  refine ⟨fun i m H => m = ws.length - i ∧ i ≤ ws.length ∧ ∃ A' H0' st' acc us, I i acc st' ∧ RS X.K G A' σ H H0' sl st' ∧ Ext A1 A' ∧ Same H01 H0' ∧ H Dl = some (.lst us) ∧ Reps X.K H0' us acc ∧ H0' Dl = none ∧ Dl ∉ A',
    ⟨ws.length, by simp, Nat.zero_le _, A1, H01, st1, [], [], i0, R1.fresh hD, Ext.refl _, Same.refl _, upd_same, .nil, h00, hA0⟩, ?_⟩
  rintro i m Hc ⟨rfl, hle, A', H0', st', acc, us, q, R', x', s', hDl, racc, h0D, hAD⟩
  have RL : RS X.K ⟨Hc, H0', A'⟩ A' σ Hc H0' sl st' := ⟨R'.sl, R'.hs, Fr.refl R'.hs⟩
  obtain ⟨go, stop⟩ := it i ⟨Hc, H0', A'⟩ A' σ Hc H0' sl st' RL x' s'
  have noD : ∀ {Hx H0x : Hp} {Ax : List Addr} {ux : List V} {Hn H0n : Hp} {An : List Addr}, Hx Dl = some (.lst ux) → H0x Dl = none → Dl ∉ Ax → Fr ⟨Hx, H0x, Ax⟩ An Hn H0n → H0n Dl = none ∧ Dl ∉ An ∧ Hn Dl = some (.lst ux) := fun {Hx H0x Ax ux Hn H0n An} hDl h0D hAD f => by
    refine ⟨?_, fun z => ?_, f.fr Dl _ hDl hAD⟩
    · cases z : H0n Dl with
      | none => rfl
      | some o =>
        rcases f.new Dl o z with ⟨u, e⟩ | e
        · exact absurd (h0D.symm.trans e) (by intro z; cases z)
        · exact absurd (e _ hDl) (by rintro ⟨xs, z⟩; cases z)
    · rcases f.loc Dl z with z | z
      · exact hAD z
      · exact absurd (hDl.symm.trans z) (by intro z; cases z)
  by_cases hlt : i < ws.length
  · obtain ⟨g1, g2⟩ := go hlt
    refine .inr ⟨g1, fun H' => ∃ A' H0' st' acc us, I (i + 1) acc st' ∧ RS X.K G A' σ H' H0' sl st' ∧ Ext A1 A' ∧ Same H01 H0' ∧ H' Dl = some (.lst us) ∧ Reps X.K H0' us acc ∧ H0' Dl = none ∧ Dl ∉ A', fun H' h => ⟨ws.length - (i + 1), by omega, rfl, hlt, h⟩, fun x H'' y => ?_⟩
    obtain ⟨w, H0'', hw, R2, s2, s3, rw⟩ := g2 x H'' y
    obtain ⟨sl2, hsl2, hin⟩ := turn i w acc st' hw q
    refine tgt_run (vs := vs) R2.hs.le (R2.sl.wipe vs) his rw hsl2 fun σ2 hσ2 hw2 => ⟨by rw [hw2, wipe_twice], ?_⟩
    have RB : RS X.K ⟨Hc, H0', A'⟩ A' σ2 H'' H0'' sl2 st' := ⟨hσ2, R2.hs, R2.fr⟩
    show BlkI X scope tg1 iter1 σ2 H'' _
    intro sb Hb C cl fp
    refine hin ⟨Hc, H0', A'⟩ sb Hb C cl fp A' σ2 H'' H0'' RB _ fun J1 ws1 st4 A4 H4 H04 ⟨I1, i10, turn1, fn1⟩ R4 x4 s4 it1 => ?_
    obtain ⟨n04, nA4, nH4⟩ := noD hDl h0D hAD R4.fr
    have R4' := R'.after R4.hs R4.fr
    refine ⟨fun j m H => m = ws1.length - j ∧ j ≤ ws1.length ∧ ∃ A5 H05 st5 acc5 us5, I1 j acc5 st5 ∧ RS X.K G A5 σ2 H H05 sl2 st5 ∧ Ext A4 A5 ∧ Same H04 H05 ∧ H Dl = some (.lst us5) ∧ Reps X.K H05 us5 acc5 ∧ H05 Dl = none ∧ Dl ∉ A5,
      ⟨ws1.length, by simp, Nat.zero_le _, A4, H04, st4, acc, us, i10, ⟨R4.sl, R4'.hs, R4'.fr⟩, Ext.refl _, Same.refl _, nH4, racc.mono R4.fr.old, n04, nA4⟩, ?_⟩
    rintro j m1 Hd ⟨rfl, hle1, A5, H05, st5, acc5, us5, q5, R5, x5, s5, hDl5, racc5, h0D5, hAD5⟩
    have RL5 : RS X.K ⟨Hd, H05, A5⟩ A5 σ2 Hd H05 sl2 st5 := ⟨R5.sl, R5.hs, Fr.refl R5.hs⟩
    obtain ⟨go1, stop1⟩ := it1 j ⟨Hd, H05, A5⟩ A5 σ2 Hd H05 sl2 st5 RL5 x5 s5
    by_cases hlt1 : j < ws1.length
    · obtain ⟨g1, g2⟩ := go1 hlt1
      refine .inr ⟨g1, fun H => ∃ A5 H05 st5 acc5 us5, I1 (j + 1) acc5 st5 ∧ RS X.K G A5 σ2 H H05 sl2 st5 ∧ Ext A4 A5 ∧ Same H04 H05 ∧ H Dl = some (.lst us5) ∧ Reps X.K H05 us5 acc5 ∧ H05 Dl = none ∧ Dl ∉ A5, fun H' h => ⟨ws1.length - (j + 1), by omega, rfl, hlt1, h⟩, fun x H6 y => ?_⟩
      obtain ⟨w1, H06, hw1, R6, s6, s6', rw1⟩ := g2 x H6 y
      obtain ⟨sl3, hsl3, lt⟩ := turn1 j w1 acc5 st5 hw1 q5
      refine tgt_run (vs := vs1) R6.hs.le (R6.sl.wipe vs1) his1 rw1 hsl3 fun σ3 hσ3 hw3 => ⟨by rw [hw3, wipe_twice], ?_⟩
      show BlkE X scope elt σ3 H6 _
      intro sb2 Hb2 C2 cl2 fp2
      refine lt ⟨Hd, H05, A5⟩ sb2 Hb2 C2 cl2 fp2 A5 σ3 H6 H06 ⟨hσ3, R6.hs, R6.fr⟩ _ fun w7 st7 v7 A7 H7 H07 ⟨d, ew, hz, q7⟩ R7 x7 s7 r7 => ?_
      subst ew
      obtain ⟨n0, nA, nH⟩ := noD hDl5 h0D5 hAD5 R7.fr
      have R8 : RS X.K G A7 σ2 H7 H07 sl2 st7 := R5.after R7.hs R7.fr
      exact ⟨us5, nH, by rw [racc5.length]; exact hz, A7, H07, st7, acc5 ++ [d], us5 ++ [v7], q7, R8.poke n0 nA hG0, x5.trans R7.fr.pre, s5.trans R7.fr.old, upd_same, (racc5.mono R7.fr.old).append (.cons r7 .nil), n0, nA⟩
    · have e : j = ws1.length := by omega
      refine .inl ⟨stop1 e, A5, H05, st5, acc5, us5, fn1 _ _ (by rw [← e]; exact q5), ⟨R'.sl.mono (R4.fr.pre.trans x5) (R4.fr.old.trans s5), R5.hs, R5.fr⟩, x'.trans (R4.fr.pre.trans x5), s'.trans (R4.fr.old.trans s5), hDl5, racc5, h0D5, hAD5⟩
  · have e : i = ws.length := by omega
    refine .inl ⟨stop e, ?_⟩
    have s0 : Same H0' (upd H0' Dl (.lst us)) := same_upd h0D
    exact k _ st' _ A' Hc _ ⟨acc, rfl, fn acc st' (by rw [← e]; exact q)⟩ (R'.join hDl h0D hAD (fresh0_none hG0)) (x1.trans x') ((s1.trans s').trans s0) (.lst upd_same (racc.mono s0))
theorem ew_lc2 {own : List (Str × Nat)} {scope : Scope} {tb tb1 : Bool} {is is1 vs1 : List Nat} (hc : X.calm = true) (hN : X.N.Nodup) (ok : BlkOk X.N X.env.scope scope own) (ht : TgOk X tg scope tb is) (ht1 : TgOk X tg1 scope tb1 is1) (his : ∀ i ∈ is, i ∈ own.map (·.2)) (his1 : ∀ i ∈ is1, i ∈ vs1) (hv1 : ∀ i ∈ vs1, i ∈ own.map (·.2))
    (h : LcJ2 X G tg iter tg1 iter1 elt scope tb is tb1 is1 (own.map (·.2)) vs1 sl st fun acc st' => Φ (.dat (.lst acc)) st')
    (hs : ∀ x, foldedSetIterable iter X.env x = pure x := by intro _; rfl) (hs1 : ∀ env x, foldedSetIterable iter1 env x = pure x := by intro _ _; rfl) : EW X G (.ListComp elt [⟨tg, iter, [], 0⟩, ⟨tg1, iter1, [], 0⟩] scope pos) sl st Φ := fun A σ H H0 R Q k =>
  wpE_of (pe_lc2 hc hN pi_wp ok hv1 ht (fun _ _ _ _ _ => pts_nil) blkI_pi ht1 (fun _ _ _ _ _ => pts_nil) blkE_pe hs hs1) (lc_run2 his his1 h R fun w st' v A' H' H0' ⟨acc, ew, q⟩ => by subst ew; exact k _ st' v A' H' H0' q)
end
end Dn
namespace Dn
open PySem PySem.Spec L2 StX ClX
open PyProof.Rows hiding St
section
variable {X : Cx} {G : Ent} {e a b c o : Expr} {es : List Expr} {sl : Sls} {st : List Ob} {Φ : WK} {Ψ : BK} {pos p apos cpos : Pos} {E : KE}
theorem ew_extend (h : EW X G o sl st fun w1 st1 => ∃ j ys, w1 = .ptr j ∧ st1[j]? = some (.lst ys) ∧ EW X G e sl st1 fun w2 st2 => ∃ xs ds, w2 = .dat (.lst ds) ∧ st2[j]? = some (.lst xs) ∧ xs.length + ds.length ≤ sizeLine ∧ Φ (.dat .non) (st2.set j (.lst (xs ++ ds.map W.dat))))
    (hbase : attributeBase o "extend" X.env (eval o X.env) = eval o X.env := by rfl)
    (hfew : ((backTo cpos (starEach (e :: []) X.env)).all (fun x => !x.1) && (backToKw cpos (keywordEach [] X.env)).all (fun x => x.1.isSome)
      && decide ((e :: ([] : List Expr)).length + ([] : List Keyword).length + (if ([] : List Keyword).isEmpty then 0 else 1) < 30)) = true := by rfl)
    (hline : (apos.endLine == cpos.line) = true := by rfl) (hs : starEach (e :: []) X.env = (false, eval e X.env) :: starEach [] X.env := by rfl) (hplain : (backTo cpos (starEach [] X.env)).any (·.1) = false := by rfl) : EW X G (.Call (.Attribute o "extend" apos) [e] [] cpos) sl st Φ := fun A σ H H0 R Q k =>
  wpE_of (pe_bm PySem.F.plainAttrs_list PySem.F.slot_list_extend PySem.F.type_list_extend mt_extend pe_wp (pa_cons pe_wp pa_nil hs) hbase hfew hline hs hplain) (h A σ H H0 R _ fun w1 st1 v1 A1 H1 H01 ⟨j, ys, ew, hy, q⟩ R1 x1 s1 r1 => by
    subst ew
    obtain ⟨ad, ha, h0, vs, he, rr⟩ := R1.at hy
    obtain ⟨a', ha', rfl⟩ := r1
    have : a' = ad := Option.some.inj (ha'.symm.trans ha)
    subst this
    refine ⟨.inl ⟨rfl, vs, .inl (.inl he)⟩, q A1 σ H1 H01 R1 _ fun w2 st2 v2 A2 H2 H02 ⟨xs, ds, ew2, hx, hz, q2⟩ R2 x2 s2 r2 => ?_⟩
    subst ew2
    cases r2 with
    | @lst ad3 us _ e3 q3 =>
      obtain ⟨ad2, ha2, h02, vs2, he2, rr2⟩ := R2.at hx
      have : ad2 = a' := Option.some.inj (ha2.symm.trans (x2.get ha))
      subst this
      refine ⟨_, ad3, vs2, us, rfl, rfl, he2, R2.hs.le _ _ e3, by rw [rr2.length, q3.length]; exact hz, ?_⟩
      exact k _ _ _ A2 _ H02 q2 (R2.write ha2 hx h02 ⟨h02, _, upd_same, rr2.append (RepWs.of q3)⟩) (x1.trans x2) (s1.trans s2) .non)
theorem sw_par3 (i j l : Nat) {x y z : Str} {px py pz pt : Pos} {kt k2 pt2} (hc : X.calm = true) (h : AW X G [a, b, c] sl st fun ws st1 => ∃ w1 w2 w3, ws = [w1, w2, w3] ∧ E.nx (((sl.set i (some w1)).set j (some w2)).set l (some w3)) st1) (hN : X.N.Nodup) (hi : X.N[i]? = some x := by rfl) (hj : X.N[j]? = some y := by rfl) (hl : X.N[l]? = some z := by rfl) (hij : i ≠ j := by decide) (hil : i ≠ l := by decide) (hjl : j ≠ l := by decide)
    (hx : X.env.scope.names.lookup x = some .local := by rfl) (hy : X.env.scope.names.lookup y = some .local := by rfl) (hz : X.env.scope.names.lookup z = some .local := by rfl) (hst : swappedStores [Expr.Tuple [Expr.Name x px, Expr.Name y py, Expr.Name z pz] kt pt] (Expr.Tuple [a, b, c] k2 pt2) X.env = pure (some [x, y, z]) := by rfl) : SW1 X G (.Assign [.Tuple [.Name x px, .Name y py, .Name z pz] kt pt] (.Tuple [a, b, c] k2 pt2) pos) sl st E := fun A σ H H0 R D k =>
  wpS_of (ps_par3 hc hN hi hj hl hij hil hjl hx hy hz pa_wp hst) (h A σ H H0 R _ fun ws st1 vs A1 H1 H01 ⟨w1, w2, w3, ew, q⟩ R1 x1 s1 r1 => by
    subst ew
    match vs, r1 with
    | [v1, v2, v3], r1 => exact ⟨v1, v2, v3, rfl, k.nx A1 _ H1 H01 _ st1 q (((R1.set r1.1 i).set r1.2.1 j).set r1.2.2.1 l) x1 s1⟩)
end
end Dn
namespace Dn
open PySem PySem.Spec L2 StX ClX
open PyProof.Rows hiding St
theorem fillsI_no {M : Model} {K : PySem.W.Frag} {C : Addr} {nm : String} {h : Heap} {cd : ClassData} {add : Bool} (X : K.In h) (hc : PySem.W.clsIn K C = some cd) (hm : cd.mro = [.ref C, .type "object"]) (h1 : PySem.W.findIn K (.ref C) (dunderI nm) = some none) (h2 : PySem.W.findIn K (.type "object") (dunderI nm) = some none) :
    PySem.W.Looks M h (fillsInplaceSlot (.ref C) nm add) false := fun A Q E s k q => by
  have X' : K.In s.heap := PySem.W.Frag.In.keeps X k
  have Lm : PySem.W.Looks M s.heap (mroOf (.ref C)) cd.mro := (PySem.W.Looks.andThen (f := fun cd => pure cd.mro) (PySem.W.looks_clsIn X hc) PySem.W.Looks.now).keeps k
  unfold fillsInplaceSlot
  refine wpAny_bind (PySem.W.Looks.here Lm ?_)
  rw [hm, List.anyM_cons]
  refine wpAny_bind (wpAny_bind (PySem.W.Looks.here (PySem.W.looks_findIn X' h1) (wpAny_pure ?_)))
  rw [List.anyM_cons]
  refine wpAny_bind (wpAny_bind (PySem.W.Looks.here (PySem.W.looks_findIn X' h2) (wpAny_pure ?_)))
  exact wpAny_pure q
theorem bin1_K {A : Around} {E : Value → Shared → Prop} {s : Shared} {K : PySem.W.Frag} {x C f : Addr} {ox : Obj} {od : Option Obj} {prog : Program} {w : World} {nm : String} {b : Value} {cd : ClassData} {rest : List Value} {Q : Value → Shared → Prop} (X : K.In s.heap) (I : PySem.W.InstAt s.heap x ox C od) (hb : PySem.W.Looks (model prog w) s.heap (typeOf b) (.ref C))
    (hc : PySem.W.clsIn K C = some cd) (hm : cd.mro = .ref C :: rest) (hs : PySem.W.findIn K (.ref C) (dunder nm) = some (some (.ref f))) (hf : PySem.W.isFn K (.ref f) = true) (h : wpAny (model prog w) A (call (.ref f) [.ref x, b]) (PySem.W.CmpBack Q) E s) :
    wpAny (model prog w) A (binaryOp1 nm (.ref x) b) (fun r s' => ∃ v, r = some v ∧ Q v s') E s := by
  unfold binaryOp1
  refine wpAny_bind (PySem.W.Looks.here I.type (wpAny_bind (PySem.W.Looks.here hb (wpAny_bind (PySem.W.Looks.here (PySem.W.fills_K X hc hm hs) ?_)))))
  refine wpAny_ite_true (by simp) (wpAny_bind (wpAny_pure ?_))
  refine wpAny_ite_false rfl ?_
  refine wpAny_ite_false rfl ?_
  refine wpAny_ite_false rfl ?_
  refine wpAny_bind (wpAny_pure ?_)
  refine wpAny_ite_false rfl ?_
  refine wpAny_ite_true rfl ?_
  refine wpAny_bind (wpAny_mono (PySem.W.ksp_try X I hs hf h) (fun r s' hq => ?_) fun _ _ q => q)
  obtain ⟨v, rfl, q⟩ := hq
  exact wpAny_pure ⟨v, rfl, q⟩
structure IopTxt (K : PySem.W.Frag) (C : Addr) (nm : String) : Prop where
  cls : ∃ nm q N bs hd sn sub ab col dd k0 k1 k2 k3 k5 newId, K.lookup C = some (excClassObj nm q C N bs [.type "object"] hd sn sub ab col dd k0 k1 k2 k3 k5 newId)
  own : PySem.W.findIn K (.ref C) (dunderI nm) = some none
  obj : PySem.W.findIn K (.type "object") (dunderI nm) = some none
section
variable {X : Cx} {G : Ent} {sl : Sls} {st : List Ob} {Φ : WK} {Kx : XKS} {F : FT} {k j : Nat} {C : Addr} {fs gs : List (Str × D)}
theorem o_iown {op : Operator} (T1 : IopTxt X.K C op.info.snd) (c : OpM X.prog X.w X.K X.mg X.base k C (dunder op.info.snd) F) (hr : RoomG j X.A) (hk : k ≤ j) (xk : XOk X G Kx)
    (h : F [.dat (.ins C fs), .dat (.ins C gs)] st Φ fun cls es st2 => ∀ sl', Kx cls es sl' st2) : OW X G (inplaceOp op) sl st (.dat (.ins C fs)) (.dat (.ins C gs)) Φ := fun A σ H H0 R v1 v2 r1 r2 Q kk pins s σ' v u I rv ru => by
  obtain ⟨f, T, Fn⟩ := c
  obtain ⟨nm, q, N', bs, hdc, sn, sub, ab, col, dd, k0, k1, k2, k3, k5, newId, hC⟩ := T1.cls
  cases r1 with
  | @ins a _ dx vs _ e1 q1 =>
  cases r2 with
  | @ins b _ dy us _ e2 q2 =>
  obtain rfl : v = Value.ref a := rv
  obtain rfl : u = Value.ref b := ru
  obtain ⟨ox, od, J, hd⟩ := insC_at I (.inr ⟨dx, vs, R.hs.le _ _ e1⟩ : StX.InsC X H a C)
  obtain ⟨oy, oe, J2, hd2⟩ := insC_at I (.inr ⟨dy, us, R.hs.le _ _ e2⟩ : StX.InsC X H b C)
  have hcl : PySem.W.clsIn X.K C = some { name := nm, bases := bs, mro := [.ref C, .type "object"], ns := N', qualname := q, hasDict := hdc, slotNames := sn, subclasses := sub, abstract := ab, collection := col } := by
    unfold PySem.W.clsIn
    rw [hC]
  have one := bin1_K (nm := op.info.snd) I.kIn J J2.type hcl rfl T.at_ T.fn (wpAny_mono (run_op (vs := [.ref a, .ref b]) (ws := [.dat (.ins C fs), .dat (.ins C gs)]) Fn (hr.mono hk) xk R ⟨.ins e1 q1, .ins e2 q2, trivial⟩ I (.cons rfl (.cons rfl .nil)) h kk) (fun u s' q => cmpback q) fun _ _ q => q)
  unfold inplaceOp
  refine wpAny_holding (wpAny_bind (PySem.W.Looks.here J.type (wpAny_bind (PySem.W.Looks.here (fillsI_no I.kIn hcl rfl T1.own T1.obj) ?_))))
  refine wpAny_ite_false rfl ?_
  refine wpAny_bind (wpAny_mono one (fun r s' hq => ?_) fun _ _ q => q)
  obtain ⟨v, rfl, q⟩ := hq
  exact wpAny_pure q
end
end Dn
namespace Dn
open PySem PySem.Spec L2 StX ClX
open PyProof.Rows hiding St
section
variable {X : Cx} {G : Ent} {e a b c o tg iter elt : Expr} {es : List Expr} {sl : Sls} {st : List Ob} {Φ : WK} {Ψ : BK} {pos p : Pos} {scope : Scope} {tb : Bool} {is vs : List Nat} {fin : List D → List Ob → Prop}
theorem c_maxL {ns : List Int} (hc : X.calm = true) (hn : 0 < ns.length) (h : ∀ m ∈ ns, (∀ y ∈ ns, y ≤ m) → Φ (.dat (.int m)) st) : CW X G (.builtin "max") sl st [.dat (.lst (ns.map D.int))] Φ := cw_of (cr_max hc) fun A σ H H0 R vs rw Q k => by
  obtain ⟨v, rfl, r⟩ := rep1 rw
  cases r with
  | @lst ad us _ eh rr =>
    have e := reps_int rr
    subst e
    refine ⟨ad, ns, rfl, .inl (.inl (R.hs.le _ _ eh)), hn, fun m hm hle => ?_⟩
    exact k _ st _ A _ _ (h m hm hle) R (Ext.refl _) (Same.refl _) (.int _)
theorem c_minL {ns : List Int} (hc : X.calm = true) (hn : 0 < ns.length) (h : ∀ m ∈ ns, (∀ y ∈ ns, m ≤ y) → Φ (.dat (.int m)) st) : CW X G (.builtin "min") sl st [.dat (.lst (ns.map D.int))] Φ := cw_of (cr_min hc) fun A σ H H0 R vs rw Q k => by
  obtain ⟨v, rfl, r⟩ := rep1 rw
  cases r with
  | @lst ad us _ eh rr =>
    have e := reps_int rr
    subst e
    refine ⟨ad, ns, rfl, .inl (.inl (R.hs.le _ _ eh)), hn, fun m hm hle => ?_⟩
    exact k _ st _ A _ _ (h m hm hle) R (Ext.refl _) (Same.refl _) (.int _)
end
end Dn
namespace Dn
open PySem PySem.Spec L2 StX ClX
open PyProof.Rows hiding St
section
variable {X : Cx} {G : Ent} {e a b c o tg iter elt : Expr} {ss : List Stmt} {sl : Sls} {st : List Ob} {E : KE}
theorem sw_frz (i : Nat) {j : Nat} {xs : List D} (hi : sl[i]? = some (some (.ptr j))) (hj : st[j]? = some (.lst (xs.map W.dat))) (hg : G.A.length ≤ j) (h : SW X G ss (sl.set i (some (.dat (.lst xs)))) (st.set j .gone) E) : SW X G ss sl st E := fun A σ H H0 R D k => by
  obtain ⟨ad, ha, h0, vs, he, rr⟩ := R.at hj
  obtain ⟨v, hv, r⟩ := R.sl.2 i _ hi
  obtain ⟨a', ha', rfl⟩ := r
  have : a' = ad := Option.some.inj (ha'.symm.trans ha)
  subst this
  have gx : G.H a' = none := by
    rcases R.fr.loc a' (List.mem_of_getElem? ha) with z | z
    · exfalso
      obtain ⟨i, hi, e⟩ := List.mem_iff_getElem.mp z
      have h1 := R.fr.pre.get (List.getElem?_eq_getElem hi)
      rw [e] at h1
      have h2 := List.getElem?_eq_some_iff.mp h1
      have h3 := List.getElem?_eq_some_iff.mp ha
      have := (List.getElem_inj R.hs.nd).mp (h2.2.trans h3.2.symm)
      omega
    · exact z
  have s0 : Same H0 (upd H0 a' (.lst vs)) := same_upd h0
  have R' := R.freeze ha hj he h0 gx
  refine h A σ H _ ⟨⟨by rw [List.length_set]; exact R'.sl.1, fun q w hq => ?_⟩, R'.hs, R'.fr⟩ D (k.mv (Ext.refl _) s0)
  by_cases hk : i = q
  · subst hk
    have hl := (List.getElem?_eq_some_iff.mp hi).1
    rw [List.getElem?_set_self hl] at hq
    cases hq
    exact ⟨_, hv, .lst upd_same (rr.dats.mono s0)⟩
  · rw [List.getElem?_set_ne hk] at hq
    exact R'.sl.2 q w hq
end
end Dn
namespace Dn
open PySem PySem.Spec L2 StX ClX
open PyProof.Rows hiding St
section
variable {X : Cx} {G : Ent} {sl : Sls} {st : List Ob} {Φ : WK} {j : Nat}
theorem o_ltT {xs ys : List Int} (hr : RoomG j X.A) (h : Φ (.dat (.bl (HT.lexLt xs ys))) st) : OW X G (compareOp .Lt) sl st (.dat (.tup (xs.map D.int))) (.dat (.tup (ys.map D.int))) Φ := ow_of (op_ltT (Nat.lt_of_le_of_lt (Nat.le_add_right _ _) hr.units)) fun A σ H H0 R v1 v2 r1 r2 Q k => by
  obtain ⟨ad, us, rfl, h1, rr⟩ := rep_tup r1
  obtain ⟨ad2, us2, rfl, h2, rr2⟩ := rep_tup r2
  have e := reps_int rr
  have e2 := reps_int rr2
  subst e e2
  exact ⟨ad, ad2, xs, ys, rfl, rfl, h1 _ R.hs.le, h2 _ R.hs.le, k _ st _ A _ _ h R (Ext.refl _) (Same.refl _) (.bl _)⟩
end
end Dn
namespace Dn
open PySem PySem.Spec L2 StX ClX
open PyProof.Rows hiding St
mutual
theorem toPy_reads {P : Program} {w : World} {K : PySem.W.Frag} {H : Hp} {h : Heap} (ok : HOk P w H h) (kin : K.In h) : ∀ (d : D) (v : V) (u : Value) (p : PyData), Rep K H v d → RelV v u → toPy d = some p → ∃ as, Reads h u p as
  | .non, _, _, _, r, ru, e => by cases r; cases (show _ = Value.none from ru); simp only [toPy, Option.some.injEq] at e; subst e; exact ⟨_, .none⟩
  | .bl b, _, _, _, r, ru, e => by cases r; cases (show _ = Value.bool b from ru); simp only [toPy, Option.some.injEq] at e; subst e; exact ⟨_, .bool b⟩
  | .int b, _, _, _, r, ru, e => by cases r; obtain ⟨t, rfl⟩ := ru; simp only [toPy, Option.some.injEq] at e; subst e; exact ⟨_, .int b t⟩
  | .str b, _, _, _, r, ru, e => by cases r; obtain ⟨t, rfl⟩ := ru; simp only [toPy, Option.some.injEq] at e; subst e; exact ⟨_, .str b t⟩
  | .lst xs, _, _, _, r, ru, e => by
    cases r with
    | @lst a vs _ ea rr =>
      cases (show _ = Value.ref a from ru)
      simp only [toPy] at e
      obtain ⟨ps, h1, h2⟩ := Option.map_eq_some_iff.mp e
      subst h2
      obtain ⟨_, its, n, rv, at_⟩ := ok a _ ea
      obtain ⟨as, z⟩ := toPys_reads ok kin xs vs its ps rr rv h1
      exact ⟨_, .list at_ rfl rfl z⟩
  | .tup xs, _, _, _, r, ru, e => by
    cases r with
    | @tup a vs _ ea rr =>
      cases (show _ = Value.ref a from ru)
      simp only [toPy] at e
      obtain ⟨ps, h1, h2⟩ := Option.map_eq_some_iff.mp e
      subst h2
      obtain ⟨_, its, rv, o, at_, hc, n, hd⟩ := ok a _ ea
      obtain ⟨as, z⟩ := toPys_reads ok kin xs vs its ps rr rv h1
      exact ⟨_, .tuple at_ hc hd z⟩
    | tupK l c d =>
      cases (show _ = Value.ref _ from ru)
      simp only [toPy] at e
      obtain ⟨ps, h1, h2⟩ := Option.map_eq_some_iff.mp e
      subst h2
      simp only [toPys, Option.some.injEq] at h1
      subst h1
      exact ⟨_, .tuple (kin _ _ l) c d .nil⟩
  | .ins _ _, _, _, _, _, _, h => by simp [toPy] at h
  | .scr _, _, _, _, _, _, h => by simp [toPy] at h
  | .adr _, _, _, _, _, _, h => by simp [toPy] at h
  | .ty _, _, _, _, _, _, h => by simp [toPy] at h
  | .err _ _ _ _, _, _, _, _, _, h => by simp [toPy] at h
theorem toPys_reads {P : Program} {w : World} {K : PySem.W.Frag} {H : Hp} {h : Heap} (ok : HOk P w H h) (kin : K.In h) : ∀ (ds : List D) (vs : List V) (us : List Value) (ps : List PyData), Reps K H vs ds → Vals vs us → toPys ds = some ps → ∃ as, ReadsAll h us ps as
  | [], _, _, _, r, ru, e => by cases r; cases ru; simp only [toPys, Option.some.injEq] at e; subst e; exact ⟨_, .nil⟩
  | d :: ds, _, _, _, r, ru, e => by
    cases r with
    | cons r rr =>
      cases ru with
      | cons a b =>
        simp only [toPys] at e
        cases e1 : toPy d with
        | none => rw [e1] at e; cases e
        | some p =>
          rw [e1] at e
          obtain ⟨ps, h1, h2⟩ := Option.map_eq_some_iff.mp e
          subst h2
          obtain ⟨as, z1⟩ := toPy_reads ok kin d _ _ p r a e1
          obtain ⟨bs, z2⟩ := toPys_reads ok kin ds _ _ ps rr b h1
          exact ⟨_, .cons z1 z2⟩
end
mutual
theorem toPy_nodict : ∀ (d : D) (p : PyData), toPy d = some p → p.hasDict = false
  | .non, _, e => by simp only [toPy, Option.some.injEq] at e; subst e; rfl
  | .bl _, _, e => by simp only [toPy, Option.some.injEq] at e; subst e; rfl
  | .int _, _, e => by simp only [toPy, Option.some.injEq] at e; subst e; rfl
  | .str _, _, e => by simp only [toPy, Option.some.injEq] at e; subst e; rfl
  | .lst xs, _, e => by
    simp only [toPy] at e
    obtain ⟨ps, h1, h2⟩ := Option.map_eq_some_iff.mp e
    subst h2
    simp only [PyData.hasDict]
    exact toPys_nodict xs ps h1
  | .tup xs, _, e => by
    simp only [toPy] at e
    obtain ⟨ps, h1, h2⟩ := Option.map_eq_some_iff.mp e
    subst h2
    simp only [PyData.hasDict]
    exact toPys_nodict xs ps h1
  | .ins _ _, _, h => by simp [toPy] at h
  | .scr _, _, h => by simp [toPy] at h
  | .adr _, _, h => by simp [toPy] at h
  | .ty _, _, h => by simp [toPy] at h
  | .err _ _ _ _, _, h => by simp [toPy] at h
theorem toPys_nodict : ∀ (ds : List D) (ps : List PyData), toPys ds = some ps → PyData.hasDictAll ps = false
  | [], _, e => by simp only [toPys, Option.some.injEq] at e; subst e; rfl
  | d :: ds, _, e => by
    simp only [toPys] at e
    cases e1 : toPy d with
    | none => rw [e1] at e; cases e
    | some p =>
      rw [e1] at e
      obtain ⟨ps, h1, h2⟩ := Option.map_eq_some_iff.mp e
      subst h2
      simp only [PyData.hasDictAll, toPy_nodict d p e1, toPys_nodict ds ps h1, Bool.or_false]
end
structure Shows (d : D) (p : PyData) : Prop where
  py : toPy d = some p
  ok : p.showable = true
  dp : p.depth ≤ 20
  sz : p.shown.length ≤ sizeLine
section
variable {X : Cx} {G : Ent} {sl : Sls} {st : List Ob} {Φ : WK} {j : Nat}
theorem c_repr {d : D} {p : PyData} (hr : RoomG j X.A) (S : Shows d p) (h : Φ (.dat (.str p.shown)) st) : CW X G (.builtin "repr") sl st [.dat d] Φ := fun A σ H H0 R vs rw Q k pins s σ us I r => by
  obtain ⟨v, rfl, rr⟩ := rep1 rw
  obtain ⟨u, rfl, ru⟩ := L2.vals1 r
  have fin : ∀ (h' : Heap) (t tk : Nat), (∀ b o, s.heap.get? b = some o → h'.get? b = some o) → EP X pins σ Q (.str p.shown t) { s with heap := h', toks := tk } := fun h' t tk kp =>
    ⟨.str p.shown, H, I.kept (t' := tk) kp, ⟨t, rfl⟩, k _ st _ A H H0 h R (Ext.refl _) (Same.refl _) (.str _)⟩
  have rr0 : Rep X.K H v d := Rep.mono rr R.hs.le
  obtain ⟨as, rd⟩ := toPy_reads I.hok I.kIn d v u p rr0 ru S.py
  have nd := toPy_nodict d p S.py
  cases rd with
  | none => exact PySem.P.repr_of_none (fin _ _ _ fun _ _ e => e)
  | bool b => exact PySem.P.repr_of_bool (fin _ _ _ fun _ _ e => e)
  | int i t => exact PySem.P.repr_of_int (by have := S.ok; simpa [PyData.showable] using this) (fin _ _ _ fun _ _ e => e)
  | str x t => exact PySem.P.repr_of_str (fin _ _ _ fun _ _ e => e) S.sz
  | list h1 h2 h3 h4 => exact repr_of_reads' (.list h1 h2 h3 h4) S.ok (fun z => by rw [nd] at z; cases z) hr.gd (by have := S.dp; have := hr.units; omega) (fun _ _ e => e) fin S.sz
  | tuple h1 h2 h3 h4 => exact repr_of_reads' (.tuple h1 h2 h3 h4) S.ok (fun z => by rw [nd] at z; cases z) hr.gd (by have := S.dp; have := hr.units; omega) (fun _ _ e => e) fin S.sz
  | dict _ _ _ _ _ => cases nd
end
theorem Shows.of {d : D} {p : PyData} (h : toPy d = some p) (h1 : p.showable = true) (h2 : p.depth ≤ 20) (h3 : p.leavesShort 20 = true) (h4 : p.weight ≤ 2 ^ 16) : Shows d p := ⟨h, h1, h2, by
  have z := PyData.shown_le 20 (by decide) p h3
  have e : (2 : Nat) ^ 16 = 65536 := by decide
  rw [sizeLine_eq]
  omega⟩
theorem int_short {i : Int} (h : i.natAbs < 10 ^ 19) : (PyData.int i).leavesShort 20 = true := by
  have e := int_text_length_le10 (k := 19) (by decide) h
  simp only [PyData.leavesShort, PyData.shown]
  refine decide_eq_true ?_
  rw [PySem.ofString_length]
  exact e
theorem int_shows {i : Int} (h : i.natAbs < 10 ^ 19) : (PyData.int i).showable = true := by
  simp only [PyData.showable, decide_eq_true_eq]
  refine log2_small (Nat.lt_trans h ?_)
  exact Nat.lt_of_lt_of_le (show 10 ^ 19 < 2 ^ 64 by decide) (Nat.pow_le_pow_right (by decide) (by decide))
end Dn
namespace Dn
open PySem PySem.Spec L2 StX ClX
open PyProof.Rows hiding St
section
variable {X : Cx} {G : Ent} {sl : Sls} {st : List Ob} {Φ : WK} {Kx : XKS} {F : FT} {k j : Nat} {C : Addr} {fs : List (Str × D)}
theorem c_lenOwn (c : OpM X.prog X.w X.K X.mg X.base k C "__len__" F) (hr : RoomG j X.A) (hk : k + 1 ≤ j) (xk : XOk X G Kx)
    (h : F [.dat (.ins C fs)] st (fun w st' => ∃ n : Int, w = .dat (.int n) ∧ 0 ≤ n ∧ n < 2 ^ 63 ∧ Φ (.dat (.int n)) st') fun cls es st2 => ∀ sl', Kx cls es sl' st2) : CW X G (.builtin "len") sl st [.dat (.ins C fs)] Φ := fun A σ H H0 R vs rw Q kk pins s σ' us I r => by
  obtain ⟨f, T, Fn⟩ := c
  obtain ⟨v, rfl, r1⟩ := rep1 rw
  obtain ⟨u, rfl, ru⟩ := L2.vals1 r
  have r1' : Rep X.K H0 v (.ins C fs) := r1
  cases r1' with
  | @ins a _ dx vs _ e1 q1 =>
  obtain rfl : u = Value.ref a := ru
  obtain ⟨ox, od, J, hd⟩ := insC_at I (.inr ⟨dx, vs, R.hs.le _ _ e1⟩ : StX.InsC X H a C)
  have room : RoomG k X.A.in1 := (hr.mono hk).in1
  refine PySem.Calls.call_function_entry kind_len plain_len entry_len (args_len1 _) ?_
  unfold Builtin.«len»
  refine wpAny_bind (m := oneArg "len" _) (wpAny_pure ?_)
  refine wpAny_bind (m := callSpecial? (.ref a) (PySem.Str.ofString "__len__")) ?_
  unfold callSpecial? specialOf
  refine wpAny_bind (wpAny_bind (PySem.W.Looks.here J.type (PySem.W.Looks.here (PySem.W.looks_findIn I.kIn T.at_) ?_)))
  refine wpAny_holding (wpAny_bind ((PySem.W.bind_fn I.kIn _ (beq_iff_eq.mp T.fn)).here ?_))
  have z := run_opB (B := X.A.in1) (vs := [.ref a]) (ws := [.dat (.ins C fs)]) (Φ := fun w st' => ∃ n : Int, w = .dat (.int n) ∧ 0 ≤ n ∧ n < 2 ^ 63 ∧ Φ (.dat (.int n)) st') (Q := fun v H' => ∃ n, v = .int n ∧ 0 ≤ n ∧ n < 2 ^ 63 ∧ Q (.int n) H') Fn room rfl xk R ⟨.ins e1 q1, trivial⟩ I (.cons rfl .nil) h fun w st' v A' H' H0' ⟨n, ew, h0, h1, q'⟩ R' x' s' rr => by
    subst ew
    cases rr
    exact ⟨n, rfl, h0, h1, kk _ st' _ A' H' H0' q' R' x' s' (.int _)⟩
  refine wpAny_bind (wpAny_mono z (fun u' s' hq => ?_) fun _ _ q => q)
  obtain ⟨v, H', I', rv', n, ev, h0, h1, q'⟩ := hq
  subst ev
  obtain ⟨t, rfl⟩ := rv'
  refine wpAny_pure ?_
  refine wpAny_bind (wpAny_holding (wpAny_pure ?_))
  refine wpAny_bind (wpAny_letGo ?_)
  show wpAny _ _ (if n < 0 then _ else _) _ _ _
  rw [if_neg (by omega)]
  show wpAny _ _ (if n ≥ 2 ^ 63 then _ else _) _ _ _
  rw [if_neg (by omega)]
  exact wpAny_bind (wpAny_mkInt (wpAny_pure ⟨_, rfl, .int n, H', I'.tok _, ⟨_, rfl⟩, q'⟩))
end
end Dn
namespace Dn
open PySem PySem.Spec L2 StX ClX
open PyProof.Rows hiding St
theorem zip_filter {α β : Type} (f : α → Bool) (g : α → β) : ∀ xs : List α, (((xs.map f).zip (xs.map g)).filter (·.1)).map (·.2) = (xs.filter f).map g
  | [] => rfl
  | x :: xs => by
    have ih := zip_filter f g xs
    rw [List.map_cons, List.map_cons, List.zip_cons_cons, List.filter_cons, List.filter_cons]
    cases h : f x with
    | true => simp [ih]
    | false => simpa using ih
section
variable {X : Cx} {G : Ent} {tg iter elt c : Expr} {sl : Sls} {st : List Ob} {scope : Scope} {tb : Bool} {is vs : List Nat} {fin : List D → List Ob → Prop}
theorem lcj_mapF {α : Type} (xs : List α) (r : α → D) (f : α → Bool) (g : α → D) (hz : xs.length < sizeLine) (hi : IWJ X G tg iter sl st fun ws st1 => st1 = st ∧ ws = (xs.map r).map W.dat)
    (turn : ∀ x ∈ xs, ∃ sl2, tset tb is (.dat (r x)) (wipeL sl vs) = some sl2 ∧ TWb X scope c sl2 st fun b st' => b = f x ∧ st' = st ∧ (f x = true → EWb X scope elt sl2 st fun w st' => w = .dat (g x) ∧ st' = st)) (hf : fin ((xs.filter f).map g) st) : LcJ X G tg iter [c] elt scope tb is vs sl st fin := by
  refine lcj_filter (xs.map f) (xs.map g) (by rw [List.length_map]; exact hz) (by rw [List.length_map, List.length_map]) ?_ (by rw [zip_filter]; exact hf)
  intro A σ H H0 R Rr k
  refine hi A σ H H0 R Rr fun J ws st1 A1 H1 H01 ⟨e1, e2⟩ => k J ws st1 A1 H1 H01 ⟨e1, ?_, fun i w b y hw hb hy => ?_⟩
  · rw [e2]
    simp
  · rw [e2] at hw
    rw [List.map_map, List.getElem?_map] at hw
    rw [List.getElem?_map] at hb hy
    obtain ⟨x, hx, rfl⟩ := Option.map_eq_some_iff.mp hw
    rw [hx] at hb hy
    cases hb
    cases hy
    obtain ⟨sl2, h1, h2⟩ := turn x (List.mem_of_getElem? hx)
    exact ⟨sl2, h1, h2⟩
theorem lcj_map {α : Type} (xs : List α) (r : α → D) (g : α → D) (hz : xs.length < sizeLine) (hi : IWJ X G tg iter sl st fun ws st1 => st1 = st ∧ ws = (xs.map r).map W.dat)
    (turn : ∀ x ∈ xs, ∃ sl2, tset tb is (.dat (r x)) (wipeL sl vs) = some sl2 ∧ EWb X scope elt sl2 st fun w st' => w = .dat (g x) ∧ st' = st) (hf : fin (xs.map g) st) : LcJ X G tg iter [] elt scope tb is vs sl st fin := by
  refine lcj_pure (xs.map g) (by rw [List.length_map]; exact hz) ?_ hf
  intro A σ H H0 R Rr k
  refine hi A σ H H0 R Rr fun J ws st1 A1 H1 H01 ⟨e1, e2⟩ => k J ws st1 A1 H1 H01 ⟨e1, ?_, fun i w y hw hy => ?_⟩
  · rw [e2]
    simp
  · rw [e2] at hw
    rw [List.map_map, List.getElem?_map] at hw
    rw [List.getElem?_map] at hy
    obtain ⟨x, hx, rfl⟩ := Option.map_eq_some_iff.mp hw
    rw [hx] at hy
    cases hy
    exact turn x (List.mem_of_getElem? hx)
theorem rng_map (lo : Int) (n : Nat) : rng lo n = ((List.range n).map fun (i : Nat) => D.int (lo + (i : Int))).map W.dat := by
  unfold rng
  rw [List.map_map]
  rfl
end
end Dn
namespace Dn
open PySem PySem.Spec L2 StX ClX
open PyProof.Rows hiding St
theorem pmk_bare {X : Cx} {C : Addr} {bmB : List Value} {B newId initId : String} {x : Str} {p pos : Pos} (F : ExcBaseFacts B newId initId bmB) (q : PySem.W.excIn X.K C bmB newId = true) (gC : X.mg x = some (.ref C)) (kC : PySem.W.keepIn X.K (.ref C) = true) (r : Raises X (.ref C)) (hg : Gl X x)
    (hdb : (x == ("__debug__" : Str)) = false := by decide) : PMk X (.Call (.Name x p) [] [] pos) (fun _ H Q => Q (.ref C) none H) := by
  intro pins s σ H Q I h
  refine wpAny_Call_Name_kw (ld_glob I hg gC ?_ hdb)
  refine PySem.W.callWith_K0 I.kIn kC ?_
  obtain ⟨_, _, _, _, _, _, _, _, _, _, _, _, _, _, _, _, _, at_C, ns, ni, T⟩ := exc_obj I.kIn q
  exact wpAny_call_exc_subT F T at_C ns ni (fun h' e made => mk_of I made r h (I.hok.gone made.new)) (Nat.zero_le _)
structure BareTxt (K : PySem.W.Frag) (mg : Str → Option Value) (x : Str) (C : Addr) : Prop where
  gC : mg x = some (.ref C)
  kC : PySem.W.keepIn K (.ref C) = true
  ex : PySem.W.excIn K C [.type "ValueError", .type "Exception", .type "BaseException", .type "object"] "ValueError.__new__" = true
  sb : PySem.W.subIn K (.ref C) (.type "BaseException") = some true
  ty : PySem.W.typeIn K (.ref C) = some (.type "type")
section
variable {X : Cx} {G : Ent} {sl : Sls} {st : List Ob} {Φ : WK} {Kx : XKS} {E : KE} {x : Str} {p pos pos2 : Pos}
theorem sw_raise0 {C : Addr} (T : BareTxt X.K X.mg x C) (xk : XOk X G Kx) (h : Kx (.ref C) [] sl st) (hc : X.calm = true := by rfl) (hg : Gl X x := by rfl) (hdb : (x == ("__debug__" : Str)) = false := by decide) :
    SW1 X G (.Raise (some (.Call (.Name x p) [] [] pos)) none pos2) sl st E := fun A σ H H0 R D kk => by
  obtain ⟨Wx, tk, hW⟩ := xk
  exact wpS_of (ps_raise hc tk (pmk_bare PySem.F.excBase_ValueError T.ex T.gC T.kC (raises_own T.sb T.ty) hg hdb)) (hW _ _ _ [] A σ H H0 sl st h R (.inl ⟨rfl, rfl⟩) .nil)
theorem c_isBare {n : String} {ad C : Addr} {b : Bool} {oe : Obj} {pn : List (Addr × Obj)} (T : L2.ExcC X.K C) (hz : Zc (.ref C) none oe) (hf : ∃ vs, oe.data = .fields vs) (hk : PySem.W.kitOne X.K (.ref C) (.type n) = some b) (h : Φ (.dat (.bl b)) st) :
    CW (X.suite ad ((ad, oe) :: pn)) G (.builtin "isinstance") sl st [.dat (.err ad none (.ref C) []), .dat (.ty n)] Φ := fun A σ H H0 R vs rw Q k => by
  obtain ⟨v, u, rfl, r, r'⟩ := rep2 rw
  cases r
  cases r'
  exact wpC_of (call_isE T hz hf) ⟨.ty n, .type n, b, rfl, fun u e => e, hk, k _ st _ A H H0 h R (Ext.refl _) (Same.refl _) (.bl b)⟩
end
end Dn
namespace Dn
open PySem PySem.Spec L2 StX ClX
open PyProof.Rows hiding St
section
variable {X : Cx} {G : Ent} {e a b c o : Expr} {es : List Expr} {sl : Sls} {st : List Ob} {Φ : WK} {Ψ : BK} {pos p apos cpos : Pos} {Kx : XKS} {F : FT} {k j : Nat} {x : Str}
theorem bt_VE : bootBuiltins "ValueError" = some (.type "ValueError") := by rfl
def rIsEdT (K : PySem.W.Frag) (ad : Addr) (b : Bool) (C dx : Addr) (n : String) (vfs : List (Str × V)) : List V → Hp → VK → Prop := fun xs H Q => xs = [.ref ad, .ty n] ∧ H dx = some (.xd vfs) ∧ PySem.W.kitOne K (.ref C) (.type n) = some b ∧ Q (.bl b) H
theorem call_isEdT {ad C dx : Addr} {n : String} {b : Bool} {oe : Obj} {pn : List (Addr × Obj)} {vfs : List (Str × V)} (E : L2.ExcC X.K C) (hz : Zc (.ref C) (some dx) oe) (hf : ∃ vs, oe.data = .fields vs) : CallR (X.suite ad ((ad, oe) :: pn)) (.builtin "isinstance") (rIsEdT X.K ad b C dx n vfs) := by
  intro pins s σ H xs us Q I r h
  obtain ⟨rfl, hx, e, q⟩ := h
  cases r with
  | cons rx rr =>
    cases rr with
    | cons rt rr =>
      cases rr
      cases rx
      cases rt
      obtain ⟨hget, _⟩ := I.pin (ad, oe) (List.mem_append.mpr (.inl List.mem_cons_self))
      obtain ⟨vs, hv⟩ := hf
      have hx' : ObjOk X.prog X.w H s.heap dx (.xd vfs) := I.hok dx _ hx
      obtain ⟨mA, hns, _⟩ := hx'
      obtain ⟨od, ho, _⟩ := lookIn_ns hns
      have J : PySem.W.InstAt s.heap ad oe C (some od) := ⟨hget, hz.1, by unfold PySem.W.notCls; rw [hv] <;> rfl, by rw [hz.2]; exact ho⟩
      have hcl : (PySem.W.clsIn X.K C).isSome = true := by
        have hd := E.hd
        unfold PySem.W.hasDictIn at hd
        cases hc : PySem.W.clsIn X.K C with
        | none => rw [hc] at hd; cases hd
        | some cd => rfl
      exact PySem.W.kia_one (PySem.W.kitx_exc (od := some od) hcl E.hg E.hk E.hs E.ha E.hn E.ht E.hm) I.kIn J e (fun z => nomatch z) fun tk => ⟨.bl b, H, I.kept (t' := tk) fun _ _ z => z, rfl, q⟩
theorem c_isBare' {n : String} {ad C : Addr} {od : Option Addr} {b : Bool} {oe : Obj} {pn : List (Addr × Obj)} (T : L2.ExcC X.K C) (hz : Zc (.ref C) od oe) (hf : ∃ vs, oe.data = .fields vs) (hk : PySem.W.kitOne X.K (.ref C) (.type n) = some b) (h : Φ (.dat (.bl b)) st) :
    CW (X.suite ad ((ad, oe) :: pn)) G (.builtin "isinstance") sl st [.dat (.err ad od (.ref C) []), .dat (.ty n)] Φ := by
  cases od with
  | none => exact c_isBare T hz hf hk h
  | some dx =>
    intro A σ H H0 R vs rw Q k
    obtain ⟨v, u, rfl, r, r'⟩ := rep2 rw
    cases r with
    | err hx rf =>
    cases r'
    exact wpC_of (call_isEdT T hz hf) ⟨rfl, R.hs.le _ _ hx, hk, k _ st _ A H H0 h R (Ext.refl _) (Same.refl _) (.bl b)⟩
theorem eqV_int (a b : Int) : eqV (.int a) (.int b) = decide (a = b) := by
  show (a == b) = decide (a = b)
  by_cases q : a = b <;> simp [q]
theorem ew_index (h : EW X G o sl st fun w1 st1 => ∃ zs : List Int, w1 = .dat (.lst (zs.map D.int)) ∧ EW X G e sl st1 fun w2 st2 => ∃ (z : Int) (j : Nat), w2 = .dat (.int z) ∧ zs[j]? = some z ∧ (∀ m, m < j → zs[m]? ≠ some z) ∧ Φ (.dat (.int (j : Int))) st2)
    (hbase : attributeBase o "index" X.env (eval o X.env) = eval o X.env := by rfl)
    (hfew : ((backTo cpos (starEach (e :: []) X.env)).all (fun x => !x.1) && (backToKw cpos (keywordEach [] X.env)).all (fun x => x.1.isSome)
      && decide ((e :: ([] : List Expr)).length + ([] : List Keyword).length + (if ([] : List Keyword).isEmpty then 0 else 1) < 30)) = true := by rfl)
    (hline : (apos.endLine == cpos.line) = true := by rfl) (hs : starEach (e :: []) X.env = (false, eval e X.env) :: starEach [] X.env := by rfl) (hplain : (backTo cpos (starEach [] X.env)).any (·.1) = false := by rfl) : EW X G (.Call (.Attribute o "index" apos) [e] [] cpos) sl st Φ := fun A σ H H0 R Q k =>
  wpE_of (pe_bm PySem.F.plainAttrs_list PySem.F.slot_list_index PySem.F.type_list_index mt_index pe_wp (pa_cons pe_wp pa_nil hs) hbase hfew hline hs hplain) (h A σ H H0 R _ fun w1 st1 v1 A1 H1 H01 ⟨zs, ew, q⟩ R1 x1 s1 r1 => by
    subst ew
    cases r1 with
    | @lst ad us _ e1 q1 =>
      have eu := reps_int q1
      subst eu
      refine ⟨.inl ⟨rfl, _, .inl (.inl (R1.hs.le _ _ e1))⟩, q A1 σ H1 H01 R1 _ fun w2 st2 v2 A2 H2 H02 ⟨z, j, ew2, hj, hn, q2⟩ R2 x2 s2 r2 => ?_⟩
      subst ew2
      cases r2
      refine ⟨ad, zs.map V.int, .int z, j, .int z, rfl, rfl, .inl (.inl (R2.hs.le _ _ (s2 _ _ e1))), rfl, ?_, by rw [List.getElem?_map, hj]; rfl, by rw [eqV_int]; simp, fun m z' hm hz' => ?_, k _ _ _ A2 H2 H02 q2 R2 (x1.trans x2) (s1.trans s2) (.int _)⟩
      · rw [List.all_map]
        exact List.all_eq_true.mpr fun _ _ => rfl
      · rw [List.getElem?_map] at hz'
        obtain ⟨y, hy, rfl⟩ := Option.map_eq_some_iff.mp hz'
        rw [eqV_int]
        exact decide_eq_false fun q => hn m hm (by rw [hy, q]))
theorem ew_callFL {f : Addr} (i : Nat) (hi : sl[i]? = some (some (.dat (.adr f)))) (kp : PySem.W.keepIn X.K (.ref f) = true) (Fn : FnG X.prog X.w X.K X.mg X.base (L2.CX X.prog X.w) k f (spD X.K F)) (hr : RoomG j X.A) (hk : k ≤ j) (xk : XOk X G Kx) (h : AW X G (e :: es) sl st fun ws st1 => F ws st1 Φ fun cls fs st2 => Kx cls fs sl st2)
    (hN : X.N[i]? = some x := by rfl) (hv : Vis X.env.scope x := by first | exact Or.inl rfl | exact Or.inr (Or.inl rfl) | exact Or.inr (Or.inr rfl)) (hdb : (x == ("__debug__" : Str)) = false := by decide) (hcd : (x == ("__classdict__" : Str)) = false := by decide)
    (he : starEach (e :: es) X.env = (false, eval e X.env) :: starEach es X.env := by rfl) (hpl : (backTo pos (starEach es X.env)).any (·.1) = false := by rfl) : EW X G (.Call (.Name x p) (e :: es) [] pos) sl st Φ := fun A σ H H0 R Q k pins s I => by
  obtain ⟨v, hs, rv⟩ := R.sl.2 i _ hi
  cases rv
  refine wpAny_Call_Name_kw (thn ((pe_var (pos := p) hN hv hdb hcd).run pins s σ H (fun v H1 => v = .ref f ∧ H1 = H) I ⟨.ref f, hs, rfl, rfl⟩) fun u s0 ⟨v, H1, I0, r1, q1⟩ => ?_)
  obtain ⟨rfl, rfl⟩ := q1
  cases r1
  refine PySem.W.callWith_K (h₀ := X.base) I.ok.mod.kin kp (thn (h A σ _ H0 R (fun vs H1 => ∃ A1 H01 st1 ws, F ws st1 Φ (fun cls fs st2 => Kx cls fs sl st2) ∧ RS X.K G A1 σ H1 H01 sl st1 ∧ Ext A A1 ∧ Same H0 H01 ∧ RepWs X.K A1 H01 vs ws)
    (fun ws st1 vs A1 H1 H01 q R1 x1 s1 r1 => ⟨A1, H01, st1, ws, q, R1, x1, s1, r1⟩) pos pins s0 I0) fun us s1 ⟨vs, H1, I1, r, A1, H01, st1, ws, q, R1, x1, s1', r1⟩ => ⟨I1.kIn, ?_⟩) he hpl
  exact run_call Fn (hr.mono hk) xk R1 r1 I1 r q (k.mv x1 s1')
end
end Dn
namespace Dn
open PySem PySem.Spec L2 StX ClX
open PyProof.Rows hiding St
section
variable {X : Cx} {G : Ent} {e a b c o : Expr} {es : List Expr} {sl : Sls} {st : List Ob} {Φ : WK} {Ψ : BK} {pos p apos cpos : Pos}
theorem RepWs.init {K : PySem.W.Frag} {A : List Addr} {H : Hp} : ∀ {vs : List V} {ws : List W}, RepWs K A H vs ws → RepWs K A H vs.dropLast ws.dropLast
  | [], [], _ => trivial
  | [_], [_], _ => trivial
  | _ :: y :: vs, _ :: z :: ws, h => ⟨h.1, RepWs.init (vs := y :: vs) (ws := z :: ws) h.2⟩
  | [_], _ :: _ :: _, h => h.2.elim
  | _ :: _ :: _, [_], h => h.2.elim
theorem ew_pop (h : EW X G o sl st fun w1 st1 => ∃ j xs y, w1 = .ptr j ∧ st1[j]? = some (.lst xs) ∧ xs[xs.length - 1]? = some y ∧ Φ y (st1.set j (.lst xs.dropLast)))
    (hbase : attributeBase o "pop" X.env (eval o X.env) = eval o X.env := by rfl) (hline : (apos.endLine == cpos.line) = true := by rfl) : EW X G (.Call (.Attribute o "pop" apos) [] [] cpos) sl st Φ := fun A σ H H0 R Q k =>
  wpE_of (pe_bm0 PySem.F.plainAttrs_list PySem.F.slot_list_pop PySem.F.type_list_pop mt_pop pe_wp hbase hline) (h A σ H H0 R _ fun w1 st1 v1 A1 H1 H01 ⟨j, xs, y, ew, hx, hy, q⟩ R1 x1 s1 r1 => by
    subst ew
    obtain ⟨ad, ha, h0, vs, he, rr⟩ := R1.at hx
    obtain ⟨a', ha', rfl⟩ := r1
    have : a' = ad := Option.some.inj (ha'.symm.trans ha)
    subst this
    obtain ⟨v, hv, rv⟩ := rr.get hy
    refine ⟨.inl ⟨rfl, vs, .inl (.inl he)⟩, a', vs, v, rfl, rfl, he, by rw [rr.length]; exact hv, ?_⟩
    exact k _ _ _ A1 _ H01 q (R1.write ha hx h0 ⟨h0, _, upd_same, rr.init⟩) x1 s1 rv)
end
end Dn
namespace Dn
open PySem PySem.Spec L2 StX ClX
open PyProof.Rows hiding St
section
variable {X : Cx} {G : Ent} {sl : Sls} {st : List Ob} {Φ : WK} {Kx : XKS} {F : FT} {k j : Nat} {C : Addr}
def EqPair (F : FT) (C : Addr) (Kx : XKS) (st : List Ob) (d e : D) : Prop := ∃ fs gs, d = .ins C fs ∧ e = .ins C gs ∧ F [.dat d, .dat e] st (fun w st' => w = .dat (.bl true) ∧ st' = st) fun cls es st2 => ∀ sl', Kx cls es sl' st2
theorem eqBool_own {B : Around} {f : Addr} {pins : List (Addr × Obj)} {A : List Addr} {σ σ' : St} {H H0 : Hp} {s : Shared} {a b : Addr} {d e : D} (T : OpTxt X.K C f "__eq__") (Fn : FnG X.prog X.w X.K X.mg X.base (L2.CX X.prog X.w) k f (spD X.K F)) (hr : RoomG k B) (hu : B.units < cLine) (hf : B.frames = X.A.frames) (xk : XOk X G Kx) (R : RS X.K G A σ H H0 sl st) (I : Inv X pins σ' H s)
    (r1 : RepW X.K A H0 (.ref a) (.dat d)) (r2 : RepW X.K A H0 (.ref b) (.dat e)) (h : EqPair F C Kx st d e) {Q : Bool → Shared → Prop} (q : ∀ A' H' H0' s', RS X.K G A' σ H' H0' sl st → Ext A A' → Same H0 H0' → Inv X pins σ' H' s' → Q true s') :
    wpAny (model X.prog X.w) B (eqBool (Value.ref a) (Value.ref b)) Q X.xe s := by
  obtain ⟨fs, gs, rfl, rfl, h⟩ := h
  cases r1 with
  | @ins _ _ dx vs _ e1 q1 =>
  cases r2 with
  | @ins _ _ dy us _ e2 q2 =>
  obtain ⟨ox, od, J, hd⟩ := insC_at I (.inr ⟨dx, vs, R.hs.le _ _ e1⟩ : StX.InsC X H a C)
  obtain ⟨oy, oe, J2, hd2⟩ := insC_at I (.inr ⟨dy, us, R.hs.le _ _ e2⟩ : StX.InsC X H b C)
  obtain ⟨m, fr⟩ := I.fr
  unfold eqBool
  refine wpAny_holding (wpAny_ite ?_)
  by_cases z : (Value.ref a == Value.ref b) = true
  · rw [if_pos z]
    exact wpAny_bind (wpAny_rule (wpAny_pure (q A H H0 s R (Ext.refl _) (Same.refl _) I)))
  · rw [if_neg z]
    refine wpAny_bind (PySem.W.cmp_K (tb := .ref C) (op := .Eq) hu fr I.ok.mod.kin J J2.type (by unfold PySem.W.notFirst; rw [beq_self_eq_true]; rfl) T.at_ T.fn (wpAny_mono (run_opB (vs := [.ref a, .ref b]) (ws := [.dat (.ins C fs), .dat (.ins C gs)]) (Φ := fun w st' => w = .dat (.bl true) ∧ st' = st) (Q := fun v H' => v = .bl true ∧ ∃ A' H0', RS X.K G A' σ H' H0' sl st ∧ Ext A A' ∧ Same H0 H0') Fn hr hf xk R ⟨.ins e1 q1, .ins e2 q2, trivial⟩ I (.cons rfl (.cons rfl .nil)) h ?_) (fun u' s' hq => ?_) fun _ _ q => q))
    · intro w st' v A' H' H0' ⟨ew, es⟩ R' x' s' rr
      subst ew es
      cases rr
      exact ⟨rfl, A', H0', R', x', s'⟩
    · obtain ⟨v, H', I', rv', ev, A', H0', R', x', s1⟩ := hq
      subst ev
      cases (show u' = Value.bool true from rv')
      exact wpAny_truthy_bool (q A' H' H0' s' R' x' s1 I')
theorem paired_get {α β : Type} {R : α → β → Prop} : ∀ {xs : List α} {ys : List β} {i : Nat} {x : α}, Paired R xs ys → xs[i]? = some x → ∃ y, ys[i]? = some y ∧ R x y
  | _, _, 0, _, .cons h _, e => by
    cases e
    exact ⟨_, rfl, h⟩
  | _, _, i + 1, _, .cons _ t, e => paired_get t (i := i) e
  | _, _, i, _, .nil, e => by simp at e
theorem eq_loop_own {f : Addr} {B : Around} {pins : List (Addr × Obj)} {σ σ' : St} {l b : Addr} {ds es : List D} (T : OpTxt X.K C f "__eq__") (Fn : FnG X.prog X.w X.K X.mg X.base (L2.CX X.prog X.w) k f (spD X.K F)) (hr : RoomG k (B.under (Code.builtin "list.__eq__.loop" {}))) (hu : B.units + 1 < cLine) (hf : B.frames = X.A.frames) (xk : XOk X G Kx)
    (hlen : ds.length = es.length) (hp : ∀ (i : Nat) (d e : D), ds[i]? = some d → es[i]? = some e → EqPair F C Kx st d e) (E : Result → Shared → Prop) (hE : ∀ e s', X.xe e s' → E (.error e) s') : ∀ (n i : Nat), ds.length - i = n → i ≤ ds.length → ∀ (A : List Addr) (H H0 : Hp) (s : Shared), RS X.K G A σ H H0 sl st → Inv X pins σ' H s → RepW X.K A H0 (.ref l) (.dat (.lst ds)) → RepW X.K A H0 (.ref b) (.dat (.lst es)) →
    (∀ A' H' H0' s', RS X.K G A' σ H' H0' sl st → Ext A A' → Same H0 H0' → Inv X pins σ' H' s' → E (.ok (.ret (.bool false))) s') → codeAny (model X.prog X.w) B (Code.builtin "list.__eq__.loop" { pos := [Value.ref l, Value.ref b, rawInt (i : Int), rawInt 3] }) E s
  | n, i, hn, hi, A, H, H0, s, R, I, r1, r2, q => by
    have R1 := r1
    have R2 := r2
    cases r1 with
    | @lst _ us _ e1 q1 =>
    cases r2 with
    | @lst _ vs _ e2 q2 =>
    have o1 := I.hok _ _ (R.hs.le _ _ e1)
    have o2 := I.hok _ _ (R.hs.le _ _ e2)
    obtain ⟨_, its, n1, hv1, hg1⟩ := o1
    obtain ⟨_, its2, n2, hv2, hg2⟩ := o2
    have l1 : its.length = ds.length := by rw [← hv1.length, q1.length]
    have l2 : its2.length = es.length := by rw [← hv2.length, q2.length]
    refine codeAny_builtin PySem.MeetsSeq3.entry_eq_loop ?_
    show wpAny _ _ (Builtin.«list.__eq__.loop» _) _ _ _
    unfold Builtin.«list.__eq__.loop»
    refine wpAny_bind (m := Builtin.List.listItems (Value.ref l)) (wpAny_listItems hg1 rfl ?_)
    refine wpAny_bind (m := Builtin.List.listItems (Value.ref b)) (wpAny_listItems hg2 rfl ?_)
    by_cases lt : i < ds.length
    · have h1 : its.toArray[((i : Int)).toNat]? = some its[i] := by simp
      have h2 : its2.toArray[((i : Int)).toNat]? = some its2[i] := by simp
      rw [h1, h2]
      have hd := List.getElem?_eq_getElem lt
      have he := List.getElem?_eq_getElem (show i < es.length by omega)
      have pr := hp i _ _ hd he
      obtain ⟨u1, hu1, ru1⟩ : ∃ u, us[i]? = some u ∧ RepW X.K A H0 u (.dat ds[i]) := q1.get hd
      obtain ⟨u2, hu2, ru2⟩ : ∃ u, vs[i]? = some u ∧ RepW X.K A H0 u (.dat es[i]) := q2.get he
      obtain ⟨a1, rfl⟩ : ∃ a1, u1 = V.ref a1 := by
        obtain ⟨fs, gs, e, _, _⟩ := pr
        rw [e] at ru1
        cases ru1
        exact ⟨_, rfl⟩
      obtain ⟨a2, rfl⟩ : ∃ a2, u2 = V.ref a2 := by
        obtain ⟨fs, gs, _, e, _⟩ := pr
        rw [e] at ru2
        cases ru2
        exact ⟨_, rfl⟩
      have w1 : its[i] = Value.ref a1 := by
        obtain ⟨y, e9, r9⟩ := paired_get hv1 hu1
        obtain ⟨_, e8⟩ := List.getElem?_eq_some_iff.mp e9
        rw [e8]
        exact r9
      have w2 : its2[i] = Value.ref a2 := by
        obtain ⟨y, e9, r9⟩ := paired_get hv2 hu2
        obtain ⟨_, e8⟩ := List.getElem?_eq_some_iff.mp e9
        rw [e8]
        exact r9
      rw [w1, w2]
      refine wpAny_bind (m := eqBool (Value.ref a1) (Value.ref a2)) (wpAny_mono (eqBool_own T Fn hr hu hf xk R I ru1 ru2 pr (Q := fun b9 s' => b9 = true ∧ ∃ A' H' H0', RS X.K G A' σ H' H0' sl st ∧ Ext A A' ∧ Same H0 H0' ∧ Inv X pins σ' H' s') fun A' H' H0' s' x1 x2 x3 x4 => ⟨rfl, A', H', H0', x1, x2, x3, x4⟩) (fun b9 s' hq => ?_) hE)
      obtain ⟨rfl, A', H', H0', R', x', s1, I'⟩ := hq
      refine wpAny_ite ?_
      rw [if_pos rfl]
      refine wpAny_pure ⟨PySem.Code.quiet_builtin _ (by decide +kernel), ?_⟩
      have e3 : rawInt ((i : Int) + 1) = rawInt ((i + 1 : Nat) : Int) := by rw [Int.natCast_add]; rfl
      rw [e3]
      exact eq_loop_own T Fn hr hu hf xk hlen hp E hE (n - 1) (i + 1) (by omega) (by omega) A' H' H0' s' R' I' (R1.mono x' s1) (R2.mono x' s1) fun A2 H2 H02 s2 y1 y2 y3 y4 => q A2 H2 H02 s2 y1 (x'.trans y2) (s1.trans y3) y4
    · have h1 : its.toArray[((i : Int)).toNat]? = none := by simp; omega
      rw [h1]
      refine wpAny_bind (m := Builtin.List.listItems (Value.ref l)) (wpAny_listItems hg1 rfl ?_)
      refine wpAny_bind (m := Builtin.List.listItems (Value.ref b)) (wpAny_listItems hg2 rfl ?_)
      refine wpAny_pure ?_
      have hz : its.toArray.size = its2.toArray.size := by simp; omega
      rw [hz]
      show E (Except.ok (Flow.ret (Value.bool (its2.toArray.size != its2.toArray.size)))) s
      have hb : (its2.toArray.size != its2.toArray.size) = false := by simp
      rw [hb]
      exact q A H H0 s R (Ext.refl _) (Same.refl _) I
theorem o_neOwnL {ds es : List D} (c : OpM X.prog X.w X.K X.mg X.base k C "__eq__" F) (hr : RoomG j X.A) (hk : k + 1 ≤ j) (xk : XOk X G Kx) (hlen : ds.length = es.length) (hp : ∀ (i : Nat) (d e : D), ds[i]? = some d → es[i]? = some e → EqPair F C Kx st d e) (h : Φ (.dat (.bl false)) st) :
    OW X G (compareOp .NotEq) sl st (.dat (.lst ds)) (.dat (.lst es)) Φ := fun A σ H H0 R v1 v2 r1 r2 Q kk pins s σ' v u I rv ru => by
  obtain ⟨f, T, Fn⟩ := c
  have R1 := r1
  have R2 := r2
  cases r1 with
  | @lst l us _ e1 q1 =>
  cases r2 with
  | @lst b vs _ e2 q2 =>
  obtain rfl : v = Value.ref l := rv
  obtain rfl : u = Value.ref b := ru
  have o1 := I.hok _ _ (R.hs.le _ _ e1)
  have o2 := I.hok _ _ (R.hs.le _ _ e2)
  obtain ⟨_, its, n1, hv1, hg1⟩ := o1
  obtain ⟨_, its2, n2, hv2, hg2⟩ := o2
  have l1 : its.length = ds.length := by rw [← hv1.length, q1.length]
  have l2 : its2.length = es.length := by rw [← hv2.length, q2.length]
  have hu : X.A.units + 64 < cLine := hr.units
  have t1 : s.TypeIs (Value.ref l) "list" := ⟨_, hg1, rfl⟩
  have t2 : s.TypeIs (Value.ref b) "list" := ⟨_, hg2, rfl⟩
  have hrB : RoomG k (X.A.under (Code.builtin "list.__eq__.loop" {})) := ⟨⟨hr.hd, by have := hr.dp; show X.A.depth + 0 + 3 * k + 5 < _; omega, by have := hr.un; show X.A.units + 1 + 16 * k + 200 < _; omega⟩, hr.gd⟩
  show wpAny _ _ (richCompare .NotEq (.ref l) (.ref b)) _ _ _
  refine wpAny_richCompare_same_or t1 t2 PySem.F.slot_list_ne (wpAny_call (codeAny_call_builtin PySem.F.slot_list_ne.plain PySem.F.entry_list_ne (PySem.F.slot_list_ne.check _ _ _ _ _ _ _ _ t1 (PySem.F.args_list_ne_2 _ _) ?_))) (.inr (by omega))
  show wpAny _ _ (Builtin.«list.__ne__» _) _ _ _
  unfold Builtin.«list.__ne__»
  refine wpAny_bind (m := slotArgs "__ne__" 1 { pos := [Value.ref l, Value.ref b] }) ?_
  unfold slotArgs
  refine wpAny_ite_false rfl (wpAny_ite_false rfl (wpAny_pure ?_))
  refine wpAny_bind (m := PySem.isInstance (Value.ref b) (Value.type "list")) (wpAny_isInstance t2 rfl ?_)
  refine wpAny_ite_false rfl ?_
  refine wpAny_ite_true rfl ?_
  refine wpAny_bind (m := Builtin.List.listItems (Value.ref l)) (wpAny_listItems hg1 rfl ?_)
  refine wpAny_bind (m := Builtin.List.listItems (Value.ref b)) (wpAny_listItems hg2 rfl ?_)
  have hz : its.toArray.size = its2.toArray.size := by simp; omega
  refine wpAny_ite_false (by simp; omega) ?_
  refine wpAny_pure ⟨PySem.Code.quiet_builtin _ (by decide +kernel), ?_⟩
  exact eq_loop_own T Fn hrB (by omega) rfl xk hlen hp _ (fun e s' h => h) ds.length 0 (by omega) (by omega) A H H0 s R I R1 R2 fun A' H' H0' s' R' x' s1 I' => ⟨(by intro z; cases z), .bl false, H', I', rfl, kk _ st _ A' H' H0' h R' x' s1 (.bl _)⟩
def zipW (xs ys : List D) : List W := (xs.zip ys).map fun q => W.dat (.tup [q.1, q.2])
theorem zipW_get {xs ys : List D} {i : Nat} {d e : D} (h : xs[i]? = some d) (h2 : ys[i]? = some e) : (zipW xs ys)[i]? = some (W.dat (.tup [d, e])) := by
  unfold zipW
  have z : (xs.zip ys)[i]? = some (d, e) := List.getElem?_zip_eq_some.mpr ⟨h, h2⟩
  rw [List.getElem?_map, z]
  rfl
theorem zipW_length {xs ys : List D} (hl : xs.length = ys.length) : (zipW xs ys).length = xs.length := by
  unfold zipW
  rw [List.length_map, List.length_zip]
  omega
theorem items_zip {K : PySem.W.Frag} {a b : Addr} {vs us : List V} {xs ys : List D} {A1 : List Addr} {H01 : Hp} (hl : xs.length = ys.length) (he : H01 a = some (.lst vs)) (rr : Reps K H01 vs xs) (he2 : H01 b = some (.lst us)) (rr2 : Reps K H01 us ys) : Items K (Itz K a b) (zipW xs ys) A1 H01 := fun i G' A' σ' H' H0' sl' st' R x s => by
  have hs : SqL K H' a vs := .inl (.inl (R.hs.le _ _ (s _ _ he)))
  have hs2 : SqL K H' b us := .inl (.inl (R.hs.le _ _ (s _ _ he2)))
  have l1 := rr.length
  have l2 := rr2.length
  rw [zipW_length hl]
  refine ⟨fun hi => ⟨⟨vs, us, vs[i]'(by omega), us[i]'(by omega), hs, hs2, List.getElem?_eq_getElem _, List.getElem?_eq_getElem _⟩, fun v H'' y => ?_⟩, fun hi => ⟨vs, us, hs, hs2, .inl (by omega)⟩⟩
  obtain ⟨T, x, z, ev, hT, eH, y1, y2⟩ := y
  subst ev eH
  obtain ⟨d, hd, rd⟩ := rr.get' (y1 vs hs)
  obtain ⟨e, hd2, rd2⟩ := rr2.get' (y2 us hs2)
  have s0 := same_upd (o := .tup [x, z]) (R.hs.free0 hT)
  exact ⟨_, _, zipW_get hd hd2, R.alloc hT, s0, same_upd hT, .tup upd_same (.cons ((rd.mono s).mono s0) (.cons ((rd2.mono s).mono s0) .nil))⟩
theorem iw_zip {a b : Expr} {Θ : IK} {elts : List Expr} {kk : Nat} {p pos tpos : Pos} (hm : X.mg "zip" = none) (h : AW X G [a, b] sl st fun ws st1 => ∃ xs ys, ws = [.dat (.lst xs), .dat (.lst ys)] ∧ xs.length = ys.length ∧ Θ (zipW xs ys) st1) (hg : Gl X "zip" := by rfl) (hs : starEach [a, b] X.env = (false, eval a X.env) :: starEach [b] X.env := by rfl) (hs2 : ((backTo pos (starEach [b] X.env)).any fun x => x.1) = false := by rfl) :
    IWJ X G (.Tuple elts kk tpos) (.Call (.Name "zip" p) [a, b] [] pos) sl st Θ := fun A σ H H0 R Rr k =>
  wpI_of (pi_zip hg hm pa_wp hs hs2) (h A σ H H0 R _ fun ws st1 vs A1 H1 H01 ⟨xs, ys, ew, hl, q⟩ R1 x1 s1 r1 => by
    subst ew
    obtain ⟨v, u, rfl, r, r'⟩ := rep2 r1
    cases r with
    | lst e rr =>
    cases r' with
    | lst e' rr' => exact ⟨_, _, _, _, rfl, .inl (.inl (R1.hs.le _ _ e)), .inl (.inl (R1.hs.le _ _ e')), k _ _ st1 A1 H1 H01 q R1 x1 s1 (items_zip hl e rr e' rr')⟩)
end
end Dn
namespace Dn
open PySem PySem.Spec L2 StX ClX
open PyProof.Rows hiding St
section
variable {X : Cx} {G : Ent} {e o : Expr} {es : List Expr} {sl : Sls} {st : List Ob} {Φ : WK} {pos p : Pos}
theorem ew_fmtI (h : EW X G e sl st fun w st1 => ∃ i : Int, w = .dat (.int i) ∧ i.natAbs.log2 < 1920 ∧ Φ (.dat (.str (toString i))) st1) : EW X G (.FormattedValue e (-1) none pos) sl st Φ := fun A σ H H0 R Q k =>
  wpE_of (pe_fmt pe_wp) (h A σ H H0 R _ fun w st1 v A1 H1 H01 ⟨i, ew, hi, q⟩ R1 x1 s1 r1 => by
    subst ew
    cases r1
    exact .inr ⟨i, rfl, hi, k _ st1 _ A1 H1 H01 q R1 x1 s1 (.str _)⟩)
theorem ew_fmtS (h : EW X G e sl st fun w st1 => ∃ y : Str, w = .dat (.str y) ∧ y.length ≤ sizeLine ∧ Φ (.dat (.str y)) st1) : EW X G (.FormattedValue e (-1) none pos) sl st Φ := fun A σ H H0 R Q k =>
  wpE_of (pe_fmt pe_wp) (h A σ H H0 R _ fun w st1 v A1 H1 H01 ⟨y, ew, hi, q⟩ R1 x1 s1 r1 => by
    subst ew
    cases r1
    exact .inl ⟨y, rfl, hi, k _ st1 _ A1 H1 H01 q R1 x1 s1 (.str _)⟩)
def JsW (X : Cx) (G : Ent) : List Expr → Str → Sls → List Ob → WK → Prop
  | [], acc, _, st, Φ => Φ (.dat (.str acc)) st
  | e :: es, acc, sl, st, Φ => EW X G e sl st fun w st1 => ∃ y : Str, w = .dat (.str y) ∧ (acc ++ y).length ≤ sizeLine ∧ JsW X G es (acc ++ y) sl st1 Φ
theorem pj_wp : ∀ es : List Expr, PJ X es (es.map fun e => wpE X e)
  | [] => .nil
  | _ :: es => .cons pe_wp (pj_wp es)
theorem js_run : ∀ (es : List Expr) (acc : Str) (st : List Ob) (A : List Addr) (σ : St) (H H0 : Hp), JsW X G es acc sl st Φ → RS X.K G A σ H H0 sl st → ∀ Q : VK, Ct X.K G A σ H0 sl Φ Q → tJs (es.map fun e => wpE X e) acc σ H fun out H1 => Q (.str out) H1
  | [], acc, st, A, σ, H, H0, h, R, Q, k => k _ st _ A H H0 h R (Ext.refl _) (Same.refl _) (.str _)
  | e :: es, acc, st, A, σ, H, H0, h, R, Q, k => h A σ H H0 R _ fun w st1 v A1 H1 H01 ⟨y, ew, hy, q⟩ R1 x1 s1 r1 => by
    subst ew
    cases r1
    exact ⟨y, rfl, hy, js_run es (acc ++ y) st1 A1 σ H1 H01 q R1 Q (k.mv x1 s1)⟩
theorem ew_joined {e1 e2 : Expr} (h : JsW X G (e1 :: e2 :: es) Str.empty sl st Φ) : EW X G (.JoinedStr (e1 :: e2 :: es) pos) sl st Φ := fun A σ H H0 R Q k =>
  wpE_of (pe_joined (pj_wp _)) (js_run _ _ st A σ H H0 h R Q k)
theorem reps_strs {K : PySem.W.Frag} {H : Hp} : ∀ {us : List V} {ys : List Str}, Reps K H us (ys.map D.str) → us = ys.map V.str
  | [], [], _ => rfl
  | u :: us, y :: ys, h => by
    cases h with
    | cons a t =>
      cases a
      rw [reps_strs t]
      rfl
  | [], _ :: _, h => by cases h
  | _ :: _, [], h => by cases h
theorem ew_join {apos : Pos} (h : EW X G o sl st fun w st1 => ∃ a : Str, w = .dat (.str a) ∧ EW X G e sl st1 fun w2 st2 => ∃ ys : List Str, w2 = .dat (.lst (ys.map D.str)) ∧ (ys.map (·.length)).sum + ys.length * a.length ≤ 16777216 ∧ Φ (.dat (.str (Txt.join a ys))) st2)
    (h1 : starEach [e] X.env = [(false, eval e X.env)] := by rfl) (h2 : attributeBase o "join" X.env (eval o X.env) = eval o X.env := by rfl) (h3 : (apos.endLine == pos.line) = true := by rfl) : EW X G (.Call (.Attribute o "join" apos) [e] [] pos) sl st Φ := fun A σ H H0 R Q k =>
  wpE_of (pe_join pe_wp pe_wp h1 h2 h3) (h A σ H H0 R _ fun w st1 v A1 H1 H01 ⟨a, ew, q⟩ R1 x1 s1 r1 => by
    subst ew
    cases r1
    refine ⟨⟨a, rfl⟩, q A1 σ H1 H01 R1 _ fun w2 st2 v2 A2 H2 H02 ⟨ys, ew2, hz, q2⟩ R2 x2 s2 r2 => ?_⟩
    subst ew2
    cases r2 with
    | @lst ad us _ e9 rr =>
      have eu := reps_strs rr
      subst eu
      exact ⟨a, ad, ys, rfl, rfl, .inl (.inl (.inl (R2.hs.le _ _ e9))), hz, k _ st2 _ A2 H2 H02 q2 R2 (x1.trans x2) (s1.trans s2) (.str _)⟩)
theorem c_strI {i : Int} (hi : i.natAbs.log2 < 1920) (h : Φ (.dat (.str (Str.ofString (toString i)))) st) : CW X G (.type "str") sl st [.dat (.int i)] Φ := cw_of call_str_int fun A σ H H0 R vs rw Q k => by
  obtain ⟨v, rfl, r⟩ := rep1 rw
  cases r
  exact ⟨i, rfl, hi, k _ st _ A H H0 h R (Ext.refl _) (Same.refl _) (.str _)⟩
theorem reps_ws {K : PySem.W.Frag} {A : List Addr} {H : Hp} : ∀ {us : List V} {xs : List D}, Reps K H us xs → RepWs K A H us (xs.map W.dat)
  | _, _, .nil => trivial
  | _, _, .cons a t => ⟨a, reps_ws t⟩
theorem RepWs.app {K : PySem.W.Frag} {A : List Addr} {H : Hp} : ∀ {us vs : List V} {ws zs : List W}, RepWs K A H us ws → RepWs K A H vs zs → RepWs K A H (us ++ vs) (ws ++ zs)
  | [], _, [], _, _, h => h
  | _ :: _, _, _ :: _, _, h, h2 => ⟨h.1, RepWs.app h.2 h2⟩
  | [], _, _ :: _, _, h, _ => h.elim
  | _ :: _, _, [], _, h, _ => h.elim
theorem aw_star {Λ : List W → List Ob → Prop} (h : EW X G e sl st fun w st1 => ∃ xs : List D, w = .dat (.lst xs) ∧ AW X G es sl st1 fun ws st2 => Λ (xs.map W.dat ++ ws) st2) (hs : starEach (e.Starred p :: es) X.env = (true, eval e X.env) :: starEach es X.env := by rfl) : AW X G (e.Starred p :: es) sl st Λ := fun A σ H H0 R Q k =>
  wpA_of (pa_star pe_wp pa_wp hs) (h A σ H H0 R _ fun w st1 v A1 H1 H01 ⟨xs, ew, q⟩ R1 x1 s1 r1 => by
    subst ew
    cases r1 with
    | @lst ad us _ e9 rr =>
      exact ⟨ad, us, rfl, .inr (.inl (.inl (R1.hs.le _ _ e9))), q A1 σ H1 H01 R1 _ fun ws st2 vs A2 H2 H02 q2 R2 x2 s2 r2 => k _ st2 _ A2 H2 H02 q2 R2 (x1.trans x2) (s1.trans s2) (RepWs.app (reps_ws (rr.mono s2)) r2)⟩)
end
section
variable {X : Cx} {G : Ent} {sl : Sls} {st : List Ob} {Φ : WK} {Kx : XKS} {F : FT} {k j : Nat} {C : Addr} {fs : List (Str × D)}
theorem c_strOwn (c : OpM X.prog X.w X.K X.mg X.base k C "__str__" F) (hr : RoomG j X.A) (hk : k + 1 ≤ j) (xk : XOk X G Kx)
    (h : F [.dat (.ins C fs)] st (fun w st' => ∃ x : Str, w = .dat (.str x) ∧ Φ (.dat (.str x)) st') fun cls es st2 => ∀ sl', Kx cls es sl' st2) : CW X G (.type "str") sl st [.dat (.ins C fs)] Φ := fun A σ H H0 R vs rw Q kk pins s σ' us I r => by
  obtain ⟨f, T, Fn⟩ := c
  obtain ⟨v, rfl, r1⟩ := rep1 rw
  obtain ⟨u, rfl, ru⟩ := L2.vals1 r
  have r1' : Rep X.K H0 v (.ins C fs) := r1
  cases r1' with
  | @ins a _ dx vs _ e1 q1 =>
  obtain rfl : u = Value.ref a := ru
  obtain ⟨ox, od, J, hd⟩ := insC_at I (.inr ⟨dx, vs, R.hs.le _ _ e1⟩ : StX.InsC X H a C)
  have hrB : RoomG k X.A.in1.in1 := ⟨⟨hr.hd, by have := hr.dp; show X.A.depth + 3 * k + 5 < _; omega, by have := hr.un; show X.A.units + 1 + 1 + 16 * k + 200 < _; omega⟩, hr.gd⟩
  have hu : X.A.units + 64 < cLine := hr.units
  refine callType_meetsIn (S := fun A' R s => wpAny (model X.prog X.w) A'.in1 (Builtin.Str.strOf (.ref a)) (fun v s' => R (.ok (.ret v)) s') (fun e s' => R (.error e) s') s) (Q₁ := fun obj s' => (∃ x t, obj = Value.str x t) ∧ EP X pins σ' Q obj s') PySem.F.called_str rfl (PySem.F.newCall_str_1 _) PySem.F.entry_str_new PySem.F.entry_object_init (fun A' R s h => ?_) ?_ (fun obj s1 hq => ?_)
  · rw [PySem.str_new_tree]
    refine wpAny_bind (m := PySem.isType (Value.type "str")) (wpAny_pure ?_)
    refine wpAny_ite_false rfl ?_
    refine wpAny_bind (m := isSubtype (Value.type "str") (Value.type "str")) ?_
    rw [PySem.F.called_str.sub]
    refine wpAny_pure ?_
    refine wpAny_ite_false rfl ?_
    exact wpAny_bind (wpAny_mono h (fun v s' h => wpAny_pure h) fun _ _ h => h)
  · show wpAny _ X.A.in1.in1 (Builtin.Str.strOf (.ref a)) _ _ _
    unfold Builtin.Str.strOf
    refine wpAny_ite_false rfl (wpAny_bind (wpAny_cRoomFor (show X.A.units + 1 + 1 < cLine by omega) ?_))
    refine wpAny_bind (m := callSpecial? (.ref a) (PySem.Str.ofString "__str__")) ?_
    unfold callSpecial? specialOf
    refine wpAny_bind (wpAny_bind (PySem.W.Looks.here J.type (PySem.W.Looks.here (PySem.W.looks_findIn I.kIn T.at_) ?_)))
    refine wpAny_holding (wpAny_bind ((PySem.W.bind_fn I.kIn _ (beq_iff_eq.mp T.fn)).here ?_))
    have z := run_opB (B := X.A.in1.in1) (vs := [.ref a]) (ws := [.dat (.ins C fs)]) (Φ := fun w st' => ∃ x : Str, w = .dat (.str x) ∧ Φ (.dat (.str x)) st') (Q := fun v H' => ∃ x, v = .str x ∧ Q (.str x) H') Fn hrB rfl xk R ⟨.ins e1 q1, trivial⟩ I (.cons rfl .nil) h fun w st' v A' H' H0' ⟨x, ew, q'⟩ R' x' s' rr => by
      subst ew
      cases rr
      exact ⟨x, rfl, kk _ st' _ A' H' H0' q' R' x' s' (.str _)⟩
    refine wpAny_bind (wpAny_mono z (fun u' s' hq => ?_) fun _ _ q => q)
    obtain ⟨v, H', I', rv', x, ev, q'⟩ := hq
    subst ev
    obtain ⟨t, rfl⟩ := rv'
    refine wpAny_pure ?_
    refine wpAny_bind (m := asStr? (Value.str x t)) (wpAny_pure ?_)
    refine wpAny_ite_false rfl (wpAny_pure ?_)
    exact ⟨⟨x, t, rfl⟩, .str x, H', I', ⟨t, rfl⟩, q'⟩
  · obtain ⟨⟨x, t, rfl⟩, q⟩ := hq
    have ti : s1.TypeIs (Value.str x t) "str" := rfl
    exact ⟨ti, PySem.F.args_object_init_2 _ _, _, PySem.object_init_meets PySem.F.called_str.init.lookup PySem.F.called_str.made rfl, ti, rfl, q⟩
end
end Dn
namespace Dn
open PySem PySem.Spec L2 StX ClX
open PyProof.Rows hiding St
section
variable {X : Cx} {G : Ent} {e o : Expr} {es : List Expr} {sl : Sls} {st : List Ob} {Φ : WK} {pos apos : Pos}
theorem c_intS {a : Str} {n : Int} (h1 : PySem.intText? a = some n) (h2 : a.length ≤ 640) (h : Φ (.dat (.int n)) st) : CW X G (.type "int") sl st [.dat (.str a)] Φ := cw_of call_int_str fun A σ H H0 R vs rw Q k => by
  obtain ⟨v, rfl, r⟩ := rep1 rw
  cases r
  exact ⟨a, n, rfl, h1, h2, k _ st _ A H H0 h R (Ext.refl _) (Same.refl _) (.int _)⟩
theorem ew_isdigit (h : EW X G o sl st fun w st1 => ∃ a : Str, w = .dat (.str a) ∧ Φ (.dat (.bl (Txt.isdigit a))) st1) (h2 : attributeBase o "isdigit" X.env (eval o X.env) = eval o X.env := by rfl) (h3 : (apos.endLine == pos.line) = true := by rfl) : EW X G (.Call (.Attribute o "isdigit" apos) [] [] pos) sl st Φ := fun A σ H H0 R Q k =>
  wpE_of (pe_m0 PySem.F.slot_str_isdigit PySem.F.type_str_isdigit mt_isdigit pe_wp h2 h3) (h A σ H H0 R _ fun w st1 v A1 H1 H01 ⟨a, ew, q⟩ R1 x1 s1 r1 => by
    subst ew
    cases r1
    exact ⟨⟨a, rfl⟩, a, rfl, rfl, trivial, k _ st1 _ A1 H1 H01 q R1 x1 s1 (.bl _)⟩)
theorem ew_isascii (h : EW X G o sl st fun w st1 => ∃ a : Str, w = .dat (.str a) ∧ Φ (.dat (.bl (Txt.isascii a))) st1) (h2 : attributeBase o "isascii" X.env (eval o X.env) = eval o X.env := by rfl) (h3 : (apos.endLine == pos.line) = true := by rfl) : EW X G (.Call (.Attribute o "isascii" apos) [] [] pos) sl st Φ := fun A σ H H0 R Q k =>
  wpE_of (pe_m0 PySem.F.slot_str_isascii PySem.F.type_str_isascii mt_isascii pe_wp h2 h3) (h A σ H H0 R _ fun w st1 v A1 H1 H01 ⟨a, ew, q⟩ R1 x1 s1 r1 => by
    subst ew
    cases r1
    exact ⟨⟨a, rfl⟩, a, rfl, rfl, trivial, k _ st1 _ A1 H1 H01 q R1 x1 s1 (.bl _)⟩)
theorem ew_startswith (h : EW X G o sl st fun w st1 => ∃ a : Str, w = .dat (.str a) ∧ EW X G e sl st1 fun w2 st2 => ∃ b : Str, w2 = .dat (.str b) ∧ Φ (.dat (.bl (Txt.startswith a b))) st2) (h1 : starEach [e] X.env = [(false, eval e X.env)] := by rfl) (h2 : attributeBase o "startswith" X.env (eval o X.env) = eval o X.env := by rfl) (h3 : (apos.endLine == pos.line) = true := by rfl) : EW X G (.Call (.Attribute o "startswith" apos) [e] [] pos) sl st Φ := fun A σ H H0 R Q k =>
  wpE_of (pe_m1 PySem.F.slot_str_startswith PySem.F.type_str_startswith mt_startswith pe_wp pe_wp h1 h2 h3) (h A σ H H0 R _ fun w st1 v A1 H1 H01 ⟨a, ew, q⟩ R1 x1 s1 r1 => by
    subst ew
    cases r1
    refine ⟨⟨a, rfl⟩, q A1 σ H1 H01 R1 _ fun w2 st2 v2 A2 H2 H02 ⟨b, ew2, q2⟩ R2 x2 s2 r2 => ?_⟩
    subst ew2
    cases r2
    exact ⟨a, b, rfl, rfl, k _ st2 _ A2 H2 H02 q2 R2 (x1.trans x2) (s1.trans s2) (.bl _)⟩)
theorem ew_endswith (h : EW X G o sl st fun w st1 => ∃ a : Str, w = .dat (.str a) ∧ EW X G e sl st1 fun w2 st2 => ∃ b : Str, w2 = .dat (.str b) ∧ Φ (.dat (.bl (Txt.endswith a b))) st2) (h1 : starEach [e] X.env = [(false, eval e X.env)] := by rfl) (h2 : attributeBase o "endswith" X.env (eval o X.env) = eval o X.env := by rfl) (h3 : (apos.endLine == pos.line) = true := by rfl) : EW X G (.Call (.Attribute o "endswith" apos) [e] [] pos) sl st Φ := fun A σ H H0 R Q k =>
  wpE_of (pe_m1 PySem.F.slot_str_endswith PySem.F.type_str_endswith mt_endswith pe_wp pe_wp h1 h2 h3) (h A σ H H0 R _ fun w st1 v A1 H1 H01 ⟨a, ew, q⟩ R1 x1 s1 r1 => by
    subst ew
    cases r1
    refine ⟨⟨a, rfl⟩, q A1 σ H1 H01 R1 _ fun w2 st2 v2 A2 H2 H02 ⟨b, ew2, q2⟩ R2 x2 s2 r2 => ?_⟩
    subst ew2
    cases r2
    exact ⟨a, b, rfl, rfl, k _ st2 _ A2 H2 H02 q2 R2 (x1.trans x2) (s1.trans s2) (.bl _)⟩)
theorem ew_removesuffix (h : EW X G o sl st fun w st1 => ∃ a : Str, w = .dat (.str a) ∧ a.length ≤ sizeLine ∧ EW X G e sl st1 fun w2 st2 => ∃ b : Str, w2 = .dat (.str b) ∧ Φ (.dat (.str (Txt.removesuffix a b))) st2) (h1 : starEach [e] X.env = [(false, eval e X.env)] := by rfl) (h2 : attributeBase o "removesuffix" X.env (eval o X.env) = eval o X.env := by rfl) (h3 : (apos.endLine == pos.line) = true := by rfl) : EW X G (.Call (.Attribute o "removesuffix" apos) [e] [] pos) sl st Φ := fun A σ H H0 R Q k =>
  wpE_of (pe_m1 PySem.F.slot_str_removesuffix PySem.F.type_str_removesuffix mt_removesuffix pe_wp pe_wp h1 h2 h3) (h A σ H H0 R _ fun w st1 v A1 H1 H01 ⟨a, ew, hz, q⟩ R1 x1 s1 r1 => by
    subst ew
    cases r1
    refine ⟨⟨a, rfl⟩, q A1 σ H1 H01 R1 _ fun w2 st2 v2 A2 H2 H02 ⟨b, ew2, q2⟩ R2 x2 s2 r2 => ?_⟩
    subst ew2
    cases r2
    exact ⟨a, b, rfl, rfl, hz, k _ st2 _ A2 H2 H02 q2 R2 (x1.trans x2) (s1.trans s2) (.str _)⟩)
theorem reps_of_strs {K : PySem.W.Frag} {H : Hp} : ∀ ys : List Str, Reps K H (ys.map V.str) (ys.map D.str)
  | [] => .nil
  | y :: ys => .cons (.str y) (reps_of_strs ys)
theorem ew_split (h : EW X G o sl st fun w st1 => ∃ a : Str, w = .dat (.str a) ∧ a.length + 2 ≤ sizeLine ∧ EW X G e sl st1 fun w2 st2 => ∃ b : Str, w2 = .dat (.str b) ∧ (b.length == 0) = false ∧ Φ (.dat (.lst ((Txt.split a b).map D.str))) st2) (h1 : starEach [e] X.env = [(false, eval e X.env)] := by rfl) (h2 : attributeBase o "split" X.env (eval o X.env) = eval o X.env := by rfl) (h3 : (apos.endLine == pos.line) = true := by rfl) : EW X G (.Call (.Attribute o "split" apos) [e] [] pos) sl st Φ := fun A σ H H0 R Q k =>
  wpE_of (pe_split pe_wp pe_wp h1 h2 h3) (h A σ H H0 R _ fun w st1 v A1 H1 H01 ⟨a, ew, hz, q⟩ R1 x1 s1 r1 => by
    subst ew
    cases r1
    refine ⟨⟨a, rfl⟩, q A1 σ H1 H01 R1 _ fun w2 st2 v2 A2 H2 H02 ⟨b, ew2, hb, q2⟩ R2 x2 s2 r2 => ?_⟩
    subst ew2
    cases r2
    exact ⟨a, b, rfl, rfl, hb, hz, fun p hp => k _ st2 _ A2 _ _ q2 (R2.alloc hp) (x1.trans x2) ((s1.trans s2).trans (same_upd (R2.hs.free0 hp))) (.lst upd_same (reps_of_strs _))⟩)
theorem ew_partition (h : EW X G o sl st fun w st1 => ∃ a : Str, w = .dat (.str a) ∧ a.length ≤ sizeLine ∧ EW X G e sl st1 fun w2 st2 => ∃ b : Str, w2 = .dat (.str b) ∧ (b.length == 0) = false ∧ Φ (.dat (.tup [.str (Txt.partition a b).1, .str (Txt.partition a b).2.1, .str (Txt.partition a b).2.2])) st2) (h1 : starEach [e] X.env = [(false, eval e X.env)] := by rfl) (h2 : attributeBase o "partition" X.env (eval o X.env) = eval o X.env := by rfl) (h3 : (apos.endLine == pos.line) = true := by rfl) : EW X G (.Call (.Attribute o "partition" apos) [e] [] pos) sl st Φ := fun A σ H H0 R Q k =>
  wpE_of (pe_partition pe_wp pe_wp h1 h2 h3) (h A σ H H0 R _ fun w st1 v A1 H1 H01 ⟨a, ew, hz, q⟩ R1 x1 s1 r1 => by
    subst ew
    cases r1
    refine ⟨⟨a, rfl⟩, q A1 σ H1 H01 R1 _ fun w2 st2 v2 A2 H2 H02 ⟨b, ew2, hb, q2⟩ R2 x2 s2 r2 => ?_⟩
    subst ew2
    cases r2
    exact ⟨a, b, rfl, rfl, hb, hz, fun p hp => k _ st2 _ A2 _ _ q2 (R2.alloc hp) (x1.trans x2) ((s1.trans s2).trans (same_upd (R2.hs.free0 hp))) (.tup upd_same (reps_of_strs [_, _, _]))⟩)
theorem zipW_length2 {xs ys : List D} (hl : ys.length ≤ xs.length) : (zipW xs ys).length = ys.length := by
  unfold zipW
  rw [List.length_map, List.length_zip]
  omega
theorem items_zip2 {K : PySem.W.Frag} {a b : Addr} {vs us : List V} {xs ys : List D} {A1 : List Addr} {H01 : Hp} (hl : ys.length ≤ xs.length) (he : H01 a = some (.lst vs)) (rr : Reps K H01 vs xs) (he2 : H01 b = some (.lst us)) (rr2 : Reps K H01 us ys) : Items K (Itz K a b) (zipW xs ys) A1 H01 := fun i G' A' σ' H' H0' sl' st' R x s => by
  have hs : SqL K H' a vs := .inl (.inl (R.hs.le _ _ (s _ _ he)))
  have hs2 : SqL K H' b us := .inl (.inl (R.hs.le _ _ (s _ _ he2)))
  have l1 := rr.length
  have l2 := rr2.length
  rw [zipW_length2 hl]
  refine ⟨fun hi => ⟨⟨vs, us, vs[i]'(by omega), us[i]'(by omega), hs, hs2, List.getElem?_eq_getElem _, List.getElem?_eq_getElem _⟩, fun v H'' y => ?_⟩, fun hi => ⟨vs, us, hs, hs2, .inr (by omega)⟩⟩
  obtain ⟨T, x, z, ev, hT, eH, y1, y2⟩ := y
  subst ev eH
  obtain ⟨d, hd, rd⟩ := rr.get' (y1 vs hs)
  obtain ⟨e, hd2, rd2⟩ := rr2.get' (y2 us hs2)
  have s0 := same_upd (o := .tup [x, z]) (R.hs.free0 hT)
  exact ⟨_, _, zipW_get hd hd2, R.alloc hT, s0, same_upd hT, .tup upd_same (.cons ((rd.mono s).mono s0) (.cons ((rd2.mono s).mono s0) .nil))⟩
theorem iw_zip2 {a b : Expr} {Θ : IK} {elts : List Expr} {kk : Nat} {p pos tpos : Pos} (hm : X.mg "zip" = none) (h : AW X G [a, b] sl st fun ws st1 => ∃ xs ys, ws = [.dat (.lst xs), .dat (.lst ys)] ∧ ys.length ≤ xs.length ∧ Θ (zipW xs ys) st1) (hg : Gl X "zip" := by rfl) (hs : starEach [a, b] X.env = (false, eval a X.env) :: starEach [b] X.env := by rfl) (hs2 : ((backTo pos (starEach [b] X.env)).any fun x => x.1) = false := by rfl) :
    IWJ X G (.Tuple elts kk tpos) (.Call (.Name "zip" p) [a, b] [] pos) sl st Θ := fun A σ H H0 R Rr k =>
  wpI_of (pi_zip hg hm pa_wp hs hs2) (h A σ H H0 R _ fun ws st1 vs A1 H1 H01 ⟨xs, ys, ew, hl, q⟩ R1 x1 s1 r1 => by
    subst ew
    obtain ⟨v, u, rfl, r, r'⟩ := rep2 r1
    cases r with
    | lst e rr =>
    cases r' with
    | lst e' rr' => exact ⟨_, _, _, _, rfl, .inl (.inl (R1.hs.le _ _ e)), .inl (.inl (R1.hs.le _ _ e')), k _ _ st1 A1 H1 H01 q R1 x1 s1 (items_zip2 hl e rr e' rr')⟩)
end
end Dn
namespace Dn
open PySem PySem.Spec L2 StX ClX
open PyProof.Rows hiding St
section
variable {X : Cx} {G : Ent} {tg iter elt c : Expr} {scope : Scope} {tb : Bool} {is vs : List Nat} {sl : Sls} {st : List Ob} {fin : List D → List Ob → Prop}
theorem lcj_mapS {α : Type} (hi : IWJ X G tg iter sl st fun ws st1 => ∃ (xs : List α) (r g : α → D), ws = (xs.map r).map W.dat ∧ xs.length < sizeLine ∧
      (∀ x ∈ xs, ∃ sl2, tset tb is (.dat (r x)) (wipeL sl vs) = some sl2 ∧ EWb X scope elt sl2 st1 fun w st' => w = .dat (g x) ∧ st' = st1) ∧ fin (xs.map g) st1) : LcJ X G tg iter [] elt scope tb is vs sl st fin := fun A σ H H0 R Rr k =>
  hi A σ H H0 R Rr fun J ws st1 A1 H1 H01 ⟨xs, r, g, ew, hz, turn, hf⟩ R1 x1 s1 it => k J ws st1 A1 H1 H01 ⟨fun i acc st' => acc = (xs.map g).take i ∧ st' = st1, ⟨by simp, rfl⟩, fun i w acc st' hw ⟨ea, es⟩ => by
    rw [ew, List.getElem?_map] at hw
    obtain ⟨d, hd, rfl⟩ := Option.map_eq_some_iff.mp hw
    rw [List.getElem?_map] at hd
    obtain ⟨x, hx, rfl⟩ := Option.map_eq_some_iff.mp hd
    obtain ⟨sl2, h1, h2⟩ := turn x (List.mem_of_getElem? hx)
    have hix := (List.getElem?_eq_some_iff.mp hx).1
    refine ⟨sl2, h1, fun G2 s Hb C cl fp => ?_⟩
    subst es
    refine (h2 G2 s Hb C cl fp).imp fun w' st2 ⟨ew, es2⟩ => ⟨g x, ew, ?_, ?_, es2⟩
    · rw [ea, List.length_take, List.length_map]
      omega
    · rw [ea, List.take_succ, List.getElem?_map, hx]
      rfl, fun acc st' ⟨ea, es⟩ => by
    rw [ea, ew, List.length_map, List.length_map, es, show xs.length = (xs.map g).length by rw [List.length_map], List.take_length]
    exact hf⟩ R1 x1 s1 it
end
theorem cw_dat {X : Cx} {G : Ent} {c : Value} {sl : Sls} {st : List Ob} {Φ : WK} {d d' : D} (e : d = d') (h : CW X G c sl st [.dat d'] Φ) : CW X G c sl st [.dat d] Φ := e ▸ h
theorem cutL_from {α : Type} (xs : List α) (k : Nat) : cutL xs (some (k : Int)) none = xs.drop k := by
  unfold cutL
  rw [HT.sIx_none, HT.sIx_nat]
  by_cases h : k ≤ xs.length
  · rw [Nat.min_eq_left h, List.take_of_length_le (by rw [List.length_drop]; exact Nat.le_refl _)]
  · rw [Nat.min_eq_right (by omega), Nat.sub_self, List.take_zero, List.drop_eq_nil_of_le (by omega)]
end Dn
namespace Dn
open PySem PySem.Spec L2 StX ClX
open PyProof.Rows hiding St
def keyD : D → Option Key
  | .int i => some (.inl i)
  | .str x => some (.inr x)
  | _ => none
def keysD : List D → Option (List Key)
  | [] => some []
  | d :: r => match keyD d, keysD r with
    | some k, some ks => some (k :: ks)
    | _, _ => none
def keyW : W → Option Key
  | .dat d => keyD d
  | _ => none
def keyT : W → Option (List Key)
  | .dat (.tup (d :: ds)) => keysD (d :: ds)
  | _ => none
theorem keyD_rep {K : PySem.W.Frag} {H : Hp} {v : V} {d : D} {k : Key} (h : Rep K H v d) (e : keyD d = some k) : v = kV k := by
  cases h <;> simp [keyD] at e <;> subst e <;> rfl
theorem keysD_rep {K : PySem.W.Frag} {H : Hp} : ∀ {vs : List V} {ds : List D} {ks : List Key}, Reps K H vs ds → keysD ds = some ks → vs = ks.map kV
  | _, _, _, .nil, e => by cases e; rfl
  | _, _, ks, .cons (d := d) (xs := r) a b, e => by
    unfold keysD at e
    cases h1 : keyD d with
    | none => rw [h1] at e; cases e
    | some k =>
      cases h2 : keysD r with
      | none => rw [h1, h2] at e; cases e
      | some ks' =>
        rw [h1, h2] at e
        cases e
        rw [keyD_rep a h1, keysD_rep b h2]
        rfl
theorem keyW_rep {K : PySem.W.Frag} {A : List Addr} {H : Hp} {v : V} {w : W} {k : Key} (h : RepW K A H v w) (e : keyW w = some k) : v = kV k := by
  cases w with
  | dat d => exact keyD_rep h e
  | ptr j => cases e
theorem keyT_rep {K : PySem.W.Frag} {A : List Addr} {H : Hp} {v : V} {w : W} {ks : List Key} (h : RepW K A H v w) (e : keyT w = some ks) : ∃ b, v = .ref b ∧ H b = some (.tup (ks.map kV)) := by
  cases w with
  | ptr j => cases e
  | dat d =>
    cases h with
    | tup eh rr =>
      cases rr with
      | nil => cases e
      | cons a b =>
        have e2 : keysD (_ :: _) = some ks := e
        exact ⟨_, rfl, by rw [eh, keysD_rep (.cons a b) e2]⟩
    | _ => cases e
section
variable {κ α : Type} [DecidableEq κ]
def valA (kvs : List (κ × α)) (k : κ) : Option α := (kvs.find? fun kv => decide (kv.1 = k)).map (·.2)
def putA (kvs : List (κ × α)) (k : κ) (v : α) : List (κ × α) :=
  if (kvs.any fun kv => decide (kv.1 = k)) = true then kvs.map (fun kv => if kv.1 = k then (kv.1, v) else kv) else kvs ++ [(k, v)]
theorem valA_nil {k : κ} : valA ([] : List (κ × α)) k = none := rfl
theorem valA_cons {p : κ × α} {r : List (κ × α)} {k : κ} : valA (p :: r) k = if p.1 = k then some p.2 else valA r k := by
  unfold valA
  rw [List.find?_cons]
  by_cases h : p.1 = k
  · rw [if_pos h, decide_eq_true h]; rfl
  · rw [if_neg h, decide_eq_false h]
theorem valA_any (k : κ) : ∀ kvs : List (κ × α), (kvs.any fun kv => decide (kv.1 = k)) = (valA kvs k).isSome
  | [] => rfl
  | p :: r => by
    rw [List.any_cons, valA_cons, valA_any k r]
    by_cases h : p.1 = k
    · rw [if_pos h, decide_eq_true h]; rfl
    · rw [if_neg h, decide_eq_false h]; rfl
theorem valA_put (kvs : List (κ × α)) (k j : κ) (y : α) : valA (putA kvs k y) j = if j = k then some y else valA kvs j := by
  unfold putA
  rw [valA_any]
  cases h : valA kvs k with
  | none =>
    rw [if_neg (by simp)]
    have : ∀ l : List (κ × α), valA l k = none → valA (l ++ [(k, y)]) j = if j = k then some y else valA l j := by
      intro l
      induction l with
      | nil => intro _; rw [List.nil_append, valA_cons, valA_nil]; by_cases e : k = j <;> simp [e, eq_comm]
      | cons p r ih =>
        intro hn
        rw [valA_cons] at hn
        by_cases hp : p.1 = k
        · rw [if_pos hp] at hn; cases hn
        · rw [if_neg hp] at hn
          rw [List.cons_append, valA_cons, valA_cons, ih hn]
          by_cases hj : p.1 = j
          · rw [if_pos hj, if_pos hj, if_neg (by rw [← hj]; exact hp)]
          · rw [if_neg hj, if_neg hj]
    exact this kvs h
  | some z =>
    rw [if_pos (by simp)]
    have : ∀ l : List (κ × α), (valA l k).isSome = true → valA (l.map fun kv => if kv.1 = k then (kv.1, y) else kv) j = if j = k then some y else valA l j := by
      intro l
      induction l with
      | nil => intro hn; cases hn
      | cons p r ih =>
        intro hn
        rw [valA_cons] at hn
        rw [List.map_cons, valA_cons, valA_cons]
        by_cases hp : p.1 = k
        · rw [if_pos hp]
          by_cases hj : p.1 = j
          · rw [if_pos hj, if_pos (by rw [← hj]; exact hp)]
          · rw [if_neg hj, if_neg hj]
            have hjk : ¬ j = k := fun e => hj (hp.trans e.symm)
            rw [if_neg hjk]
            have : ∀ l : List (κ × α), valA (l.map fun kv => if kv.1 = k then (kv.1, y) else kv) j = valA l j := by
              intro l
              induction l with
              | nil => rfl
              | cons q r ih2 =>
                rw [List.map_cons, valA_cons, valA_cons, ih2]
                by_cases hq : q.1 = k
                · rw [if_pos hq]
                  by_cases hqj : q.1 = j
                  · exact absurd (hqj.symm.trans hq) hjk
                  · rw [if_neg hqj, if_neg hqj]
                · rw [if_neg hq]
            exact this r
        · rw [if_neg hp] at hn
          rw [if_neg hp]
          by_cases hj : p.1 = j
          · rw [if_pos hj, if_pos hj, if_neg (fun e => hp (hj.trans e))]
          · rw [if_neg hj, if_neg hj, ih hn]
    exact this kvs (by rw [h]; rfl)
theorem putA_len (kvs : List (κ × α)) (k : κ) (v : α) : (putA kvs k v).length ≤ kvs.length + 1 := by
  unfold putA
  split <;> simp
theorem putA_new {kvs : List (κ × α)} {k : κ} (v : α) (h : valA kvs k = none) : putA kvs k v = kvs ++ [(k, v)] := by
  unfold putA
  rw [valA_any, h, if_neg (by simp)]
theorem putA_keys {kvs : List (κ × α)} {k : κ} (v : α) : (putA kvs k v).map (·.1) = if (valA kvs k).isSome = true then kvs.map (·.1) else kvs.map (·.1) ++ [k] := by
  unfold putA
  rw [valA_any]
  split
  · rw [List.map_map]
    apply List.map_congr_left
    intro p hp
    simp only [Function.comp]
    split <;> rfl
  · rw [List.map_append]; rfl
theorem valA_mem {kvs : List (κ × α)} {k : κ} {v : α} (h : valA kvs k = some v) : (k, v) ∈ kvs := by
  unfold valA at h
  obtain ⟨p, hp, e⟩ := Option.map_eq_some_iff.mp h
  have h1 := List.find?_some hp
  have h2 := List.mem_of_find?_eq_some hp
  have : p = (k, v) := by
    have h3 : p.1 = k := by simpa using h1
    rw [← h3, ← e]
  rw [← this]
  exact h2
theorem valA_none {kvs : List (κ × α)} {k : κ} : valA kvs k = none ↔ ∀ v, (k, v) ∉ kvs := by
  constructor
  · intro h v hm
    unfold valA at h
    rw [Option.map_eq_none_iff] at h
    have := List.find?_eq_none.mp h _ hm
    simp at this
  · intro h
    cases e : valA kvs k with
    | none => rfl
    | some v => exact absurd (valA_mem e) (h v)
theorem valA_of_mem {kvs : List (κ × α)} (hn : (kvs.map (·.1)).Nodup) {k : κ} {v : α} (h : (k, v) ∈ kvs) : valA kvs k = some v := by
  induction kvs with
  | nil => cases h
  | cons p r ih =>
    rw [List.map_cons, List.nodup_cons] at hn
    rw [valA_cons]
    rcases List.mem_cons.mp h with e | h
    · rw [← e, if_pos rfl]
    · rw [if_neg (fun e => hn.1 (by rw [e]; exact List.mem_map.mpr ⟨_, h, rfl⟩))]
      exact ih hn.2 h
theorem valA_map {β : Type} (f : α → β) (kvs : List (κ × α)) (k : κ) : valA (kvs.map fun p => (p.1, f p.2)) k = (valA kvs k).map f := by
  induction kvs with
  | nil => rfl
  | cons p r ih =>
    rw [List.map_cons, valA_cons, valA_cons, ih]
    split <;> rfl
end
section
variable {K : PySem.W.Frag} {A : List Addr} {H : Hp}
theorem repWK_val {κ : Type} [DecidableEq κ] : ∀ {vs : List (κ × V)} {ws : List (κ × W)} (k : κ), RepWK K A H vs ws → (valA ws k = none → valV vs k = none) ∧ ∀ w, valA ws k = some w → ∃ v, valV vs k = some v ∧ RepW K A H v w
  | [], [], k, _ => ⟨fun _ => rfl, fun w e => by cases e⟩
  | p :: vs, q :: ws, k, h => by
    have ih := repWK_val k h.2.2
    rw [valA_cons]
    by_cases e : q.1 = k
    · rw [if_pos e, valV_pos (h.1.trans e)]
      refine ⟨fun z => absurd z (by simp), fun w z => ?_⟩
      cases z
      exact ⟨_, rfl, h.2.1⟩
    · rw [if_neg e, valV_neg (fun z => e (h.1.symm.trans z))]
      exact ih
theorem repWK_put {κ : Type} [DecidableEq κ] {vs : List (κ × V)} {ws : List (κ × W)} (k : κ) {v : V} {w : W} (h : RepWK K A H vs ws) (r : RepW K A H v w) : RepWK K A H (putK vs k v) (putA ws k w) := by
  have any : (vs.any fun kv => decide (kv.1 = k)) = (ws.any fun kv => decide (kv.1 = k)) := by
    have : ∀ {vs : List (κ × V)} {ws : List (κ × W)}, RepWK K A H vs ws → (vs.any fun kv => decide (kv.1 = k)) = (ws.any fun kv => decide (kv.1 = k)) := by
      intro vs
      induction vs with
      | nil => intro ws h; cases ws with
        | nil => rfl
        | cons => exact h.elim
      | cons p vs ih => intro ws h; cases ws with
        | nil => exact h.elim
        | cons q ws => rw [List.any_cons, List.any_cons, ih h.2.2, h.1]
    exact this h
  unfold putK putA
  rw [any]
  split
  · have : ∀ {vs : List (κ × V)} {ws : List (κ × W)}, RepWK K A H vs ws → RepWK K A H (vs.map fun kv => if kv.1 = k then (kv.1, v) else kv) (ws.map fun kv => if kv.1 = k then (kv.1, w) else kv) := by
      intro vs
      induction vs with
      | nil => intro ws h; cases ws with
        | nil => trivial
        | cons => exact h.elim
      | cons p vs ih => intro ws h; cases ws with
        | nil => exact h.elim
        | cons q ws =>
          rw [List.map_cons, List.map_cons]
          refine ⟨?_, ?_, ih h.2.2⟩
          · rw [h.1]; split
            · rfl
            · exact h.1
          · rw [h.1]; split
            · exact r
            · exact h.2.1
    exact this h
  · have : ∀ {vs : List (κ × V)} {ws : List (κ × W)}, RepWK K A H vs ws → RepWK K A H (vs ++ [(k, v)]) (ws ++ [(k, w)]) := by
      intro vs
      induction vs with
      | nil => intro ws h; cases ws with
        | nil => exact ⟨rfl, r, trivial⟩
        | cons => exact h.elim
      | cons p vs ih => intro ws h; cases ws with
        | nil => exact h.elim
        | cons q ws => exact ⟨h.1, h.2.1, ih h.2.2⟩
    exact this h
theorem repWK_len {κ : Type} : ∀ {vs : List (κ × V)} {ws : List (κ × W)}, RepWK K A H vs ws → vs.length = ws.length
  | [], [], _ => rfl
  | _ :: _, _ :: _, h => by rw [List.length_cons, List.length_cons, repWK_len h.2.2]
theorem repWK_of {κ : Type} : ∀ {vs : List (κ × V)} {kvs : List (κ × D)}, vs.map (·.1) = kvs.map (·.1) → Reps K H (vs.map (·.2)) (kvs.map (·.2)) → RepWK K A H vs (kvs.map fun p => (p.1, W.dat p.2))
  | [], [], _, _ => trivial
  | p :: vs, q :: kvs, e, h => by
    rw [List.map_cons, List.map_cons] at e h
    injection e with e1 e2
    cases h with
    | cons a b => exact ⟨e1, a, repWK_of e2 b⟩
  | [], _ :: _, e, _ => by simp at e
  | _ :: _, [], e, _ => by simp at e
theorem repWK_dats {κ : Type} : ∀ {vs : List (κ × V)} {kvs : List (κ × D)}, RepWK K A H vs (kvs.map fun p => (p.1, W.dat p.2)) → vs.map (·.1) = kvs.map (·.1) ∧ Reps K H (vs.map (·.2)) (kvs.map (·.2))
  | [], [], _ => ⟨rfl, .nil⟩
  | p :: vs, q :: kvs, h => by
    obtain ⟨a, b⟩ := repWK_dats h.2.2
    exact ⟨by rw [List.map_cons, List.map_cons, h.1, a], .cons h.2.1 b⟩
def DLook (st : List Ob) (w k : W) (r : Option W) : Prop :=
  (∃ j kvs x, w = .ptr j ∧ st[j]? = some (.dct kvs) ∧ keyW k = some x ∧ r = valA kvs x) ∨ (∃ j kvs x, w = .ptr j ∧ st[j]? = some (.dtt kvs) ∧ keyT k = some x ∧ r = valA kvs x) ∨
  (∃ kvs x, w = .dat (.dk kvs) ∧ keyW k = some x ∧ r = (valA kvs x).map W.dat) ∨ (∃ kvs x, w = .dat (.dt kvs) ∧ keyT k = some x ∧ r = (valA kvs x).map W.dat)
theorem DLook.k {st : List Ob} {j : Nat} {kvs : List (Key × W)} {k : W} {x : Key} (h : st[j]? = some (.dct kvs)) (hk : keyW k = some x) : DLook st (.ptr j) k (valA kvs x) := .inl ⟨j, kvs, x, rfl, h, hk, rfl⟩
theorem DLook.t {st : List Ob} {j : Nat} {kvs : List (List Key × W)} {k : W} {x : List Key} (h : st[j]? = some (.dtt kvs)) (hk : keyT k = some x) : DLook st (.ptr j) k (valA kvs x) := .inr (.inl ⟨j, kvs, x, rfl, h, hk, rfl⟩)
theorem DLook.dk {st : List Ob} {kvs : List (Key × D)} {k : W} {x : Key} (hk : keyW k = some x) : DLook st (.dat (.dk kvs)) k ((valA kvs x).map W.dat) := .inr (.inr (.inl ⟨kvs, x, rfl, hk, rfl⟩))
theorem DLook.dt {st : List Ob} {kvs : List (List Key × D)} {k : W} {x : List Key} (hk : keyT k = some x) : DLook st (.dat (.dt kvs)) k ((valA kvs x).map W.dat) := .inr (.inr (.inr ⟨kvs, x, rfl, hk, rfl⟩))
theorem dlook_at {G : Ent} {σ : St} {H0 : Hp} {sl : Sls} {st : List Ob} {w k : W} {r : Option W} {v y : V} (R : RS K G A σ H H0 sl st) (h : DLook st w k r) (rv : RepW K A H0 v w) (ry : RepW K A H0 y k) :
    ∃ a o, v = .ref a ∧ DGet H a y o ∧ (r = none → o = none) ∧ ∀ w', r = some w' → ∃ v', o = some v' ∧ RepW K A H0 v' w' := by
  rcases h with ⟨j, kvs, x, rfl, hj, hk, rfl⟩ | ⟨j, kvs, x, rfl, hj, hk, rfl⟩ | ⟨kvs, x, rfl, hk, rfl⟩ | ⟨kvs, x, rfl, hk, rfl⟩
  · obtain ⟨ad, ha, _, vs, he, rr⟩ := R.at hj
    obtain ⟨a', ha', rfl⟩ := rv
    have : a' = ad := Option.some.inj (ha'.symm.trans ha)
    subst this
    rw [keyW_rep ry hk]
    exact ⟨_, _, rfl, DGet.k he, repWK_val x rr⟩
  · obtain ⟨ad, ha, _, vs, he, rr⟩ := R.at hj
    obtain ⟨a', ha', rfl⟩ := rv
    have : a' = ad := Option.some.inj (ha'.symm.trans ha)
    subst this
    obtain ⟨b, rfl, hb⟩ := keyT_rep ry hk
    exact ⟨_, _, rfl, DGet.t he (R.hs.le _ _ hb), repWK_val x rr⟩
  · cases rv with
    | @dk a od vs _ eh e1 rr =>
      have rk := repWK_of (A := A) e1 rr
      rw [keyW_rep ry hk]
      refine ⟨_, _, rfl, .inl ⟨vs, x, .inr ⟨_, R.hs.le _ _ eh⟩, rfl, rfl⟩, ?_⟩
      rw [← valA_map]
      exact repWK_val x rk
  · cases rv with
    | @dt a od vs _ eh e1 rr =>
      have rk := repWK_of (A := A) e1 rr
      obtain ⟨b, rfl, hb⟩ := keyT_rep ry hk
      refine ⟨_, _, rfl, .inr ⟨vs, x, b, .inr ⟨_, R.hs.le _ _ eh⟩, rfl, R.hs.le _ _ hb, rfl⟩, ?_⟩
      rw [← valA_map]
      exact repWK_val x rk
theorem dlook_isD {G : Ent} {σ : St} {H0 : Hp} {sl : Sls} {st : List Ob} {w : W} {v : V} (R : RS K G A σ H H0 sl st) (h : (∃ j kvs, w = .ptr j ∧ (st[j]? = some (.dct kvs))) ∨ (∃ j kvs, w = .ptr j ∧ (st[j]? = some (.dtt kvs))) ∨ (∃ kvs, w = .dat (.dk kvs)) ∨ (∃ kvs, w = .dat (.dt kvs))) (rv : RepW K A H0 v w) : ∃ a, v = .ref a ∧ IsD H a := by
  rcases h with ⟨j, kvs, rfl, hj⟩ | ⟨j, kvs, rfl, hj⟩ | ⟨kvs, rfl⟩ | ⟨kvs, rfl⟩
  · obtain ⟨ad, ha, _, vs, he, rr⟩ := R.at hj
    obtain ⟨a', ha', rfl⟩ := rv
    have : a' = ad := Option.some.inj (ha'.symm.trans ha)
    subst this
    exact ⟨_, rfl, .inl ⟨_, .inl he⟩⟩
  · obtain ⟨ad, ha, _, vs, he, rr⟩ := R.at hj
    obtain ⟨a', ha', rfl⟩ := rv
    have : a' = ad := Option.some.inj (ha'.symm.trans ha)
    subst this
    exact ⟨_, rfl, .inr ⟨_, .inl he⟩⟩
  · cases rv with
    | dk eh e1 rr => exact ⟨_, rfl, .inl ⟨_, .inr ⟨_, R.hs.le _ _ eh⟩⟩⟩
  · cases rv with
    | dt eh e1 rr => exact ⟨_, rfl, .inr ⟨_, .inr ⟨_, R.hs.le _ _ eh⟩⟩⟩
end
section
variable {X : Cx} {G : Ent} {o i e value c : Expr} {sl : Sls} {st : List Ob} {Φ : WK} {E : KE} {pos pos' apos cpos tpos : Pos} {j : Nat}
theorem RoomG.u1 {A : Around} (hr : RoomG j A) : A.units + 1 < cLine := Nat.lt_of_le_of_lt (by omega) hr.units
theorem ew_dget (hr : RoomG j X.A) (h : EW X G o sl st fun w1 st1 => EW X G i sl st1 fun w2 st2 => ∃ w, DLook st2 w1 w2 (some w) ∧ Φ w st2) (hs : NoSl i := by exact fun _ _ => rfl) : EW X G (.Subscript o i pos) sl st Φ := fun A σ H H0 R Q k =>
  wpE_of (pe_dget hr.u1 pe_wp pe_wp hs) (h A σ H H0 R _ fun w1 st1 v1 A1 H1 H01 e1 R1 x1 s1 r1 => e1 A1 σ H1 H01 R1 _ fun w2 st2 v2 A2 H2 H02 ⟨w, hl, q⟩ R2 x2 s2 r2 => by
    obtain ⟨a, o', ev, hg, _, hs'⟩ := dlook_at R2 hl (r1.mono x2 s2) r2
    obtain ⟨v', rfl, rv⟩ := hs' w rfl
    exact ⟨a, v', ev, hg, k w st2 v' A2 H2 H02 q R2 (x1.trans x2) (s1.trans s2) rv⟩)
theorem o_inDk {w1 w2 : W} {r : Option W} (hr : RoomG j X.A) (hl : DLook st w2 w1 r) (h : Φ (.dat (.bl r.isSome)) st) : OW X G (compareOp .In) sl st w1 w2 Φ := fun A σ H H0 R v1 v2 r1 r2 Q k pins s σ' u1 u2 I i1 i2 => by
  obtain ⟨a, o', rfl, hg, hn, hs⟩ := dlook_at R hl r2 r1
  cases (show u2 = Value.ref a from i2)
  refine d_in hr.u1 I hg i1 fun s' I' => ?_
  have e : o'.isSome = r.isSome := by
    cases r with
    | none => rw [hn rfl]; rfl
    | some w => obtain ⟨v', rfl, _⟩ := hs w rfl; rfl
  exact ⟨.bl o'.isSome, H, I', rfl, by rw [e]; exact k _ st _ A H H0 h R (Ext.refl _) (Same.refl _) (.bl _)⟩
theorem o_notinDk {w1 w2 : W} {r : Option W} (hr : RoomG j X.A) (hl : DLook st w2 w1 r) (h : Φ (.dat (.bl (!r.isSome))) st) : OW X G (compareOp .NotIn) sl st w1 w2 Φ := fun A σ H H0 R v1 v2 r1 r2 Q k pins s σ' u1 u2 I i1 i2 => by
  obtain ⟨a, o', rfl, hg, hn, hs⟩ := dlook_at R hl r2 r1
  cases (show u2 = Value.ref a from i2)
  refine d_notIn hr.u1 I hg i1 fun s' I' => ?_
  have e : o'.isSome = r.isSome := by
    cases r with
    | none => rw [hn rfl]; rfl
    | some w => obtain ⟨v', rfl, _⟩ := hs w rfl; rfl
  exact ⟨.bl (!o'.isSome), H, I', rfl, by rw [e]; exact k _ st _ A H H0 h R (Ext.refl _) (Same.refl _) (.bl _)⟩
theorem sw_dputK (hr : RoomG j X.A) (h : EW X G value sl st fun wv st1 => EW X G o sl st1 fun wo st2 => EW X G i sl st2 fun wk st3 => ∃ n kvs x, wo = .ptr n ∧ st3[n]? = some (.dct kvs) ∧ keyW wk = some x ∧ kvs.length < sizeLine ∧ E.nx sl (st3.set n (.dct (putA kvs x wv))))
    (hs : swapsWith value (some (.Subscript o i pos')) pos.line X.env = pure false := by rfl) : SW1 X G (.Assign [.Subscript o i pos'] value pos) sl st E := fun A σ H H0 R D k =>
  wpS_of (ps_dput hr.u1 pe_wp pe_wp pe_wp hs) (h A σ H H0 R _ fun wv st1 vv A1 H1 H01 e1 R1 x1 s1 r1 => e1 A1 σ H1 H01 R1 _ fun wo st2 vo A2 H2 H02 e2 R2 x2 s2 r2 => e2 A2 σ H2 H02 R2 _ fun wk st3 vk A3 H3 H03 ⟨n, kvs, x, ew, hn, hk, hz, q⟩ R3 x3 s3 r3 => by
    subst ew
    obtain ⟨ad, ha, h0, vs, he, rr⟩ := R3.at hn
    obtain ⟨a', ha', rfl⟩ := r2.mono x3 s3
    have : a' = ad := Option.some.inj (ha'.symm.trans ha)
    subst this
    rw [keyW_rep r3 hk]
    have rv := r1.mono (x2.trans x3) (s2.trans s3)
    exact ⟨_, _, rfl, DPut.k he (by rw [repWK_len rr]; exact hz), k.nx A3 σ _ H03 sl _ q (R3.write ha hn h0 ⟨h0, _, upd_same, repWK_put x rr rv⟩) (x1.trans (x2.trans x3)) (s1.trans (s2.trans s3))⟩)
theorem sw_dputT (hr : RoomG j X.A) (h : EW X G value sl st fun wv st1 => EW X G o sl st1 fun wo st2 => EW X G i sl st2 fun wk st3 => ∃ n kvs x, wo = .ptr n ∧ st3[n]? = some (.dtt kvs) ∧ keyT wk = some x ∧ kvs.length < sizeLine ∧ E.nx sl (st3.set n (.dtt (putA kvs x wv))))
    (hs : swapsWith value (some (.Subscript o i pos')) pos.line X.env = pure false := by rfl) : SW1 X G (.Assign [.Subscript o i pos'] value pos) sl st E := fun A σ H H0 R D k =>
  wpS_of (ps_dput hr.u1 pe_wp pe_wp pe_wp hs) (h A σ H H0 R _ fun wv st1 vv A1 H1 H01 e1 R1 x1 s1 r1 => e1 A1 σ H1 H01 R1 _ fun wo st2 vo A2 H2 H02 e2 R2 x2 s2 r2 => e2 A2 σ H2 H02 R2 _ fun wk st3 vk A3 H3 H03 ⟨n, kvs, x, ew, hn, hk, hz, q⟩ R3 x3 s3 r3 => by
    subst ew
    obtain ⟨ad, ha, h0, vs, he, rr⟩ := R3.at hn
    obtain ⟨a', ha', rfl⟩ := r2.mono x3 s3
    have : a' = ad := Option.some.inj (ha'.symm.trans ha)
    subst this
    obtain ⟨b, rfl, hb⟩ := keyT_rep r3 hk
    have rv := r1.mono (x2.trans x3) (s2.trans s3)
    exact ⟨_, _, rfl, DPut.t he (R3.hs.le _ _ hb) (by rw [repWK_len rr]; exact hz), k.nx A3 σ _ H03 sl _ q (R3.write ha hn h0 ⟨h0, _, upd_same, repWK_put x rr rv⟩) (x1.trans (x2.trans x3)) (s1.trans (s2.trans s3))⟩)
theorem ew_dnewK (h : Φ (.ptr st.length) (st ++ [.dct []])) : EW X G (.Dict [] [] pos) sl st Φ := fun A σ H H0 R Q k => by
  refine wpE_of pe_dnewK fun p hp => ?_
  have e : Ext A (A ++ [p]) := ⟨[p], rfl⟩
  refine k _ _ _ _ _ _ h (R.push hp ⟨R.hs.free0 hp, [], upd_same, trivial⟩) e (Same.refl _) ⟨p, ?_, rfl⟩
  rw [← R.hs.al, List.getElem?_append_right (Nat.le_refl _)]
  simp
theorem ew_dnewT (h : Φ (.ptr st.length) (st ++ [.dtt []])) : EW X G (.Dict [] [] pos) sl st Φ := fun A σ H H0 R Q k => by
  refine wpE_of pe_dnewT fun p hp => ?_
  have e : Ext A (A ++ [p]) := ⟨[p], rfl⟩
  refine k _ _ _ _ _ _ h (R.push hp ⟨R.hs.free0 hp, [], upd_same, trivial⟩) e (Same.refl _) ⟨p, ?_, rfl⟩
  rw [← R.hs.al, List.getElem?_append_right (Nat.le_refl _)]
  simp
def IsDW (st : List Ob) (w : W) : Prop := (∃ j kvs, w = .ptr j ∧ (st[j]? = some (.dct kvs))) ∨ (∃ j kvs, w = .ptr j ∧ (st[j]? = some (.dtt kvs))) ∨ (∃ kvs, w = .dat (.dk kvs)) ∨ (∃ kvs, w = .dat (.dt kvs))
theorem ew_dget1 (hr : RoomG j X.A) (h : EW X G o sl st fun w1 st1 => IsDW st1 w1 ∧ EW X G e sl st1 fun w2 st2 => ∃ r, DLook st2 w1 w2 r ∧ Φ (r.getD (.dat .non)) st2)
    (m : M1 X o "get" apos e cpos := by exact ⟨rfl, rfl, rfl, rfl⟩) : EW X G (.Call (.Attribute o "get" apos) [e] [] cpos) sl st Φ := fun A σ H H0 R Q k =>
  wpE_of (pe_dget1 hr.u1 pe_wp pe_wp m) (h A σ H H0 R _ fun w1 st1 v1 A1 H1 H01 ⟨hd, q1⟩ R1 x1 s1 r1 => by
    obtain ⟨a, rfl, d⟩ := dlook_isD R1 hd r1
    refine ⟨a, rfl, d, q1 A1 σ H1 H01 R1 _ fun w2 st2 v2 A2 H2 H02 ⟨r, hl, q⟩ R2 x2 s2 r2 => ?_⟩
    obtain ⟨a', o', ea, hg, hn, hs⟩ := dlook_at R2 hl (r1.mono x2 s2) r2
    cases ea
    refine ⟨o', hg, ?_⟩
    cases r with
    | none => rw [hn rfl]; exact k _ st2 _ A2 H2 H02 q R2 (x1.trans x2) (s1.trans s2) .non
    | some w => obtain ⟨v', rfl, rv⟩ := hs w rfl; exact k _ st2 _ A2 H2 H02 q R2 (x1.trans x2) (s1.trans s2) rv)
end
end Dn
namespace Dn
open PySem PySem.Spec L2 StX ClX
open PyProof.Rows hiding St
section
variable {K : PySem.W.Frag} {G : Ent} {A : List Addr} {σ : St} {H H0 : Hp} {sl : Sls} {st : List Ob}
theorem own_new (R : RS K G A σ H H0 sl st) {j : Nat} {a : Addr} (ha : A[j]? = some a) (hg : G.A.length ≤ j) : G.H a = none := by
  rcases R.fr.loc a (List.mem_of_getElem? ha) with z | z
  · exfalso
    obtain ⟨i, hi, e⟩ := List.mem_iff_getElem.mp z
    have h1 := R.fr.pre.get (List.getElem?_eq_getElem hi)
    rw [e] at h1
    have h2 := List.getElem?_eq_some_iff.mp h1
    have h3 := List.getElem?_eq_some_iff.mp ha
    have := (List.getElem_inj R.hs.nd).mp (h2.2.trans h3.2.symm)
    omega
  · exact z
theorem RS.lock (R : RS K G A σ H H0 sl st) {j : Nat} {p : Addr} {o : HO} {u : Ob} (hj : A[j]? = some p) (hs : st[j]? = some u) (h0 : H0 p = none) (hG : G.H p = none) : RS K G A σ (upd H p o) (upd H0 p o) sl (st.set j .gone) := by
  have s0 : Same H0 (upd H0 p o) := same_upd h0
  refine ⟨R.sl.mono (Ext.refl _) s0, ⟨fun b v h => ?_, by simp [R.hs.al], R.hs.nd, fun i a x ha hx => ?_⟩, ⟨fun b v h hb => ?_, R.fr.old.trans s0, fun b v h => ?_, R.fr.pre, R.fr.loc⟩⟩
  · by_cases hb : b = p
    · subst hb
      rw [upd_same] at h ⊢
      exact h
    · rw [upd_ne hb] at h ⊢
      exact R.hs.le _ _ h
  · by_cases hi : j = i
    · subst hi
      rw [List.getElem?_set_self (List.getElem?_eq_some_iff.mp hs).1] at hx
      cases hx
      have : a = p := Option.some.inj (ha.symm.trans hj)
      subst this
      exact ⟨o, upd_same⟩
    · rw [List.getElem?_set_ne hi] at hx
      have hap : a ≠ p := fun z => by
        subst z
        have h1 := List.getElem?_eq_some_iff.mp ha
        have h2 := List.getElem?_eq_some_iff.mp hj
        exact hi ((List.getElem_inj R.hs.nd).mp (h2.2.trans h1.2.symm))
      exact ((R.hs.ob i a x ha hx).mono0 (Ext.refl _) s0 fun z => by rw [upd_ne hap]; exact z).heap (upd_ne hap)
  · have hbp : b ≠ p := fun z => by
      subst z
      rw [hG] at h
      cases h
    rw [upd_ne hbp]
    exact R.fr.fr b v h hb
  · by_cases hb : b = p
    · subst hb
      exact .inr (fresh0_none hG)
    · rw [upd_ne hb] at h
      exact R.fr.new _ _ h
theorem RS.slot (R : RS K G A σ H H0 sl st) {i : Nat} {v : V} {w : W} (hi : i < sl.length) (hv : σ[i]? = some (some v)) (r : RepW K A H0 v w) : RS K G A σ H H0 (sl.set i (some w)) st := by
  refine ⟨⟨by rw [List.length_set]; exact R.sl.1, fun q w' hq => ?_⟩, R.hs, R.fr⟩
  by_cases hk : i = q
  · subst hk
    rw [List.getElem?_set_self hi] at hq
    cases hq
    exact ⟨v, hv, r⟩
  · rw [List.getElem?_set_ne hk] at hq
    exact R.sl.2 q w' hq
end
section
variable {X : Cx} {G : Ent} {ss : List Stmt} {sl : Sls} {st : List Ob} {E : KE}
theorem sw_frzT (i : Nat) {j : Nat} {kvs : List (List Key × D)} (hi : sl[i]? = some (some (.ptr j))) (hj : st[j]? = some (.dtt (kvs.map fun p => (p.1, W.dat p.2)))) (hg : G.A.length ≤ j) (h : SW X G ss (sl.set i (some (.dat (.dt kvs)))) (st.set j .gone) E) : SW X G ss sl st E := fun A σ H H0 R D k pins sh I => by
  obtain ⟨ad, ha, h0, vs, he, rr⟩ := R.at hj
  obtain ⟨v, hv, r⟩ := R.sl.2 i _ hi
  obtain ⟨a', ha', rfl⟩ := r
  have : a' = ad := Option.some.inj (ha'.symm.trans ha)
  subst this
  obtain ⟨od, I1⟩ := I.lock he trivial
  have R' := R.lock (o := .frz od (.dT vs)) ha hj h0 (own_new R ha hg)
  obtain ⟨e1, rp⟩ := repWK_dats rr
  have s0 : Same H0 (upd H0 a' (.frz od (.dT vs))) := same_upd h0
  exact h A σ _ _ (R'.slot (List.getElem?_eq_some_iff.mp hi).1 hv (show RepW _ _ _ _ (.dat (.dt kvs)) from .dt upd_same e1 (rp.mono s0))) D (k.mv (Ext.refl _) s0) pins sh I1
theorem sw_frzK (i : Nat) {j : Nat} {kvs : List (Key × D)} (hi : sl[i]? = some (some (.ptr j))) (hj : st[j]? = some (.dct (kvs.map fun p => (p.1, W.dat p.2)))) (hg : G.A.length ≤ j) (h : SW X G ss (sl.set i (some (.dat (.dk kvs)))) (st.set j .gone) E) : SW X G ss sl st E := fun A σ H H0 R D k pins sh I => by
  obtain ⟨ad, ha, h0, vs, he, rr⟩ := R.at hj
  obtain ⟨v, hv, r⟩ := R.sl.2 i _ hi
  obtain ⟨a', ha', rfl⟩ := r
  have : a' = ad := Option.some.inj (ha'.symm.trans ha)
  subst this
  obtain ⟨od, I1⟩ := I.lock he trivial
  have R' := R.lock (o := .frz od (.dK vs)) ha hj h0 (own_new R ha hg)
  obtain ⟨e1, rp⟩ := repWK_dats rr
  have s0 : Same H0 (upd H0 a' (.frz od (.dK vs))) := same_upd h0
  exact h A σ _ _ (R'.slot (List.getElem?_eq_some_iff.mp hi).1 hv (show RepW _ _ _ _ (.dat (.dk kvs)) from .dk upd_same e1 (rp.mono s0))) D (k.mv (Ext.refl _) s0) pins sh I1
def kD : Key → D
  | .inl i => .int i
  | .inr x => .str x
theorem reps_keys {K : PySem.W.Frag} {H : Hp} : ∀ ks : List Key, Reps K H (ks.map kV) (ks.map kD)
  | [] => .nil
  | .inl i :: ks => .cons (.int i) (reps_keys ks)
  | .inr x :: ks => .cons (.str x) (reps_keys ks)
def keysTW (kvs : List (List Key × D)) : List W := kvs.map fun p => W.dat (.tup (p.1.map kD))
theorem items_keysT {K : PySem.W.Frag} {a : Addr} {o : Obj} {vs : List (List Key × V)} {kvs : List (List Key × D)} {A1 : List Addr} {H01 : Hp} (he : H01 a = some (.frz o (.dT vs))) (e1 : vs.map (·.1) = kvs.map (·.1)) : Items K (Itkt a o vs) (keysTW kvs) A1 H01 := fun i G' A' σ' H' H0' sl' st' R x s => by
  have hs := R.hs.le _ _ (s _ _ he)
  have hl : vs.length = kvs.length := by
    have := congrArg List.length e1
    simpa using this
  unfold keysTW
  rw [List.length_map]
  refine ⟨fun hi => ⟨⟨hs, by omega⟩, fun v H'' y => ?_⟩, fun hi => ⟨hs, by omega⟩⟩
  obtain ⟨e2, k, v', q, hk, rfl, hq⟩ := y
  subst e2
  obtain ⟨H0'', R', s', hq'⟩ := R.joinT hq
  obtain ⟨p, hp⟩ : ∃ p, kvs[i]? = some p := ⟨kvs[i], List.getElem?_eq_getElem hi⟩
  have ek : k = p.1 := by
    have h1 : (vs.map (·.1))[i]? = some k := by rw [List.getElem?_map, hk]; rfl
    rw [e1, List.getElem?_map, hp] at h1
    exact (Option.some.inj h1).symm
  subst ek
  exact ⟨.dat (.tup (p.1.map kD)), H0'', by rw [List.getElem?_map, hp]; rfl, R', s', Same.refl _, Rep.tup hq' (reps_keys p.1)⟩
def keysKW (kvs : List (Key × D)) : List W := kvs.map fun p => W.dat (kD p.1)
theorem items_keysK {K : PySem.W.Frag} {a : Addr} {o : Obj} {vs : List (Key × V)} {kvs : List (Key × D)} {A1 : List Addr} {H01 : Hp} (he : H01 a = some (.frz o (.dK vs))) (e1 : vs.map (·.1) = kvs.map (·.1)) : Items K (Itk a o vs) (keysKW kvs) A1 H01 := fun i G' A' σ' H' H0' sl' st' R x s => by
  have hs := R.hs.le _ _ (s _ _ he)
  have hl : vs.length = kvs.length := by
    have := congrArg List.length e1
    simpa using this
  unfold keysKW
  rw [List.length_map]
  refine ⟨fun hi => ⟨⟨hs, by omega⟩, fun v H'' y => ?_⟩, fun hi => ⟨hs, by omega⟩⟩
  obtain ⟨e2, k, v', hk, rfl⟩ := y
  subst e2
  obtain ⟨p, hp⟩ : ∃ p, kvs[i]? = some p := ⟨kvs[i], List.getElem?_eq_getElem hi⟩
  have ek : k = p.1 := by
    have h1 : (vs.map (·.1))[i]? = some k := by rw [List.getElem?_map, hk]; rfl
    rw [e1, List.getElem?_map, hp] at h1
    exact (Option.some.inj h1).symm
  subst ek
  refine ⟨_, H0', by rw [List.getElem?_map, hp]; rfl, R, Same.refl _, Same.refl _, ?_⟩
  show Rep K H0' (kV p.1) (kD p.1)
  cases p.1 with
  | inl i => exact .int i
  | inr x => exact .str x
variable {tg e : Expr} {Θ : IK}
theorem iw_keysT (h : EW X G e sl st fun w st1 => ∃ kvs, w = .dat (.dt kvs) ∧ Θ (keysTW kvs) st1) : IWJ X G tg e sl st Θ := fun A σ H H0 R Rr k => wpI_of (pi_keys pe_wp) (h A σ H H0 R _ fun w st1 v A1 H1 H01 ⟨kvs, ew, q⟩ R1 x1 s1 r1 => by
  subst ew
  cases r1 with
  | dt eh e1 rr => exact ⟨_, _, rfl, .inr ⟨_, R1.hs.le _ _ eh, k _ _ st1 A1 H1 H01 q R1 x1 s1 (items_keysT eh e1)⟩⟩)
theorem iw_keysK (h : EW X G e sl st fun w st1 => ∃ kvs, w = .dat (.dk kvs) ∧ Θ (keysKW kvs) st1) : IWJ X G tg e sl st Θ := fun A σ H H0 R Rr k => wpI_of (pi_keys pe_wp) (h A σ H H0 R _ fun w st1 v A1 H1 H01 ⟨kvs, ew, q⟩ R1 x1 s1 r1 => by
  subst ew
  cases r1 with
  | dk eh e1 rr => exact ⟨_, _, rfl, .inl ⟨_, R1.hs.le _ _ eh, k _ _ st1 A1 H1 H01 q R1 x1 s1 (items_keysK eh e1)⟩⟩)
end
end Dn
namespace Dn
open PySem PySem.Spec L2 StX ClX
open PyProof.Rows hiding St
section
variable {X : Cx}
abbrev PrSh := Shared → Prop
def FillJ (wi : TI) (g : TG) (vs : List Nat) (a0 : Addr → HO) (te : Addr → St → Hp → (Hp → Prop) → Prop) : TE := fun σ H Q => wi σ H fun J H1 => ∀ D, H1 D = none → ∃ inv : Nat → Nat → Hp → Prop, (∃ m, inv 0 m (upd H1 D (a0 D))) ∧
  ∀ i m Hc, inv i m Hc → (J.stop i Hc ∧ Q (.ref D) Hc) ∨ (J.go i Hc ∧ ∃ after : Hp → Prop, (∀ Hn, after Hn → ∃ m', m' < m ∧ inv (i + 1) m' Hn) ∧
    ∀ x Hn, J.yld i Hc x Hn → g x (L2.wipe σ vs) Hn fun σt Ht => L2.wipe σt vs = L2.wipe σ vs ∧ te D σt Ht after)
theorem fill_run {pins : List (Addr × Obj)} {s : Shared} {σ : St} {H : Hp} {Q : VK} {e tg iter : Expr} {scope : Scope} {own : List (Str × Nat)} {cpos : Pos} {wi : TI} {g : TG} {mkAcc : Sem Value} {o0 : Obj} {a0 : Addr → HO}
    {te : Addr → St → Hp → (Hp → Prop) → Prop} {tl : Env → Addr → PrSh → PrSh} (hc : X.calm = true) (hN : X.N.Nodup) (I : Inv X pins σ H s) (hi : PI X tg iter wi) (ok : BlkOk X.N X.env.scope scope own)
    (hg : ∀ (sb : Shared) (Hb : Hp) (C : Addr) (cl : List (Str × Addr)) (fp : List Addr), PG (X.blk sb Hb scope (compEnvC scope cl C X.env) fp) tg g) (hs : ∀ x, foldedSetIterable iter X.env x = pure x) (hcl : clausesOf e = [⟨tg, iter, [], 0⟩])
    (hmk : ∀ (sa : Shared) (E : Value → PrSh) (R : Value → PrSh), R (.ref sa.heap.objs.size) { sa with heap := sa.heap.push o0 } → wpAny (model X.prog X.w) X.A mkAcc R E sa)
    (hnew : ∀ (Ha : Hp) (h : Heap), sysModules < h.objs.size → ObjOk X.prog X.w Ha (h.push o0) h.objs.size (a0 h.objs.size))
    (tail : ∀ (D : Addr) (sb : Shared) (Hb : Hp) (C : Addr) (cl : List (Str × Addr)) (fp : List Addr) (ps : List (Addr × Obj)) (σt : St) (Ht : Hp) (st : Shared) (N : Hp → Prop) (P : PrSh), Inv (X.blk sb Hb scope (compEnvC scope cl C X.env) fp) ps σt Ht st → te D σt Ht N →
      (∀ Hz sz, Inv (X.blk sb Hb scope (compEnvC scope cl C X.env) fp) ps σt Hz sz → N Hz → P sz) → tl (compEnvC scope cl C X.env) D P st)
    (lp : ∀ (D it : Addr) (env : Env) (R : Result → PrSh) (J : Nat → PrSh), (∀ n sa, J n sa → wpAny (model X.prog X.w) X.A (pyNext (.ref it)) (fun r sb => (r = none ∧ R (.ok .next) sb) ∨ ∃ v, r = some v ∧
        wpAny (model X.prog X.w) X.A (letOwnedTupleGo tg (.ref it) v) (fun _ sc => wpAny (model X.prog X.w) X.A (assign tg env v) (fun _ sd => tl env D (fun se => ∃ m, m < n ∧ J m se) sd) (fun _ _ => False) sc) (fun _ _ => False) sb) (fun _ _ => False) sa) →
      ∀ n sa, J n sa → codeAny (model X.prog X.w) X.A (.compLoop e 0 (.ref it) (.ref D) env) R sa)
    (cs : ∀ (it D : Addr) (env : Env) (R : Result → PrSh) (sa : Shared), codeAny (model X.prog X.w) X.A (.compLoop e 0 (.ref it) (.ref D) env) R sa → (∀ (F : Value → PrSh) (E : Value → PrSh), F (.ref it) sa → wpAny (model X.prog X.w) X.A (pyIter (.ref it)) F E sa) → codeAny (model X.prog X.w) X.A (.compStart e 0 (.ref it) (.ref D) env) R sa)
    (h : FillJ wi g (own.map (·.2)) a0 te σ H Q) : wpAny (model X.prog X.w) X.A (comprehension e scope X.env cpos mkAcc false (eval iter X.env) none) (EP X pins σ Q) X.xe s := by
  have there : ∀ y ∈ scope.names, y.2 = .free → ∃ c, X.env.cells.lookup y.1 = some c := fun y hy ey => (ok.free y hy ey).elim (fun z => I.ok.has _ (.inl z)) (fun z => I.ok.has _ (.inr z))
  refine wpAny_comprehension_free (use := none) hcl hs (closure_ok there) ok.kind (fun y hy ey => (ok.uniq y hy).trans (congrArg some ey)) (thn (hi.run pins s σ H _ I h) fun _ sx hx => thn hx fun _ sy hy => ?_)
  obtain ⟨it, fp, tn, J, Hy, rfl, Iy, T, ty, fy, walk⟩ := hy
  refine hmk sy _ _ (newEnv_comp ?_)
  obtain ⟨D, hD⟩ : ∃ D, sy.heap.objs.size = D := ⟨_, rfl⟩
  obtain ⟨inv, ⟨m0, i0⟩, turn⟩ := walk D (Iy.hok.fresh (Nat.le_of_eq hD))
  obtain ⟨sz, hsz⟩ : ∃ sz : Shared, ({ sy with heap := sy.heap.push o0 } : Shared) = sz := ⟨_, rfl⟩
  have hz : sz.heap = sy.heap.push o0 := by rw [← hsz]
  have Iz : Inv X pins σ (upd Hy D (a0 D)) sz := by
    have nw := hnew (upd Hy D (a0 D)) sy.heap Iy.big
    rw [hD] at nw
    rw [← hsz]
    exact Iy.laid (t' := sy.toks) (fun b o eb => Heap.get?_push_of_some _ eb) (Nat.le_of_eq hD) nw
  have low : ∀ b ∈ fp, b < D := fun b hb => by
    obtain ⟨o, eo, _⟩ := T.obj _ _ ty b hb
    rw [← hD]
    exact Heap.lt_size eo
  have fz : ∀ b ∈ fp, FpOk X pins (upd Hy D (a0 D)) b ∧ b < sz.heap.objs.size := fun b hb => by
    refine ⟨⟨(upd_ne (Nat.ne_of_lt (low b hb))).trans (fy b hb).1, (fy b hb).2⟩, ?_⟩
    rw [hz, Heap.size_push, hD]
    exact Nat.lt_succ_of_lt (low b hb)
  have tz : tn 0 sz.heap := T.keep _ _ _ ty fun b _ o eo => by rw [hz]; exact Heap.get?_push_of_some _ eo
  have Ib := block_start Iz ok hN fz
  rw [hD, hsz]
  obtain ⟨C, hC⟩ : ∃ C, sz.heap.objs.size = C := ⟨_, rfl⟩
  obtain ⟨cl, hcls⟩ : ∃ cl, cellsFrom (sz.heap.objs.size + 1) scope.names (cloFrom X.env.cells scope.names []) = cl := ⟨_, rfl⟩
  obtain ⟨sb, hsb⟩ : ∃ sb : Shared, ({ sz with heap := pushCells (sz.heap.push { cls := .type "dict", data := .dict #[] }) scope.names } : Shared) = sb := ⟨_, rfl⟩
  obtain ⟨Hz, hHz⟩ : ∃ Hz, upd Hy D (a0 D) = Hz := ⟨_, rfl⟩
  have tb : tn 0 sb.heap := T.keep _ _ _ tz fun b _ o eo => by rw [← hsb]; exact pushCells_keeps _ _ _ _ (Heap.get?_push_of_some _ eo)
  have start : codeAny (model X.prog X.w) X.A (.compStart e 0 (.ref it) (.ref D) (compEnvC scope cl C X.env)) (compPost (model X.prog X.w) X.A X.xe none (EP X pins σ Q) (.ref D) C) sb := by
    rw [hcls, hC, hsb, hHz] at Ib
    rw [hHz] at Iz i0 fz
    have own0 : ∀ b ∈ fp, Hz b = none := fun b hb => (fz b hb).1.1
    have stay : ∀ {σn : St} {Hn : Hp} {sn : Shared}, Inv (X.blk sz Hz scope (compEnvC scope cl C X.env) fp) [] σn Hn sn → (∀ b ∈ fp, Hn b = none) → ∀ b ∈ fp, FpOk (X.blk sz Hz scope (compEnvC scope cl C X.env) fp) [] Hn b := fun {σn Hn sn} In hn b hb =>
      ⟨hn b hb, (In.ok.exf b hb).1, In.ok.exfs b hb, .inl hb, fun x c ex => (In.ok.exf b hb).2 x c ex, fun p hp => by simp [show (X.blk sz Hz scope (compEnvC scope cl C X.env) fp).pn = [] from rfl] at hp⟩
    have loop : codeAny (model X.prog X.w) X.A (.compLoop e 0 (.ref it) (.ref D) (compEnvC scope cl C X.env)) (compPost (model X.prog X.w) X.A X.xe none (EP X pins σ Q) (.ref D) C) sb := by
      refine lp D it _ _ (fun n sn => ∃ i Hn, Inv (X.blk sz Hz scope (compEnvC scope cl C X.env) fp) [] (L2.wipe σ (own.map (·.2))) Hn sn ∧ tn i sn.heap ∧ (∀ b ∈ fp, Hn b = none) ∧ inv i n Hn) ?_ m0 sb ⟨0, Hz, Ib, tb, own0, i0⟩
      rintro n sn ⟨i, Hn, In, tn', on, vn⟩
      rcases turn i n Hn vn with ⟨stop, q⟩ | ⟨go, after, less, step⟩
      · refine thn (T.done (X.blk sz Hz scope (compEnvC scope cl C X.env) fp) rfl rfl rfl hc i [] sn _ Hn (fun _ _ => False) In (stay In on) tn' stop) fun r sd ⟨er, Id⟩ => .inl ⟨er, ?_⟩
        have Io : Inv X pins σ Hn sd := Iz.call' (ch := fp) Id.os Id.base Id.hok Id.bare fun b hb => ⟨(fz b hb).1.2.2.2.1, (fz b hb).1.2.1, (fz b hb).1.2.2.2.2.1, (fz b hb).1.2.2.2.2.2⟩
        have nC : Hn C = none := Id.free
        obtain ⟨m, hm, _⟩ := Id.loc
        obtain ⟨f0, f1, f2, f3, f4, f5⟩ : FpOk X pins Hn C := Iz.fpOk (Nat.le_of_eq hC) nC
        exact ⟨m, hm, fun hh sbut => ⟨.ref D, Hn, Io.turned (t' := sd.toks) (fun b o hb eo => (sbut.2 b hb).trans eo) f0 f1 f3 f4 f5, rfl, q⟩⟩
      · refine thn (T.item (X.blk sz Hz scope (compEnvC scope cl C X.env) fp) rfl rfl rfl hc i [] sn _ Hn (fun _ _ => False) In (stay In on) tn' go) fun r sd ⟨u, er, hd⟩ => .inr ⟨u, er, ?_⟩
        refine thn hd fun _ se ⟨x, He, Ie, re, ye, te', oe⟩ => ?_
        have Ip := Ie.pinned (stay Ie oe) (T.obj _ _ te')
        refine thn ((hg sz Hz C cl fp).run _ se _ He x u _ Ip re (step x He ye)) fun _ sf ⟨σf, Hf, If, hw, qf⟩ => ?_
        refine tail D sz Hz C cl fp _ σf Hf sf after _ If qf fun Hg sg Ig qg => ?_
        obtain ⟨m', hm', vg⟩ := less Hg qg
        have kept : ∀ b ∈ fp, ∀ o, se.heap.get? b = some o → sg.heap.get? b = some o ∧ Hg b = none := fun b hb o eo => by
          have pz := Ig.pin (b, o) (List.mem_append_right _ (List.mem_append_right _ (mem_pinsAt hb eo)))
          exact ⟨pz.1, pz.2.1⟩
        refine ⟨m', hm', i + 1, Hg, (Ig.unpinned (pins := [])).weak (by rw [← hw, L2.wipe_length]) (fun j v ev => ?_), T.keep _ _ _ te' fun b hb o eo => (kept b hb o eo).1, fun b hb => ?_, vg⟩
        · rw [← hw] at ev
          exact (wipe_some ev).1
        · obtain ⟨o, eo, _⟩ := T.obj _ _ te' b hb
          exact (kept b hb o eo).2
    exact cs it D _ _ sb loop fun F E hF => T.self X.A 0 _ _ _ tb hF
  rw [← hcls, ← hC, ← hsb] at start
  exact start
end
end Dn
namespace Dn
open PySem PySem.Spec L2 StX ClX
open PyProof.Rows hiding St
def dist {κ : Type} [DecidableEq κ] (ks : List κ) : Nat := ks.foldl (fun (acc : List κ × Nat) k => (k :: acc.1, if k ∈ acc.1 then acc.2 else acc.2 + 1)) ([], 0) |>.2
theorem dist_fst {κ : Type} [DecidableEq κ] : ∀ (ks : List κ) (acc : List κ × Nat), (ks.foldl (fun (acc : List κ × Nat) k => (k :: acc.1, if k ∈ acc.1 then acc.2 else acc.2 + 1)) acc).1 = ks.reverse ++ acc.1
  | [], acc => by simp
  | k :: ks, acc => by rw [List.foldl_cons, dist_fst ks]; simp
theorem dist_snoc {κ : Type} [DecidableEq κ] (ks : List κ) (k : κ) : dist (ks ++ [k]) = if k ∈ ks then dist ks else dist ks + 1 := by
  unfold dist
  rw [List.foldl_append]
  show (if k ∈ (ks.foldl _ ([], 0)).1 then _ else _) = _
  rw [dist_fst]
  simp
theorem rev_ind {α : Type} {P : List α → Prop} (h0 : P []) (h1 : ∀ l a, P l → P (l ++ [a])) (l : List α) : P l := by
  rw [← List.reverse_reverse l]
  induction l.reverse with
  | nil => exact h0
  | cons a r ih => rw [List.reverse_cons]; exact h1 _ _ ih
theorem dist_le {κ : Type} [DecidableEq κ] (ks : List κ) : dist ks ≤ ks.length := by
  refine rev_ind (P := fun ks : List κ => dist ks ≤ ks.length) ?_ (fun ks k ih => ?_) ks
  · exact Nat.le_refl _
  · rw [dist_snoc, List.length_append]
    show _ ≤ ks.length + 1
    split <;> omega
theorem dist_eq {κ : Type} [DecidableEq κ] (ks : List κ) : dist ks = ks.length ↔ ks.Nodup := by
  refine rev_ind (P := fun ks : List κ => dist ks = ks.length ↔ ks.Nodup) ?_ (fun ks k ih => ?_) ks
  · exact ⟨fun _ => List.nodup_nil, fun _ => rfl⟩
  · have hl := dist_le ks
    rw [dist_snoc, List.length_append, List.nodup_append]
    show (if k ∈ ks then dist ks else dist ks + 1) = ks.length + 1 ↔ _
    by_cases hk : k ∈ ks
    · rw [if_pos hk]
      constructor
      · intro h; omega
      · rintro ⟨_, _, h⟩
        exact absurd rfl (h k hk k (by simp))
    · rw [if_neg hk]
      constructor
      · intro h
        exact ⟨ih.mp (by omega), by simp, fun a ha b hb e => hk (by simp at hb; rw [← hb, ← e]; exact ha)⟩
      · rintro ⟨h, _⟩
        rw [ih.mpr h]
section
variable {X : Cx} {G : Ent} {tg iter elt : Expr} {scope : Scope} {own : List (Str × Nat)} {tb : Bool} {is : List Nat} {sl : Sls} {st : List Ob} {Φ : WK} {p pos cpos : Pos}
def scT (X : Cx) (scope : Scope) (elt : Expr) (D : Addr) (σ : St) (H : Hp) (N : Hp → Prop) : Prop :=
  BlkE X scope elt σ H fun y H4 => ∃ (k : Key) (S : Key → Bool) (n : Nat), y = kV k ∧ H4 D = some (SetK X.prog X.w D S n) ∧ n + 1 < scanBound ∧ N (upd H4 D (SetK X.prog X.w D (fun j => S j || decide (j = k)) (if S k = true then n else n + 1)))
theorem pe_scK {wi : TI} {g : TG} (hc : X.calm = true) (hN : X.N.Nodup) (hi : PI X tg iter wi) (ok : BlkOk X.N X.env.scope scope own)
    (hg : ∀ (sb : Shared) (Hb : Hp) (C : Addr) (cl : List (Str × Addr)) (fp : List Addr), PG (X.blk sb Hb scope (compEnvC scope cl C X.env) fp) tg g) (hs : ∀ x, foldedSetIterable iter X.env x = pure x) :
    PE X (.SetComp elt [⟨tg, iter, [], 0⟩] scope cpos) (FillJ wi g (own.map (·.2)) (fun D => SetK X.prog X.w D (fun _ => false) 0) (scT X scope elt)) := by
  refine ⟨fun pins s σ H Q I h => ?_⟩
  rw [PpSet.eval_SetComp]
  refine fill_run (tl := fun env D P sa => wpAny (model X.prog X.w) X.A (eval elt env) (fun x sb => wpAny (model X.prog X.w) X.A (call (.builtin "set.add") [.ref D, x]) (fun _ sc => P sc) (fun _ _ => False) sb) (fun _ _ => False) sa)
    hc hN I hi ok hg hs rfl (fun sa E R q => PpSet.newSet_ok q) (fun Ha h hb => ?_) (fun D sb Hb C cl fp ps σt Ht st N P It q k => ?_) (fun D it env R J turn n sa hJ => ?_) (fun it D env R sa h0 self => ?_) h
  · refine setK_new ⟨_, #[], 0, _, Heap.get?_push_size _ rfl, ⟨rfl, rfl, rfl⟩, rfl, (fun e he => by simp at he), (fun k => by simp), (by decide), (by rfl), rfl⟩
  · refine thn (q sb Hb C cl fp ps st It) fun x sx ⟨y, Hy, Iy, ry, kk, S, n, ey, hD, room, qn⟩ => ?_
    subst ey
    refine thn (mt_saddK (X := X.blk sb Hb scope (compEnvC scope cl C X.env) fp) ps sx σt Hy (.ref D) [kV kk] (.ref D) [x] (fun v Hn => N Hn) Iy rfl (.cons ry .nil) ⟨D, kk, S, n, rfl, rfl, hD, room, qn⟩) fun v sy ⟨_, Hn, In, _, qn'⟩ => ?_
    exact k Hn sy In qn'
  · refine PpSet.compLoopS_any J (fun n sb hb => ?_) n hJ
    refine thnF (turn n sb hb) fun r sc hr => ?_
    rcases hr with ⟨rfl, q⟩ | ⟨v, rfl, q⟩
    · exact q
    · refine thnF q fun _ sd hd => thnF hd fun _ se he => wpAny_pure ?_
      rw [if_pos rfl]
      exact thnF he fun x sf hf => thnF hf fun _ sg hz => hz
  · exact PpSet.codeAny_compStart_set h0 (self _ _ h0)
theorem cr_lenSetK : CallR X (.builtin "len") (fun xs H Q => ∃ (a : Addr) (S : Key → Bool) (n : Nat), xs = [.ref a] ∧ H a = some (SetK X.prog X.w a S n) ∧ Q (.int n) H) := by
  intro pins s σ H xs us Q I r h
  obtain ⟨a, S, n, rfl, ha, q⟩ := h
  cases r with
  | cons ry rt =>
    cases rt
    cases ry
    obtain ⟨o, es, ep, t, ho, hex, hd, _, _, hb, hf, hn⟩ := setK_get I ha
    refine call_len_set ho hex hd hf (by have : scanBound < 2 ^ 62 := by decide
                                         omega) ⟨.int n, H, I.tok _, ⟨_, by rw [hn]⟩, q⟩
theorem ew_lenSc (hl : X.mg "len" = none) (hc : X.calm = true) (hN : X.N.Nodup) (ok : BlkOk X.N X.env.scope scope own) (ht : TgOk X tg scope tb is) (his : ∀ i ∈ is, i ∈ own.map (·.2))
    (h : IWJ X G tg iter sl st fun ws st1 => ∃ ks : List Key, ks.length = ws.length ∧ ks.length + 1 < scanBound ∧ (∀ (i : Nat) (w : W) (k : Key), ws[i]? = some w → ks[i]? = some k → ∃ sl2, tset tb is w (wipeL sl (own.map (·.2))) = some sl2 ∧ EWb X scope elt sl2 st1 fun w' st' => w' = .dat (kD k) ∧ st' = st1) ∧
      Φ (.dat (.int ((dist ks : Nat) : Int))) st1)
    (hg : Gl X "len" := by rfl) (hs : ∀ x, foldedSetIterable iter X.env x = pure x := by intro _; rfl)
    (he : starEach [Expr.SetComp elt [⟨tg, iter, [], 0⟩] scope cpos] X.env = (false, eval (.SetComp elt [⟨tg, iter, [], 0⟩] scope cpos) X.env) :: starEach [] X.env := by rfl) (hpl : (backTo pos (starEach [] X.env)).any (·.1) = false := by rfl) :
    EW X G (.Call (.Name "len" p) [.SetComp elt [⟨tg, iter, [], 0⟩] scope cpos] [] pos) sl st Φ := fun A σ H H0 R Q k => by
  refine wpE_of (pe_callB cr_lenSetK hg hl bt_len (pa_cons (pe_scK (own := own) hc hN pi_wp ok ht hs) pa_nil he) (by decide) (by decide) he hpl) ?_
  refine h A σ H H0 R _ fun J ws st1 A1 H1 H01 ⟨ks, hlen, hsc, turn, fin⟩ R1 x1 s1 it => ?_
  intro D hD
  have h00 := R1.hs.free0 hD
  have hA0 := R1.hs.notin hD
  have hG0 := free_in R1.fr R1.hs hD
  refine ⟨fun i m Hc => m = ws.length - i ∧ i ≤ ws.length ∧ ∃ A' H0', RS X.K G A' σ Hc H0' sl st1 ∧ Ext A1 A' ∧ Same H01 H0' ∧ Hc D = some (SetK X.prog X.w D (fun j => (ks.take i).any fun q => decide (q = j)) (dist (ks.take i))) ∧ H0' D = none ∧ D ∉ A',
    ⟨ws.length, by simp, Nat.zero_le _, A1, H01, R1.fresh hD, Ext.refl _, Same.refl _, ?_, h00, hA0⟩, ?_⟩
  · rw [upd_same]
    simp [dist]
  rintro i m Hc ⟨rfl, hle, A', H0', R', x', s', hDl, h0D, hAD⟩
  have RL : RS X.K ⟨Hc, H0', A'⟩ A' σ Hc H0' sl st1 := ⟨R'.sl, R'.hs, Fr.refl R'.hs⟩
  obtain ⟨go, stop⟩ := it i ⟨Hc, H0', A'⟩ A' σ Hc H0' sl st1 RL x' s'
  by_cases hlt : i < ws.length
  · obtain ⟨g1, g2⟩ := go hlt
    refine .inr ⟨g1, fun Hn => ∃ A' H0', RS X.K G A' σ Hn H0' sl st1 ∧ Ext A1 A' ∧ Same H01 H0' ∧ Hn D = some (SetK X.prog X.w D (fun j => (ks.take (i + 1)).any fun q => decide (q = j)) (dist (ks.take (i + 1)))) ∧ H0' D = none ∧ D ∉ A', fun Hn hn => ⟨ws.length - (i + 1), by omega, rfl, hlt, hn⟩, fun x Hn y => ?_⟩
    obtain ⟨w, H0'', hw, R2, s2, s3, rw'⟩ := g2 x Hn y
    have hik : ks[i]? = some (ks[i]'(by omega)) := List.getElem?_eq_getElem _
    obtain ⟨sl2, hsl2, el⟩ := turn i w _ hw hik
    generalize ks[i]'(by omega) = k0 at hik el
    refine tgt_run (vs := own.map (·.2)) R2.hs.le (R2.sl.wipe _) his rw' hsl2 fun σ2 hσ2 hw2 => ⟨by rw [hw2, wipe_twice], ?_⟩
    intro sb Hb C cl fp
    refine el ⟨Hc, H0', A'⟩ sb Hb C cl fp A' σ2 Hn H0'' ⟨hσ2, R2.hs, R2.fr⟩ _ fun w4 st4 v4 A4 H4 H04 ⟨ew, es⟩ R4 x4 s4 r4 => ?_
    subst ew es
    have ev : v4 = kV k0 := keyD_rep (d := kD k0) r4 (by cases k0 <;> rfl)
    subst ev
    have nD : H04 D = none := by
      cases z : H04 D with
      | none => rfl
      | some o =>
        rcases R4.fr.new D o z with ⟨u, e⟩ | e
        · exact absurd (h0D.symm.trans e) (by intro z; cases z)
        · exact absurd (e _ hDl) (by rintro ⟨xs, z⟩; cases z)
    have nA : D ∉ A4 := fun z => by
      rcases R4.fr.loc D z with z | z
      · exact hAD z
      · exact absurd (hDl.symm.trans z) (by intro z; cases z)
    have nH := R4.fr.fr D _ hDl hAD
    have R5 : RS X.K G A4 σ H4 H04 sl st4 := R'.after R4.hs R4.fr
    refine ⟨k0, _, _, rfl, nH, ?_, A4, H04, R5.poke nD nA hG0, x'.trans R4.fr.pre, s'.trans R4.fr.old, ?_, nD, nA⟩
    · have h1 := dist_le (ks.take i)
      rw [List.length_take] at h1
      omega
    · rw [upd_same]
      have et : ks.take (i + 1) = ks.take i ++ [k0] := by rw [List.take_succ, hik]; rfl
      rw [et, dist_snoc]
      have e1 : (fun j => ((ks.take i).any fun q => decide (q = j)) || decide (j = k0)) = fun j => (ks.take i ++ [k0]).any fun q => decide (q = j) := by
        funext j
        rw [List.any_append]
        simp [eq_comm]
      rw [e1]
      by_cases hk : k0 ∈ ks.take i
      · rw [if_pos (List.any_eq_true.mpr ⟨k0, hk, decide_eq_true rfl⟩), if_pos hk]
      · rw [if_neg (fun z => by obtain ⟨q, hq, eq⟩ := List.any_eq_true.mp z; exact hk ((of_decide_eq_true eq) ▸ hq)), if_neg hk]
  · have e : i = ws.length := by omega
    refine .inl ⟨stop e, show ∃ (a : Addr) (S : Key → Bool) (n : Nat), _ ∧ _ ∧ _ from ⟨D, _, _, rfl, hDl, ?_⟩⟩
    rw [e, ← hlen, List.take_length]
    exact k _ st1 _ A' Hc H0' fin R' (x1.trans x') (s1.trans s') (.int _)
end
end Dn
namespace Dn
open PySem PySem.Spec L2 StX ClX
open PyProof.Rows hiding St
section
variable {X : Cx} {G : Ent} {tg iter kx vx : Expr} {scope : Scope} {own : List (Str × Nat)} {tb : Bool} {is : List Nat} {sl : Sls} {st : List Ob} {Φ : WK} {p pos cpos : Pos}
theorem put_dictT {pins : List (Addr × Obj)} {σ : St} {H : Hp} {s : Shared} {E : Value → PrSh} {D b : Addr} {kvs : List (List Key × V)} {k : List Key} {v : V} {r : Value} {Q : Unit → PrSh} (hu : X.A.units < cLine) (I : Inv X pins σ H s) (hD : H D = some (.dT kvs)) (hz : kvs.length < sizeLine)
    (eb : H b = some (.tup (k.map kV))) (rv : RelV v r) (h : ∀ s', Inv X pins σ (upd H D (.dT (putK kvs k v))) s' → Q () s') : wpAny (model X.prog X.w) X.A (dictSet D (.ref b) r) Q E s := by
  obtain ⟨z, hd, xs, rel, dd⟩ := dt_of I.hok hD
  have hl : (putK kvs k v).length ≤ sizeLine := Nat.le_trans (length_putK kvs k v) hz
  refine wpAny_dictSet_heap (hsz := by rw [← Paired.length rel]; exact z) (show (tupleKind (mixKind X.prog X.w)).room X.A from hu) (key_of I.hok eb) dd fun h' dd' hs => h _ ?_
  obtain ⟨q, es, ep, hq, h2, h3, h4, _, h5⟩ := dd'
  refine d_write I (by rw [hD]; exact True.intro) hs ⟨q, hq⟩ ⟨hl, hd, _, (rel.put k eb rv).keeps fun c ys ec => ?_, q, es, ep, hq, h2, h3, h4, h5⟩
  exact (upd_ne (ne_of ec hD (fun z => nomatch z))).trans ec
def dcK (X : Cx) (scope : Scope) (kx vx : Expr) (D : Addr) (σ : St) (H : Hp) (N : Hp → Prop) : Prop :=
  BlkE X scope kx σ H fun y H4 => BlkE X scope vx σ H4 fun z H5 => ∃ (k : Key) (kvs : List (Key × V)), y = kV k ∧ H5 D = some (.dK kvs) ∧ kvs.length < sizeLine ∧ N (upd H5 D (.dK (putK kvs k z)))
def dcT (X : Cx) (scope : Scope) (kx vx : Expr) (D : Addr) (σ : St) (H : Hp) (N : Hp → Prop) : Prop :=
  BlkE X scope kx σ H fun y H4 => BlkE X scope vx σ H4 fun z H5 => ∃ (k : List Key) (b : Addr) (kvs : List (List Key × V)), y = .ref b ∧ H5 b = some (.tup (k.map kV)) ∧ H5 D = some (.dT kvs) ∧ kvs.length < sizeLine ∧ N (upd H5 D (.dT (putK kvs k z)))
def dcTl (X : Cx) (kx vx : Expr) (env : Env) (D : Addr) (P : PrSh) : PrSh := fun sa => wpAny (model X.prog X.w) X.A (eval kx env) (fun x sb => wpAny (model X.prog X.w) X.A (eval vx env) (fun y sc => wpAny (model X.prog X.w) X.A (dictSet D x y) (fun _ sd => P sd) (fun _ _ => False) sc) (fun _ _ => False) sb) (fun _ _ => False) sa
theorem dc_lp (D it : Addr) (env : Env) (R : Result → PrSh) (J : Nat → PrSh) (turn : ∀ n sa, J n sa → wpAny (model X.prog X.w) X.A (pyNext (.ref it)) (fun r sb => (r = none ∧ R (.ok .next) sb) ∨ ∃ v, r = some v ∧
        wpAny (model X.prog X.w) X.A (letOwnedTupleGo tg (.ref it) v) (fun _ sc => wpAny (model X.prog X.w) X.A (assign tg env v) (fun _ sd => dcTl X kx vx env D (fun se => ∃ m, m < n ∧ J m se) sd) (fun _ _ => False) sc) (fun _ _ => False) sb) (fun _ _ => False) sa) :
      ∀ n sa, J n sa → codeAny (model X.prog X.w) X.A (.compLoop (.DictComp kx vx [⟨tg, iter, [], 0⟩] scope cpos) 0 (.ref it) (.ref D) env) R sa := fun n sa hJ => by
  refine compLoop_anyD J (fun n sb hb => ?_) n hJ
  refine thnF (turn n sb hb) fun r sc hr => ?_
  rcases hr with ⟨rfl, q⟩ | ⟨v, rfl, q⟩
  · exact q
  · refine thnF q fun _ sd hd => thnF hd fun _ se he => wpAny_pure ?_
    rw [if_pos rfl]
    exact thnF he fun x sf hf => thnF hf fun y sg hg => thnF hg fun _ sh hz => hz
theorem pe_dcK2 {wi : TI} {g : TG} (hc : X.calm = true) (hN : X.N.Nodup) (hi : PI X tg iter wi) (ok : BlkOk X.N X.env.scope scope own)
    (hg : ∀ (sb : Shared) (Hb : Hp) (C : Addr) (cl : List (Str × Addr)) (fp : List Addr), PG (X.blk sb Hb scope (compEnvC scope cl C X.env) fp) tg g) (hs : ∀ x, foldedSetIterable iter X.env x = pure x) :
    PE X (.DictComp kx vx [⟨tg, iter, [], 0⟩] scope cpos) (FillJ wi g (own.map (·.2)) (fun _ => .dK []) (dcK X scope kx vx)) := by
  refine ⟨fun pins s σ H Q I h => ?_⟩
  rw [arm_eval_DictComp]
  refine fill_run (tl := dcTl X kx vx) hc hN I hi ok hg hs rfl (fun sa E R q => ?_) (fun Ha h hb => dk_empty h hb) (fun D sb Hb C cl fp ps σt Ht st N P It q k => ?_) (fun D it env R J turn => dc_lp D it env R J turn) (fun it D env R sa h0 self => codeAny_compStart_dict h0 (self _ _ h0)) h
  · simp only [newDict, newObj]
    exact wpAny_bind (wpAny_alloc (wpAny_pure q))
  · refine thn (q sb Hb C cl fp ps st It) fun x sx ⟨y, Hy, Iy, ry, qy⟩ => ?_
    refine thn (qy sb Hb C cl fp ps sx Iy) fun x2 sx2 ⟨y2, Hy2, Iy2, ry2, kk, kvs, ey, hD, hz, qn⟩ => ?_
    subst ey
    exact d_dictSet (X := X.blk sb Hb scope (compEnvC scope cl C X.env) fp) Iy2 hD hz ry ry2 fun sz Iz => k _ sz Iz qn
theorem pe_dcT2 {wi : TI} {g : TG} (hu : X.A.units < cLine) (hc : X.calm = true) (hN : X.N.Nodup) (hi : PI X tg iter wi) (ok : BlkOk X.N X.env.scope scope own)
    (hg : ∀ (sb : Shared) (Hb : Hp) (C : Addr) (cl : List (Str × Addr)) (fp : List Addr), PG (X.blk sb Hb scope (compEnvC scope cl C X.env) fp) tg g) (hs : ∀ x, foldedSetIterable iter X.env x = pure x) :
    PE X (.DictComp kx vx [⟨tg, iter, [], 0⟩] scope cpos) (FillJ wi g (own.map (·.2)) (fun _ => .dT []) (dcT X scope kx vx)) := by
  refine ⟨fun pins s σ H Q I h => ?_⟩
  rw [arm_eval_DictComp]
  refine fill_run (tl := dcTl X kx vx) hc hN I hi ok hg hs rfl (fun sa E R q => ?_) (fun Ha h hb => dt_empty h hb) (fun D sb Hb C cl fp ps σt Ht st N P It q k => ?_) (fun D it env R J turn => dc_lp D it env R J turn) (fun it D env R sa h0 self => codeAny_compStart_dict h0 (self _ _ h0)) h
  · simp only [newDict, newObj]
    exact wpAny_bind (wpAny_alloc (wpAny_pure q))
  · refine thn (q sb Hb C cl fp ps st It) fun x sx ⟨y, Hy, Iy, ry, qy⟩ => ?_
    refine thn (qy sb Hb C cl fp ps sx Iy) fun x2 sx2 ⟨y2, Hy2, Iy2, ry2, kk, b, kvs, ey, hb, hD, hz, qn⟩ => ?_
    subst ey
    cases ry
    exact put_dictT (X := X.blk sb Hb scope (compEnvC scope cl C X.env) fp) hu Iy2 hD hz hb ry2 fun sz Iz => k _ sz Iz qn
def DcJ {κ : Type} (X : Cx) (G : Ent) (tg iter kx vx : Expr) (scope : Scope) (tb : Bool) (is vs : List Nat) (kw : κ → W → Prop) (sl : Sls) (st : List Ob) (fin : List (κ × D) → List Ob → Prop) : Prop :=
  IWJ X G tg iter sl st fun ws st1 => ∃ kvs : List (κ × D), kvs.length = ws.length ∧ kvs.length < sizeLine ∧ (kvs.map (·.1)).Nodup ∧
    (∀ (i : Nat) (w : W) (q : κ × D), ws[i]? = some w → kvs[i]? = some q → ∃ sl2, tset tb is w (wipeL sl vs) = some sl2 ∧ EWb X scope kx sl2 st1 fun w' st' => kw q.1 w' ∧ st' = st1 ∧ EWb X scope vx sl2 st1 fun w2 st2 => w2 = .dat q.2 ∧ st2 = st1) ∧ fin kvs st1
theorem putA_fresh {κ α : Type} [DecidableEq κ] {kvs : List (κ × α)} {i : Nat} {q : κ × α} (hn : (kvs.map (·.1)).Nodup) (hi : kvs[i]? = some q) : valA (kvs.take i) q.1 = none := by
  rw [valA_none]
  intro v hm
  obtain ⟨j, hj, e⟩ := List.mem_iff_getElem.mp hm
  rw [List.length_take] at hj
  rw [List.getElem_take] at e
  obtain ⟨h1, e1⟩ := List.getElem?_eq_some_iff.mp hi
  have h2 : (kvs.map (·.1))[j]'(by rw [List.length_map]; omega) = (kvs.map (·.1))[i]'(by rw [List.length_map]; omega) := by
    rw [List.getElem_map, List.getElem_map, e, e1]
  have := (List.getElem_inj hn).mp h2
  omega
theorem repWK_snoc {κ : Type} {K : PySem.W.Frag} {A : List Addr} {H : Hp} : ∀ {vs : List (κ × V)} {ws : List (κ × W)} {v : κ × V} {w : κ × W}, RepWK K A H vs ws → v.1 = w.1 → RepW K A H v.2 w.2 → RepWK K A H (vs ++ [v]) (ws ++ [w])
  | [], [], _, _, _, e, r => ⟨e, r, trivial⟩
  | _ :: _, _ :: _, _, _, h, e, r => ⟨h.1, h.2.1, repWK_snoc h.2.2 e r⟩
theorem valV_none_of {κ : Type} [DecidableEq κ] {K : PySem.W.Frag} {A : List Addr} {H : Hp} {vs : List (κ × V)} {ws : List (κ × W)} {k : κ} (r : RepWK K A H vs ws) (h : valA ws k = none) : valV vs k = none := (repWK_val k r).1 h
theorem map_take_snoc {κ : Type} {kvs : List (κ × D)} {i : Nat} {q : κ × D} (hi : kvs[i]? = some q) : ((kvs.take (i + 1)).map fun p => (p.1, W.dat p.2)) = ((kvs.take i).map fun p => (p.1, W.dat p.2)) ++ [(q.1, W.dat q.2)] := by
  rw [List.take_succ, hi, List.map_append]
  rfl
theorem ew_dcK (hc : X.calm = true) (hN : X.N.Nodup) (ok : BlkOk X.N X.env.scope scope own) (ht : TgOk X tg scope tb is) (his : ∀ i ∈ is, i ∈ own.map (·.2))
    (h : DcJ X G tg iter kx vx scope tb is (own.map (·.2)) (fun (k : Key) w => keyW w = some k) sl st fun kvs st1 => Φ (.ptr st1.length) (st1 ++ [.dct (kvs.map fun p => (p.1, W.dat p.2))]))
    (hs : ∀ x, foldedSetIterable iter X.env x = pure x := by intro _; rfl) : EW X G (.DictComp kx vx [⟨tg, iter, [], 0⟩] scope cpos) sl st Φ := fun A σ H H0 R Q k => by
  refine wpE_of (pe_dcK2 (own := own) hc hN pi_wp ok ht hs) ?_
  refine h A σ H H0 R _ fun J ws st1 A1 H1 H01 ⟨kvs, hlen, hsz, hnd, turn, fin⟩ R1 x1 s1 it => ?_
  intro D hD
  have h00 := R1.hs.free0 hD
  have hA0 := R1.hs.notin hD
  have hG0 := free_in R1.fr R1.hs hD
  refine ⟨fun i m Hc => m = ws.length - i ∧ i ≤ ws.length ∧ ∃ A' H0' vs, RS X.K G A' σ Hc H0' sl st1 ∧ Ext A1 A' ∧ Same H01 H0' ∧ Hc D = some (.dK vs) ∧ RepWK X.K A' H0' vs ((kvs.take i).map fun p => (p.1, W.dat p.2)) ∧ H0' D = none ∧ D ∉ A',
    ⟨ws.length, by simp, Nat.zero_le _, A1, H01, [], R1.fresh hD, Ext.refl _, Same.refl _, upd_same, trivial, h00, hA0⟩, ?_⟩
  rintro i m Hc ⟨rfl, hle, A', H0', vs, R', x', s', hDl, rr, h0D, hAD⟩
  have RL : RS X.K ⟨Hc, H0', A'⟩ A' σ Hc H0' sl st1 := ⟨R'.sl, R'.hs, Fr.refl R'.hs⟩
  obtain ⟨go, stop⟩ := it i ⟨Hc, H0', A'⟩ A' σ Hc H0' sl st1 RL x' s'
  by_cases hlt : i < ws.length
  · obtain ⟨g1, g2⟩ := go hlt
    refine .inr ⟨g1, fun Hn => ∃ A' H0' vs, RS X.K G A' σ Hn H0' sl st1 ∧ Ext A1 A' ∧ Same H01 H0' ∧ Hn D = some (.dK vs) ∧ RepWK X.K A' H0' vs ((kvs.take (i + 1)).map fun p => (p.1, W.dat p.2)) ∧ H0' D = none ∧ D ∉ A', fun Hn hn => ⟨ws.length - (i + 1), by omega, rfl, hlt, hn⟩, fun x Hn y => ?_⟩
    obtain ⟨w, H0'', hw, R2, s2, s3, rw'⟩ := g2 x Hn y
    have hik : kvs[i]? = some (kvs[i]'(by omega)) := List.getElem?_eq_getElem _
    obtain ⟨sl2, hsl2, el⟩ := turn i w _ hw hik
    generalize kvs[i]'(by omega) = q0 at hik el
    refine tgt_run (vs := own.map (·.2)) R2.hs.le (R2.sl.wipe _) his rw' hsl2 fun σ2 hσ2 hw2 => ⟨by rw [hw2, wipe_twice], ?_⟩
    intro sb Hb C cl fp
    refine el ⟨Hc, H0', A'⟩ sb Hb C cl fp A' σ2 Hn H0'' ⟨hσ2, R2.hs, R2.fr⟩ _ fun w4 st4 v4 A4 H4 H04 ⟨ek, es, el2⟩ R4 x4 s4 r4 => ?_
    subst es
    intro sb Hb C cl fp
    refine el2 ⟨Hc, H0', A'⟩ sb Hb C cl fp A4 σ2 H4 H04 R4 _ fun w5 st5 v5 A5 H5 H05 ⟨ew, es⟩ R5 x5 s5 r5 => ?_
    subst ew es
    have ev := keyW_rep r4 ek
    have nD : H05 D = none := by
      cases z : H05 D with
      | none => rfl
      | some o =>
        rcases R5.fr.new D o z with ⟨u, e⟩ | e
        · exact absurd (h0D.symm.trans e) (by intro z; cases z)
        · exact absurd (e _ hDl) (by rintro ⟨xs, z⟩; cases z)
    have nA : D ∉ A5 := fun z => by
      rcases R5.fr.loc D z with z | z
      · exact hAD z
      · exact absurd (hDl.symm.trans z) (by intro z; cases z)
    have nH := R5.fr.fr D _ hDl hAD
    have R6 : RS X.K G A5 σ H5 H05 sl st5 := R'.after R5.hs R5.fr
    have r2 := rr.mono R5.fr.pre R5.fr.old
    have hfr : valA ((kvs.take i).map fun p => (p.1, W.dat p.2)) q0.1 = none := by rw [valA_map, putA_fresh hnd hik]; rfl
    refine ⟨q0.1, vs, ev, nH, ?_, A5, H05, _, R6.poke nD nA hG0, x'.trans R5.fr.pre, s'.trans R5.fr.old, upd_same, ?_, nD, nA⟩
    · have := repWK_len rr
      rw [List.length_map, List.length_take] at this
      omega
    · rw [map_take_snoc hik, putK_new _ (valV_none_of r2 hfr)]
      exact repWK_snoc r2 rfl r5
  · have e : i = ws.length := by omega
    refine .inl ⟨stop e, ?_⟩
    rw [e, ← hlen, List.take_length] at rr
    have ex : Ext A' (A' ++ [D]) := ⟨[D], rfl⟩
    have R7 : RS X.K G (A' ++ [D]) σ Hc H0' sl (st1 ++ [.dct (kvs.map fun p => (p.1, W.dat p.2))]) := by
      refine ⟨R'.sl.mono ex (Same.refl _), ⟨R'.hs.le, by simp [R'.hs.al], ?_, fun j a o ha ho => ?_⟩, ⟨R'.fr.fr, R'.fr.old, R'.fr.new, R'.fr.pre.trans ex, fun b hb => ?_⟩⟩
      · rw [List.nodup_append]
        refine ⟨R'.hs.nd, by simp, fun a ha b hb => ?_⟩
        simp at hb
        subst hb
        rintro rfl
        exact hAD ha
      · by_cases hj : j < A'.length
        · rw [List.getElem?_append_left hj] at ha
          rw [List.getElem?_append_left (by rw [← R'.hs.al]; exact hj)] at ho
          exact (R'.hs.ob j a o ha ho).mono0 ex (Same.refl _) id
        · have hj2 : j = A'.length := by
            have := (List.getElem?_eq_some_iff.mp ha).1
            rw [List.length_append] at this
            have h1 : [D].length = 1 := rfl
            omega
          subst hj2
          rw [List.getElem?_append_right (Nat.le_refl _), Nat.sub_self] at ha
          rw [List.getElem?_append_right (by rw [R'.hs.al]; exact Nat.le_refl _), R'.hs.al, Nat.sub_self] at ho
          have ea : D = a := by simpa using ha
          have eo : Ob.dct (kvs.map fun p => (p.1, W.dat p.2)) = o := by simpa using ho
          subst ea eo
          exact ⟨h0D, vs, hDl, rr.mono ex (Same.refl _)⟩
      · rcases List.mem_append.mp hb with hb | hb
        · exact R'.fr.loc b hb
        · simp at hb
          subst hb
          exact .inr hG0
    refine k _ _ _ _ Hc H0' fin R7 ((x1.trans x').trans ex) (s1.trans s') ⟨D, ?_, rfl⟩
    rw [← R'.hs.al, List.getElem?_append_right (Nat.le_refl _), Nat.sub_self]
    rfl
theorem ew_dcT (hu : X.A.units < cLine) (hc : X.calm = true) (hN : X.N.Nodup) (ok : BlkOk X.N X.env.scope scope own) (ht : TgOk X tg scope tb is) (his : ∀ i ∈ is, i ∈ own.map (·.2))
    (h : DcJ X G tg iter kx vx scope tb is (own.map (·.2)) (fun (k : List Key) w => keyT w = some k) sl st fun kvs st1 => Φ (.ptr st1.length) (st1 ++ [.dtt (kvs.map fun p => (p.1, W.dat p.2))]))
    (hs : ∀ x, foldedSetIterable iter X.env x = pure x := by intro _; rfl) : EW X G (.DictComp kx vx [⟨tg, iter, [], 0⟩] scope cpos) sl st Φ := fun A σ H H0 R Q k => by
  refine wpE_of (pe_dcT2 (own := own) hu hc hN pi_wp ok ht hs) ?_
  refine h A σ H H0 R _ fun J ws st1 A1 H1 H01 ⟨kvs, hlen, hsz, hnd, turn, fin⟩ R1 x1 s1 it => ?_
  intro D hD
  have h00 := R1.hs.free0 hD
  have hA0 := R1.hs.notin hD
  have hG0 := free_in R1.fr R1.hs hD
  refine ⟨fun i m Hc => m = ws.length - i ∧ i ≤ ws.length ∧ ∃ A' H0' vs, RS X.K G A' σ Hc H0' sl st1 ∧ Ext A1 A' ∧ Same H01 H0' ∧ Hc D = some (.dT vs) ∧ RepWK X.K A' H0' vs ((kvs.take i).map fun p => (p.1, W.dat p.2)) ∧ H0' D = none ∧ D ∉ A',
    ⟨ws.length, by simp, Nat.zero_le _, A1, H01, [], R1.fresh hD, Ext.refl _, Same.refl _, upd_same, trivial, h00, hA0⟩, ?_⟩
  rintro i m Hc ⟨rfl, hle, A', H0', vs, R', x', s', hDl, rr, h0D, hAD⟩
  have RL : RS X.K ⟨Hc, H0', A'⟩ A' σ Hc H0' sl st1 := ⟨R'.sl, R'.hs, Fr.refl R'.hs⟩
  obtain ⟨go, stop⟩ := it i ⟨Hc, H0', A'⟩ A' σ Hc H0' sl st1 RL x' s'
  by_cases hlt : i < ws.length
  · obtain ⟨g1, g2⟩ := go hlt
    refine .inr ⟨g1, fun Hn => ∃ A' H0' vs, RS X.K G A' σ Hn H0' sl st1 ∧ Ext A1 A' ∧ Same H01 H0' ∧ Hn D = some (.dT vs) ∧ RepWK X.K A' H0' vs ((kvs.take (i + 1)).map fun p => (p.1, W.dat p.2)) ∧ H0' D = none ∧ D ∉ A', fun Hn hn => ⟨ws.length - (i + 1), by omega, rfl, hlt, hn⟩, fun x Hn y => ?_⟩
    obtain ⟨w, H0'', hw, R2, s2, s3, rw'⟩ := g2 x Hn y
    have hik : kvs[i]? = some (kvs[i]'(by omega)) := List.getElem?_eq_getElem _
    obtain ⟨sl2, hsl2, el⟩ := turn i w _ hw hik
    generalize kvs[i]'(by omega) = q0 at hik el
    refine tgt_run (vs := own.map (·.2)) R2.hs.le (R2.sl.wipe _) his rw' hsl2 fun σ2 hσ2 hw2 => ⟨by rw [hw2, wipe_twice], ?_⟩
    intro sb Hb C cl fp
    refine el ⟨Hc, H0', A'⟩ sb Hb C cl fp A' σ2 Hn H0'' ⟨hσ2, R2.hs, R2.fr⟩ _ fun w4 st4 v4 A4 H4 H04 ⟨ek, es, el2⟩ R4 x4 s4 r4 => ?_
    subst es
    intro sb Hb C cl fp
    refine el2 ⟨Hc, H0', A'⟩ sb Hb C cl fp A4 σ2 H4 H04 R4 _ fun w5 st5 v5 A5 H5 H05 ⟨ew, es⟩ R5 x5 s5 r5 => ?_
    subst ew es
    obtain ⟨b, ev, hb⟩ := keyT_rep (r4.mono x5 s5) ek
    have nD : H05 D = none := by
      cases z : H05 D with
      | none => rfl
      | some o =>
        rcases R5.fr.new D o z with ⟨u, e⟩ | e
        · exact absurd (h0D.symm.trans e) (by intro z; cases z)
        · exact absurd (e _ hDl) (by rintro ⟨xs, z⟩; cases z)
    have nA : D ∉ A5 := fun z => by
      rcases R5.fr.loc D z with z | z
      · exact hAD z
      · exact absurd (hDl.symm.trans z) (by intro z; cases z)
    have nH := R5.fr.fr D _ hDl hAD
    have R6 : RS X.K G A5 σ H5 H05 sl st5 := R'.after R5.hs R5.fr
    have r2 := rr.mono R5.fr.pre R5.fr.old
    have hfr : valA ((kvs.take i).map fun p => (p.1, W.dat p.2)) q0.1 = none := by rw [valA_map, putA_fresh hnd hik]; rfl
    refine ⟨q0.1, b, vs, ev, R5.hs.le _ _ hb, nH, ?_, A5, H05, _, R6.poke nD nA hG0, x'.trans R5.fr.pre, s'.trans R5.fr.old, upd_same, ?_, nD, nA⟩
    · have := repWK_len rr
      rw [List.length_map, List.length_take] at this
      omega
    · rw [map_take_snoc hik, putK_new _ (valV_none_of r2 hfr)]
      exact repWK_snoc r2 rfl r5
  · have e : i = ws.length := by omega
    refine .inl ⟨stop e, ?_⟩
    rw [e, ← hlen, List.take_length] at rr
    have ex : Ext A' (A' ++ [D]) := ⟨[D], rfl⟩
    have R7 : RS X.K G (A' ++ [D]) σ Hc H0' sl (st1 ++ [.dtt (kvs.map fun p => (p.1, W.dat p.2))]) := by
      refine ⟨R'.sl.mono ex (Same.refl _), ⟨R'.hs.le, by simp [R'.hs.al], ?_, fun j a o ha ho => ?_⟩, ⟨R'.fr.fr, R'.fr.old, R'.fr.new, R'.fr.pre.trans ex, fun b hb => ?_⟩⟩
      · rw [List.nodup_append]
        refine ⟨R'.hs.nd, by simp, fun a ha b hb => ?_⟩
        simp at hb
        subst hb
        rintro rfl
        exact hAD ha
      · by_cases hj : j < A'.length
        · rw [List.getElem?_append_left hj] at ha
          rw [List.getElem?_append_left (by rw [← R'.hs.al]; exact hj)] at ho
          exact (R'.hs.ob j a o ha ho).mono0 ex (Same.refl _) id
        · have hj2 : j = A'.length := by
            have := (List.getElem?_eq_some_iff.mp ha).1
            rw [List.length_append] at this
            have h1 : [D].length = 1 := rfl
            omega
          subst hj2
          rw [List.getElem?_append_right (Nat.le_refl _), Nat.sub_self] at ha
          rw [List.getElem?_append_right (by rw [R'.hs.al]; exact Nat.le_refl _), R'.hs.al, Nat.sub_self] at ho
          have ea : D = a := by simpa using ha
          have eo : Ob.dtt (kvs.map fun p => (p.1, W.dat p.2)) = o := by simpa using ho
          subst ea eo
          exact ⟨h0D, vs, hDl, rr.mono ex (Same.refl _)⟩
      · rcases List.mem_append.mp hb with hb | hb
        · exact R'.fr.loc b hb
        · simp at hb
          subst hb
          exact .inr hG0
    refine k _ _ _ _ Hc H0' fin R7 ((x1.trans x').trans ex) (s1.trans s') ⟨D, ?_, rfl⟩
    rw [← R'.hs.al, List.getElem?_append_right (Nat.le_refl _), Nat.sub_self]
    rfl
end
end Dn
namespace Dn
open PySem PySem.Spec L2 StX ClX
open PyProof.Rows hiding St
section
variable {P : Program} {w : World} {K : PySem.W.Frag} {mg : Str → Option Value} {base : Heap} {k : Nat} {f : Addr} {fd : FuncData} {N ps : List Str} {sp : Sp}
theorem FnGo.ofBodyD {x qual : Str} {st : Stmt} {dvs : List V} {kws : List (Str × V)} (F : FunD K x qual (defArgs st) (defBody st) (defScope st) dvs kws f fd) (S : FnScope N ps (defScope st)) (ln : ∀ xs h Q E, sp xs h Q E → xs.length = ps.length)
    (bd : ∀ (cdv : Value) (B : Around) (out : List Env) (t : Shared) (h : Hp) (xs : List V) (Q : VK) (E : XK), RoomG k (B.deeper (envOfC qual (defScope st) t.heap.objs.size f cdv)) → sp xs h Q E →
      ∃ r, PSs (cxOf (L2.CX P w) P w K mg base N qual (defScope st) f cdv B out t h E) (defBody st) r ∧ r { nx := fun _ h' => Q .non h', rt := Q } (L2.start N xs) h) : FnGo P w K mg base (L2.CX P w) (k + 1) f fd ps sp := by
  obtain ⟨_, _, _, _, _, _, _, cdv, _, _, rfl, at_f, at_c, _, _⟩ := F.ex
  constructor
  · exact ln
  intro B out t h ar us xs Q E room env bound vals q
  have up : ∀ c o, base.get? c = some o → t.heap.get? c = some o := fun c o e => (env.bs c o e).1
  have hin := env.mod.kin.keeps up
  refine codeAny_call_function room.r.depth (hin _ _ at_f) rfl S.co S.gen rfl (PySem.W.codeRec_of hin at_c) (bound _ _ _ _ (wpAny_newFunctionEnv_cells S.kind ?_ ?_))
  · rintro ⟨n, v⟩ hm
    refine (S.par n (List.of_mem_zip hm).1).imp id fun c => ⟨c, ?_⟩
    exact PySem.W.cellsFrom_some _ _ _ (.inl c)
  · rintro env1 rfl t1 made
    refine ⟨(env.mod.nolimit.keeps up).keeps made.toInCall.keep, codeAny_func ?_⟩
    obtain ⟨r, walk, here⟩ := bd cdv B out t h xs Q E (room.deeper _) q
    have inv0 := inv_start (CX := L2.CX P w) (E := E) S room.hd env (ln _ _ _ _ q) vals made
    refine wpAny_mono (walk.run [] t1 _ h _ inv0 here) ?_ fun _ _ z => z
    rintro (_ | _ | _ | u) t2 z
    · obtain ⟨_, h2, J, z⟩ := z
      exact ⟨.non, h2, J.os, J.bare, J.base, J.hok, rfl, z⟩
    · obtain ⟨_, _, _, z⟩ := z
      exact z.elim
    · obtain ⟨_, _, _, z⟩ := z
      exact z.elim
    · obtain ⟨v, _, h2, J, rv, z⟩ := z
      exact ⟨v, h2, J.os, J.bare, J.base, J.hok, rv, z⟩
end
theorem fnDokD {P : Program} {w : World} {K : PySem.W.Frag} {mg : Str → Option Value} {base : Heap} {x qual : Str} {st : Stmt} {f : Addr} {fd : FuncData} {N ps : List Str} {k : Nat} {F : FT} {dvs : List V} {kws : List (Str × V)} (Fn : FunD K x qual (defArgs st) (defBody st) (defScope st) dvs kws f fd) (S : FnScope N ps (defScope st))
    (hlen : ∀ args st0 Ret Exc, F args st0 Ret Exc → args.length = ps.length)
    (body : ∀ (cdv : Value) (A : Around) (outer : List Env) (s : Shared) (H : Hp) (E : XK) (H0 : Hp) (Al : List Addr) (args : List W) (st0 : List Ob) (Ret : WK) (Exc : XKD),
      RoomG k (cxOf (L2.CX P w) P w K mg base N qual (defScope st) f cdv A outer s H E).A →
      XOk (cxOf (L2.CX P w) P w K mg base N qual (defScope st) f cdv A outer s H E) ⟨H, H0, Al⟩ (KxE st0 Exc) →
      PassesOwn (model P w) (cxOf (L2.CX P w) P w K mg base N qual (defScope st) f cdv A outer s H E).A (cxOf (L2.CX P w) P w K mg base N qual (defScope st) f cdv A outer s H E).env (cxOf (L2.CX P w) P w K mg base N qual (defScope st) f cdv A outer s H E).xe →
      Al.length = st0.length → Clos st0 → F args st0 Ret Exc →
      SW (cxOf (L2.CX P w) P w K mg base N qual (defScope st) f cdv A outer s H E) ⟨H, H0, Al⟩ (defBody st) (startS N args) st0 { nx := fun _ st' => KrE st0 Ret (.dat .non) st', rt := KrE st0 Ret }) :
    FnGo P w K mg base (L2.CX P w) (k + 1) f fd ps (spD K F) := by
  refine FnGo.ofBodyD Fn S (fun vs H Q E h => ?_) (fun cdv A outer s H vs Q E hr h => ?_)
  · obtain ⟨H0, Al, args, st0, Ret, Exc, hs, rw, hF, _⟩ := h
    rw [rw.length]
    exact hlen _ _ _ _ hF
  · obtain ⟨H0, Al, args, st0, Ret, Exc, hs, rw, hF, hR, hE⟩ := h
    refine ⟨_, pss_wp, ?_⟩
    have fin : ∀ {A' H' H0' st' w v}, KrE st0 Ret w st' → HS K A' H' H0' st' → Fr ⟨H, H0, Al⟩ A' H' H0' → RepW K A' H0' v w → Q v H' := fun {A' H' H0' st' w v} q hs' fr r => by
      obtain ⟨st1, g, rfl, hl, hc, hw, q⟩ := q
      exact hR w st1 v _ H' H0' q (hs'.drop hc) (fr.drop (by show Al.length ≤ _; rw [hs.al]; exact hl)) (r.take hw)
    refine body cdv A outer s H E H0 Al args st0 Ret Exc hr ⟨_, takes_of rfl rfl rfl rfl, fun cls fs d vfs A' σ' H' H0' sl' st' q R xd rf => ?_⟩ (passes_of rfl) hs.al hs.clos hF Al (L2.start N vs) H H0 ⟨rw.lenS, hs, Fr.refl hs⟩ _ ⟨fun A' σ' H' H0' sl' st' q R _ _ => ?_, fun A' σ' H' H0' sl' st' w v q R _ _ r => ?_, fun _ _ _ _ _ _ q => q.elim, fun _ _ _ _ _ _ q => q.elim⟩
    · obtain ⟨st1, g, rfl, hl, hc, q⟩ := q
      exact hE cls fs d vfs st1 _ H' H0' q (R.hs.drop hc) (R.fr.drop (by show Al.length ≤ _; rw [hs.al]; exact hl)) xd rf
    · exact fin q R.hs R.fr (show RepW K A' H0' .non (.dat .non) from .non)
    · exact fin q R.hs R.fr r
section
variable {P : Program} {w : World} {K : PySem.W.Frag} {mg : Str → Option Value} {base : Heap} {k : Nat} {f : Addr} {fd : FuncData} {N ps : List Str} {sp : Sp}
theorem repWs_snoc {K : PySem.W.Frag} {A : List Addr} {H0 : Hp} : ∀ {vs : List V} {ws : List W} {v : V} {w : W}, RepWs K A H0 vs ws → RepW K A H0 v w → RepWs K A H0 (vs ++ [v]) (ws ++ [w])
  | [], [], _, _, _, r => ⟨r, trivial⟩
  | _ :: _, _ :: _, _, _, h, r => ⟨h.1, repWs_snoc h.2 r⟩
theorem vals_snoc : ∀ {xs : List V} {us : List Value} {x : V} {u : Value}, Vals xs us → RelV x u → Vals (xs ++ [x]) (us ++ [u])
  | _, _, _, _, .nil, r => .cons r .nil
  | _, _, _, _, .cons a b, r => .cons a (vals_snoc b r)
theorem FnGo.dflt {CX : CXT} {F : FT} (Fo : FnGo P w K mg base CX k f fd ps (spD K F)) {T : Addr} {o : Obj} {n : Nat} (b : Binds K fd ps [.ref T]) (lk : K.lookup T = some o) (c : o.cls = .type "tuple") (d : o.data = .seq #[] n) :
    FnG P w K mg base CX k f (spD K fun args st Ret Exc => F (args ++ [.dat (.tup [])]) st Ret Exc) := fun B out t h us xs Q E hr e0 r q => by
  obtain ⟨H0, A, args, st, Ret, Exc, hs, rw', hF, h1, h2⟩ := q
  have sp' : spD K F (xs ++ [.ref T]) h Q E := ⟨H0, A, args ++ [.dat (.tup [])], st, Ret, Exc, hs, repWs_snoc rw' (show RepW K A H0 (.ref T) (.dat (.tup [])) from .tupK lk c d), hF, h1, h2⟩
  have r' : Vals (xs ++ [.ref T]) (us ++ [.ref T]) := vals_snoc r rfl
  have hin : K.In t.heap := e0.mod.kin.keeps fun c o e => (e0.bs c o e).1
  have n1 : (us ++ [Value.ref T]).length = ps.length := by rw [← r'.length]; exact Fo.ln _ _ _ _ sp'
  exact Fo.go B out t h _ _ _ Q E hr e0 (b t us hin n1) r' sp'
end
section
variable {X : Cx} {G : Ent} {a : Expr} {sl : Sls} {st : List Ob} {Φ : WK} {p p2 q pos : Pos} {j : Nat}
theorem c_tupleT {xs : List D} (h : Φ (.dat (.tup xs)) st) : CW X G (.type "tuple") sl st [.dat (.tup xs)] Φ := cw_of call_tuple_of fun A σ H H0 R vs rw Q k => by
  obtain ⟨v, rfl, r⟩ := rep1 rw
  obtain ⟨ad, us, rfl, hs, rr⟩ := rep_tup r
  exact ⟨ad, us, rfl, .inr ⟨hs _ R.hs.le, k _ st _ A H H0 h R (Ext.refl _) (Same.refl _) r⟩⟩
theorem c_tupleS {d : D} {xs : List D} (hd : d = .lst xs ∨ d = .tup xs) (h : Φ (.dat (.tup xs)) st) : CW X G (.type "tuple") sl st [.dat d] Φ := by
  rcases hd with rfl | rfl
  · exact c_tuple h
  · exact c_tupleT h
theorem reps_strs2 {K : PySem.W.Frag} {H : Hp} : ∀ {vs : List V} {xs : List Str}, Reps K H vs (xs.map D.str) → vs = xs.map V.str
  | _, [], .nil => rfl
  | _, x :: xs, .cons a b => by
    cases a
    rw [reps_strs2 b]
    rfl
theorem ew_lenSet1 (hc : X.calm = true) (hm : X.mg "len" = none) (hm2 : X.mg "set" = none) (h : EW X G a sl st fun w st1 => ∃ xs : List Str, w = .dat (.tup (xs.map D.str)) ∧ xs.length ≤ 1 ∧ Φ (.dat (.int (xs.length : Int))) st1) (hg : Gl X "len" := by rfl) (hg2 : Gl X "set" := by rfl)
    (na : starEach [a] X.env = (false, eval a X.env) :: starEach [] X.env := by rfl) : EW X G (.Call (.Name "len" p) [.Call (.Name "set" p2) [a] [] q] [] pos) sl st Φ := fun A σ H H0 R Q k =>
  wpE_of (pe_lenSet hc hg hm hg2 hm2 pe_wp na) (h A σ H H0 R _ fun w st1 v A1 H1 H01 ⟨xs, ew, hl, q1⟩ R1 x1 s1 r1 => by
    subst ew
    obtain ⟨ad, us, rfl, hs, rr⟩ := rep_tup r1
    have e := reps_strs2 rr
    subst e
    exact ⟨ad, xs, rfl, .inr (hs _ R1.hs.le), hl, k _ st1 _ A1 H1 H01 q1 R1 x1 s1 (.int _)⟩)
theorem ew_isalpha {o : Expr} {apos : Pos} (h : EW X G o sl st fun w st1 => ∃ a : Str, w = .dat (.str a) ∧ Φ (.dat (.bl (Txt.isalpha a))) st1) (h2 : attributeBase o "isalpha" X.env (eval o X.env) = eval o X.env := by rfl) (h3 : (apos.endLine == pos.line) = true := by rfl) : EW X G (.Call (.Attribute o "isalpha" apos) [] [] pos) sl st Φ := fun A σ H H0 R Q k =>
  wpE_of (pe_m0 PySem.F.slot_str_isalpha PySem.F.type_str_isalpha mt_isalpha pe_wp h2 h3) (h A σ H H0 R _ fun w st1 v A1 H1 H01 ⟨a, ew, q⟩ R1 x1 s1 r1 => by
    subst ew
    cases r1
    exact ⟨⟨a, rfl⟩, a, rfl, rfl, trivial, k _ st1 _ A1 H1 H01 q R1 x1 s1 (.bl _)⟩)
theorem ew_islower {o : Expr} {apos : Pos} (h : EW X G o sl st fun w st1 => ∃ a : Str, w = .dat (.str a) ∧ Φ (.dat (.bl (Txt.islower a))) st1) (h2 : attributeBase o "islower" X.env (eval o X.env) = eval o X.env := by rfl) (h3 : (apos.endLine == pos.line) = true := by rfl) : EW X G (.Call (.Attribute o "islower" apos) [] [] pos) sl st Φ := fun A σ H H0 R Q k =>
  wpE_of (pe_m0 PySem.F.slot_str_islower PySem.F.type_str_islower mt_islower pe_wp h2 h3) (h A σ H H0 R _ fun w st1 v A1 H1 H01 ⟨a, ew, q⟩ R1 x1 s1 r1 => by
    subst ew
    cases r1
    exact ⟨⟨a, rfl⟩, a, rfl, rfl, trivial, k _ st1 _ A1 H1 H01 q R1 x1 s1 (.bl _)⟩)
end
end Dn
namespace Dn
open PySem PySem.Spec L2 StX ClX
open PyProof.Rows hiding St
section
variable {X : Cx} {G : Ent} {tg iter elt kx vx : Expr} {scope : Scope} {tb : Bool} {is vs : List Nat} {sl : Sls} {st : List Ob}
theorem scJ_map {α : Type} (xs : List α) (r : α → D) (g : α → Key) {fin : Nat → List Ob → Prop} (hz : xs.length + 1 < scanBound) (hi : IWJ X G tg iter sl st fun ws st1 => st1 = st ∧ ws = (xs.map r).map W.dat)
    (turn : ∀ x ∈ xs, ∃ sl2, tset tb is (.dat (r x)) (wipeL sl vs) = some sl2 ∧ EWb X scope elt sl2 st fun w' st' => w' = .dat (kD (g x)) ∧ st' = st) (hf : fin (dist (xs.map g)) st) :
    IWJ X G tg iter sl st fun ws st1 => ∃ ks : List Key, ks.length = ws.length ∧ ks.length + 1 < scanBound ∧ (∀ (i : Nat) (w : W) (k : Key), ws[i]? = some w → ks[i]? = some k → ∃ sl2, tset tb is w (wipeL sl vs) = some sl2 ∧ EWb X scope elt sl2 st1 fun w' st' => w' = .dat (kD k) ∧ st' = st1) ∧ fin (dist ks) st1 := fun A σ H H0 R Rr k =>
  hi A σ H H0 R Rr fun J ws st1 A1 H1 H01 ⟨e1, e2⟩ R1 x1 s1 it => k J ws st1 A1 H1 H01 (by
    subst e1 e2
    refine ⟨xs.map g, by simp, by rw [List.length_map]; exact hz, fun i w k hw hk => ?_, hf⟩
    rw [List.map_map, List.getElem?_map] at hw
    obtain ⟨x, hx, rfl⟩ := Option.map_eq_some_iff.mp hw
    rw [List.getElem?_map, hx] at hk
    cases hk
    exact turn x (List.mem_of_getElem? hx)) R1 x1 s1 it
theorem dcJ_map {α κ : Type} (xs : List α) (r : α → D) (g : α → κ) (v : α → D) {kw : κ → W → Prop} {fin : List (κ × D) → List Ob → Prop} (hz : xs.length < sizeLine) (hn : (xs.map g).Nodup) (hi : IWJ X G tg iter sl st fun ws st1 => st1 = st ∧ ws = (xs.map r).map W.dat)
    (turn : ∀ x ∈ xs, ∃ sl2, tset tb is (.dat (r x)) (wipeL sl vs) = some sl2 ∧ EWb X scope kx sl2 st fun w' st' => kw (g x) w' ∧ st' = st ∧ EWb X scope vx sl2 st fun w2 st2 => w2 = .dat (v x) ∧ st2 = st) (hf : fin (xs.map fun x => (g x, v x)) st) :
    DcJ X G tg iter kx vx scope tb is vs kw sl st fin := fun A σ H H0 R Rr k =>
  hi A σ H H0 R Rr fun J ws st1 A1 H1 H01 ⟨e1, e2⟩ R1 x1 s1 it => k J ws st1 A1 H1 H01 (by
    subst e1 e2
    refine ⟨xs.map fun x => (g x, v x), by simp, by rw [List.length_map]; exact hz, by rw [List.map_map]; exact hn, fun i w q hw hq => ?_, hf⟩
    rw [List.map_map, List.getElem?_map] at hw
    obtain ⟨x, hx, rfl⟩ := Option.map_eq_some_iff.mp hw
    rw [List.getElem?_map, hx] at hq
    cases hq
    exact turn x (List.mem_of_getElem? hx)) R1 x1 s1 it
theorem iw_sqn (i : Nat) {x : Str} {d : D} {xs : List D} {pos : Pos} {Θ : IK} (hd : d = .lst xs ∨ d = .tup xs) (hi : sl[i]? = some (some (.dat d))) (h : Θ (xs.map W.dat) st) (hN : X.N[i]? = some x := by rfl) (hv : Vis X.env.scope x := by first | exact Or.inl rfl | exact Or.inr (Or.inl rfl) | exact Or.inr (Or.inr rfl))
    (hb : (x == ("__debug__" : Str)) = false := by decide) (hcd : (x == ("__classdict__" : Str)) = false := by decide) : IWJ X G tg (.Name x pos) sl st Θ := by
  rcases hd with rfl | rfl
  · exact iw_list (ew_name i hi ⟨_, rfl, h⟩ hN hv hb hcd)
  · exact iw_tup (ew_name i hi ⟨_, rfl, h⟩ hN hv hb hcd)
end
section
variable {X : Cx} {G : Ent} {tg iter elt kx vx : Expr} {scope : Scope} {own : List (Str × Nat)} {tb : Bool} {is : List Nat} {sl : Sls} {st : List Ob} {Φ : WK} {p pos cpos : Pos}
theorem ew_lenScM {α : Type} (xs : List α) (r : α → D) (g : α → Key) (hl : X.mg "len" = none) (hc : X.calm = true) (hN : X.N.Nodup) (ok : BlkOk X.N X.env.scope scope own) (ht : TgOk X tg scope tb is) (his : ∀ i ∈ is, i ∈ own.map (·.2))
    (hz : xs.length + 1 < scanBound) (hi : IWJ X G tg iter sl st fun ws st1 => st1 = st ∧ ws = (xs.map r).map W.dat)
    (turn : ∀ x ∈ xs, ∃ sl2, tset tb is (.dat (r x)) (wipeL sl (own.map (·.2))) = some sl2 ∧ EWb X scope elt sl2 st fun w' st' => w' = .dat (kD (g x)) ∧ st' = st) (hf : Φ (.dat (.int ((dist (xs.map g) : Nat) : Int))) st)
    (hg : Gl X "len" := by rfl) (hs : ∀ x, foldedSetIterable iter X.env x = pure x := by intro _; rfl)
    (he : starEach [Expr.SetComp elt [⟨tg, iter, [], 0⟩] scope cpos] X.env = (false, eval (.SetComp elt [⟨tg, iter, [], 0⟩] scope cpos) X.env) :: starEach [] X.env := by rfl) (hpl : (backTo pos (starEach [] X.env)).any (·.1) = false := by rfl) :
    EW X G (.Call (.Name "len" p) [.SetComp elt [⟨tg, iter, [], 0⟩] scope cpos] [] pos) sl st Φ :=
  ew_lenSc (own := own) hl hc hN ok ht his (scJ_map (vs := own.map (·.2)) xs r g (fin := fun n st1 => Φ (.dat (.int ((n : Nat) : Int))) st1) hz hi turn hf) hg hs he hpl
theorem ew_dcKM {α : Type} (xs : List α) (r : α → D) (g : α → Key) (v : α → D) (hc : X.calm = true) (hN : X.N.Nodup) (ok : BlkOk X.N X.env.scope scope own) (ht : TgOk X tg scope tb is) (his : ∀ i ∈ is, i ∈ own.map (·.2))
    (hz : xs.length < sizeLine) (hn : (xs.map g).Nodup) (hi : IWJ X G tg iter sl st fun ws st1 => st1 = st ∧ ws = (xs.map r).map W.dat)
    (turn : ∀ x ∈ xs, ∃ sl2, tset tb is (.dat (r x)) (wipeL sl (own.map (·.2))) = some sl2 ∧ EWb X scope kx sl2 st fun w' st' => keyW w' = some (g x) ∧ st' = st ∧ EWb X scope vx sl2 st fun w2 st2 => w2 = .dat (v x) ∧ st2 = st)
    (hf : Φ (.ptr st.length) (st ++ [.dct ((xs.map fun x => (g x, v x)).map fun p => (p.1, W.dat p.2))])) (hs : ∀ x, foldedSetIterable iter X.env x = pure x := by intro _; rfl) : EW X G (.DictComp kx vx [⟨tg, iter, [], 0⟩] scope cpos) sl st Φ :=
  ew_dcK (own := own) hc hN ok ht his (dcJ_map (kw := fun (k : Key) w => keyW w = some k) (fin := fun kvs st1 => Φ (.ptr st1.length) (st1 ++ [.dct (kvs.map fun p => (p.1, W.dat p.2))])) xs r g v hz hn hi turn hf) hs
theorem ew_dcTM {α : Type} (xs : List α) (r : α → D) (g : α → List Key) (v : α → D) (hu : X.A.units < cLine) (hc : X.calm = true) (hN : X.N.Nodup) (ok : BlkOk X.N X.env.scope scope own) (ht : TgOk X tg scope tb is) (his : ∀ i ∈ is, i ∈ own.map (·.2))
    (hz : xs.length < sizeLine) (hn : (xs.map g).Nodup) (hi : IWJ X G tg iter sl st fun ws st1 => st1 = st ∧ ws = (xs.map r).map W.dat)
    (turn : ∀ x ∈ xs, ∃ sl2, tset tb is (.dat (r x)) (wipeL sl (own.map (·.2))) = some sl2 ∧ EWb X scope kx sl2 st fun w' st' => keyT w' = some (g x) ∧ st' = st ∧ EWb X scope vx sl2 st fun w2 st2 => w2 = .dat (v x) ∧ st2 = st)
    (hf : Φ (.ptr st.length) (st ++ [.dtt ((xs.map fun x => (g x, v x)).map fun p => (p.1, W.dat p.2))])) (hs : ∀ x, foldedSetIterable iter X.env x = pure x := by intro _; rfl) : EW X G (.DictComp kx vx [⟨tg, iter, [], 0⟩] scope cpos) sl st Φ :=
  ew_dcT (own := own) hu hc hN ok ht his (dcJ_map (kw := fun (k : List Key) w => keyT w = some k) (fin := fun kvs st1 => Φ (.ptr st1.length) (st1 ++ [.dtt (kvs.map fun p => (p.1, W.dat p.2))])) xs r g v hz hn hi turn hf) hs
end
end Dn
namespace Dn
open PySem PySem.Spec L2 StX ClX
open PyProof.Rows hiding St
section
variable {X : Cx} {G : Ent} {e o : Expr} {sl : Sls} {st : List Ob} {Φ : WK} {pos apos cpos : Pos} {j : Nat}
theorem push_lst {K : PySem.W.Frag} {A : List Addr} {σ : St} {H H0 : Hp} {Q : VK} {p : Addr} {vs : List V} {xs : List W} (R : RS K G A σ H H0 sl st) (hp : H p = none) (rr : RepWs K A H0 vs xs) (k : Ct K G A σ H0 sl Φ Q) (h : Φ (.ptr st.length) (st ++ [.lst xs])) : Q (.ref p) (upd H p (.lst vs)) := by
  have ex : Ext A (A ++ [p]) := ⟨[p], rfl⟩
  refine k _ _ _ _ _ _ h (R.push hp ⟨R.hs.free0 hp, vs, upd_same, rr.mono ex (Same.refl _)⟩) ex (Same.refl _) ⟨p, ?_, rfl⟩
  rw [← R.hs.al, List.getElem?_append_right (Nat.le_refl _)]
  simp
theorem rep_seqs {K : PySem.W.Frag} {H : Hp} {v : V} {d : D} {xs : List D} (hd : d = .lst xs ∨ d = .tup xs) (r : Rep K H v d) : ∃ a vs, v = .ref a ∧ (∀ H', Same H H' → SqL K H' a vs ∨ SqT K H' a vs) ∧ Reps K H vs xs := by
  rcases hd with rfl | rfl
  · cases r with
    | lst eh rr => exact ⟨_, _, rfl, fun H' s => .inl (.inl (.inl (s _ _ eh))), rr⟩
  · obtain ⟨a, vs, rfl, h, rr⟩ := rep_tup r
    exact ⟨a, vs, rfl, fun H' s => .inr (h H' s), rr⟩
theorem c_listP {d : D} {xs : List D} (hd : d = .lst xs ∨ d = .tup xs) (h : Φ (.ptr st.length) (st ++ [.lst (xs.map W.dat)])) : CW X G (.type "list") sl st [.dat d] Φ := cw_of call_list_of fun A σ H H0 R vs rw Q k => by
  obtain ⟨v, rfl, r⟩ := rep1 rw
  obtain ⟨ad, us, rfl, hs, rr⟩ := rep_seqs hd r
  exact ⟨ad, us, rfl, hs _ R.hs.le, fun l hl => push_lst R hl (RepWs.of rr) k h⟩
theorem c_listD {d : D} {xs : List D} (hd : d = .lst xs ∨ d = .tup xs) (h : Φ (.dat (.lst xs)) st) : CW X G (.type "list") sl st [.dat d] Φ := cw_of call_list_of fun A σ H H0 R vs rw Q k => by
  obtain ⟨v, rfl, r⟩ := rep1 rw
  obtain ⟨ad, us, rfl, hs, rr⟩ := rep_seqs hd r
  refine ⟨ad, us, rfl, hs _ R.hs.le, fun l hl => ?_⟩
  have s0 := same_upd (o := .lst us) (R.hs.free0 hl)
  exact k _ st _ A _ _ h (R.alloc hl) (Ext.refl _) s0 (.lst upd_same (rr.mono s0))
theorem ew_popAt (h : EW X G o sl st fun w1 st1 => ∃ j ys, w1 = .ptr j ∧ st1[j]? = some (.lst ys) ∧ EW X G e sl st1 fun w2 st2 => ∃ (xs : List W) (i : Nat) (y : W), w2 = .dat (.int (i : Int)) ∧ st2[j]? = some (.lst xs) ∧ (i : Int) < 2 ^ 63 ∧ xs[i]? = some y ∧ Φ y (st2.set j (.lst (xs.eraseIdx i))))
    (hbase : attributeBase o "pop" X.env (eval o X.env) = eval o X.env := by rfl)
    (hfew : ((backTo cpos (starEach (e :: []) X.env)).all (fun x => !x.1) && (backToKw cpos (keywordEach [] X.env)).all (fun x => x.1.isSome)
      && decide ((e :: ([] : List Expr)).length + ([] : List Keyword).length + (if ([] : List Keyword).isEmpty then 0 else 1) < 30)) = true := by rfl)
    (hline : (apos.endLine == cpos.line) = true := by rfl) (hs : starEach (e :: []) X.env = (false, eval e X.env) :: starEach [] X.env := by rfl) (hplain : (backTo cpos (starEach [] X.env)).any (·.1) = false := by rfl) : EW X G (.Call (.Attribute o "pop" apos) [e] [] cpos) sl st Φ := fun A σ H H0 R Q k =>
  wpE_of (pe_bm PySem.F.plainAttrs_list PySem.F.slot_list_pop PySem.F.type_list_pop mt_popAt pe_wp (pa_cons pe_wp pa_nil hs) hbase hfew hline hs hplain) (h A σ H H0 R _ fun w1 st1 v1 A1 H1 H01 ⟨j, ys, ew, hy, q⟩ R1 x1 s1 r1 => by
    subst ew
    obtain ⟨ad, ha, h0, vs, he, rr⟩ := R1.at hy
    obtain ⟨a', ha', rfl⟩ := r1
    have : a' = ad := Option.some.inj (ha'.symm.trans ha)
    subst this
    refine ⟨.inl ⟨rfl, vs, .inl (.inl he)⟩, q A1 σ H1 H01 R1 _ fun w2 st2 v2 A2 H2 H02 ⟨xs, i, y, ew2, hx, hi, hxi, q2⟩ R2 x2 s2 r2 => ?_⟩
    subst ew2
    cases r2
    obtain ⟨ad2, ha2, h02, vs2, he2, rr2⟩ := R2.at hx
    have : ad2 = a' := Option.some.inj (ha2.symm.trans (x2.get ha))
    subst this
    obtain ⟨v, hv, rv⟩ := rr2.get hxi
    have hlt := (List.getElem?_eq_some_iff.mp hv).1
    have era : ∀ {vs : List V} {ws : List W} {n : Nat}, RepWs X.K A2 H02 vs ws → RepWs X.K A2 H02 (vs.eraseIdx n) (ws.eraseIdx n) := by
      intro vs
      induction vs with
      | nil => intro ws n h; cases ws with
        | nil => exact trivial
        | cons => exact h.elim
      | cons a vs ih => intro ws n h; cases ws with
        | nil => exact h.elim
        | cons b ws => cases n with
          | zero => exact h.2
          | succ n => exact ⟨h.1, ih h.2⟩
    refine ⟨_, vs2, (i : Int), i, v, rfl, rfl, he2, by omega, hi, ?_, hv, ?_⟩
    · unfold seqIndex?
      simp only
      split
      · omega
      · rename_i h1
        first
          | rfl
          | (split <;> first | rfl | omega | simp_all)
    · exact k _ _ _ A2 _ H02 q2 (R2.write ha2 hx h02 ⟨h02, _, upd_same, era rr2⟩) (x1.trans x2) (s1.trans s2) rv)
theorem ew_sliceScr {lo hi : Option Expr} {p2 : Pos} (h : EW X G e sl st fun w st1 => PtW X G lo sl st1 fun l st2 => PtW X G hi sl st2 fun u st3 => ∃ ns : List Int, w = .dat (.scr ns) ∧ Φ (.dat (.lst ((cutL ns l u).map D.int))) st3) : EW X G (.Subscript e (.Slice lo hi none p2) pos) sl st Φ := fun A σ H H0 R Q k =>
  wpE_of (pe_slice sl_list pe_wp po_wp po_wp) (h A σ H H0 R _ fun w st1 v A1 H1 H01 q R1 x1 s1 r1 => q A1 σ H1 H01 R1 _ fun l st2 A2 H2 H02 q2 R2 x2 s2 => q2 A2 σ H2 H02 R2 _ fun u st3 A3 H3 H03 ⟨ns, ew, q3⟩ R3 x3 s3 => by
    subst ew
    cases r1.mono (x2.trans x3) (s2.trans s3) with
    | @scr a _ eh =>
      refine ⟨a, ns.map V.int, rfl, R3.hs.le.seq eh, fun pp hp => ?_⟩
      have e1 : cutV (ns.map V.int) l u = (cutL ns l u).map V.int := by
        unfold cutV cutL
        rw [List.length_map, ← List.map_drop, ← List.map_take]
      rw [e1]
      have s0 := same_upd (o := .lst ((cutL ns l u).map V.int)) (R3.hs.free0 hp)
      exact k _ st3 _ A3 _ _ q3 (R3.alloc hp) (x1.trans (x2.trans x3)) ((s1.trans (s2.trans s3)).trans s0) (.lst upd_same (reps_of_ints _)))
theorem reps_rev {K : PySem.W.Frag} {H : Hp} : ∀ {vs : List V} {xs : List D}, Reps K H vs xs → Reps K H vs.reverse xs.reverse
  | _, _, .nil => .nil
  | _, _, .cons a b => by
    rw [List.reverse_cons, List.reverse_cons]
    exact (reps_rev b).append (.cons a .nil)
theorem ew_revP {k1 : _} {p1 p2 p3 : Pos} (h : EW X G e sl st fun w st1 => ∃ xs, w = .dat (.lst xs) ∧ Φ (.ptr st1.length) (st1 ++ [.lst (xs.reverse.map W.dat)])) : EW X G (.Subscript e (.Slice none none (some (.UnaryOp .USub (.Constant (.int 1) k1 p1) p2)) p3) pos) sl st Φ := fun A σ H H0 R Q k =>
  wpE_of (pe_revL pe_wp) (h A σ H H0 R _ fun w st1 v A1 H1 H01 ⟨xs, ew, q⟩ R1 x1 s1 r1 => by
    subst ew
    cases r1 with
    | @lst ad us _ eh rr => exact ⟨ad, us, rfl, .inl (.inl (R1.hs.le _ _ eh)), fun p hp => push_lst R1 hp (RepWs.of (reps_rev rr)) (k.mv x1 s1) q⟩)
theorem o_neP {i : Nat} {ds : List D} {d2 : D} {p1 p2 : PyData} (hr : RoomG j X.A) (hi : st[i]? = some (.lst (ds.map W.dat))) (h1 : toPy (.lst ds) = some p1) (h2 : toPy d2 = some p2) (s1 : SeqAt.shaped p1 = true) (s2 : SeqAt.shaped p2 = true) (h : Φ (.dat (.bl (!PyData.eqv p1 p2))) st) : OW X G (compareOp .NotEq) sl st (.ptr i) (.dat d2) Φ := ow_of (op_neD hr.units) fun A σ H H0 R v1 v2 r1 r2 Q k => by
  obtain ⟨ad, ha, h0, vs, he, rr⟩ := R.at hi
  obtain ⟨a', ha', rfl⟩ := r1
  have : a' = ad := Option.some.inj (ha'.symm.trans ha)
  subst this
  simp only [toPy] at h1
  obtain ⟨ps, e1, e2⟩ := Option.map_eq_some_iff.mp h1
  subst e2
  have da := toPys_dp ds vs ps rr.dats e1
  have db : Dp X.K H (.ref a') (.list ps) := .lst (.inl (.inl he)) (by
    have : ∀ {vs ps}, DpAll X.K H0 vs ps → DpAll X.K H vs ps := fun {vs ps} z => by
      have := z
      clear z
      induction vs generalizing ps with
      | nil => cases this; exact .nil
      | cons v vs ih => cases this with | cons a b => exact .cons (dp_mono a R.hs.le) (ih b)
    exact this da)
  exact ⟨_, p2, db, dp_mono (toPy_dp d2 v2 p2 r2 h2) R.hs.le, s1, s2, k _ st _ A H H0 h R (Ext.refl _) (Same.refl _) (.bl _)⟩
theorem putK_nil_fold {κ : Type} [DecidableEq κ] : ∀ (kvs acc : List (κ × V)), ((acc ++ kvs).map (·.1)).Nodup → kvs.foldl (fun a kv => putK a kv.1 kv.2) acc = acc ++ kvs
  | [], acc, _ => by simp
  | q :: kvs, acc, h => by
    have hn : valV acc q.1 = none := by
      cases e : valV acc q.1 with
      | none => rfl
      | some v =>
        exfalso
        have hm := valV_in e
        rw [List.map_append, List.nodup_append] at h
        exact h.2.2 _ hm q.1 (by simp) rfl
    rw [List.foldl_cons, putK_new _ hn, putK_nil_fold kvs (acc ++ [(q.1, q.2)]) (by rw [List.append_assoc]; exact h), List.append_assoc]
    rfl
theorem c_dictP {d : D} {kvs : List (Key × D)} (hc : X.calm = true) (hd : d = .lst (kvs.map fun p => D.tup [kD p.1, p.2])) (hn : (kvs.map (·.1)).Nodup) (h : Φ (.ptr st.length) (st ++ [.dct (kvs.map fun p => (p.1, W.dat p.2))])) : CW X G (.type "dict") sl st [.dat d] Φ := cw_of (call_dictP hc) fun A σ H H0 R vs rw Q k => by
  obtain ⟨v, rfl, r⟩ := rep1 rw
  subst hd
  cases r with
  | @lst ad us _ eh rr =>
    have pr : ∀ {us : List V} {kvs : List (Key × D)}, Reps X.K H0 us (kvs.map fun p => D.tup [kD p.1, p.2]) → ∃ (ps : List Addr) (ws : List (Key × V)), us = ps.map V.ref ∧ Paired (fun p kv => SqT X.K H p [kV kv.1, kv.2]) ps ws ∧ ws.map (·.1) = kvs.map (·.1) ∧ Reps X.K H0 (ws.map (·.2)) (kvs.map (·.2)) := by
      intro us kvs
      induction kvs generalizing us with
      | nil => intro z; cases z; exact ⟨[], [], rfl, .nil, rfl, .nil⟩
      | cons q kvs ih =>
        intro z
        rw [List.map_cons] at z
        cases z with
        | cons a b =>
          obtain ⟨ps, ws, rfl, pp, e1, rr⟩ := ih b
          obtain ⟨p, vs, rfl, hs, r2⟩ := rep_tup a
          cases r2 with
          | cons ra rb =>
            cases rb with
            | cons rb rc =>
              cases rc
              have ek := keyD_rep (k := q.1) ra (by cases q.1 <;> rfl)
              subst ek
              exact ⟨p :: ps, (q.1, _) :: ws, rfl, .cons (hs _ R.hs.le) pp, by rw [List.map_cons, List.map_cons, e1], .cons rb rr⟩
    obtain ⟨ps, ws, e0, pp, e1, rr2⟩ := pr rr
    refine ⟨ad, ps, ws, rfl, by rw [← e0]; exact .inl (.inl (R.hs.le _ _ eh)), pp, fun p hp => ?_⟩
    have em : mergeK [] ws = ws := by
      unfold mergeK
      rw [putK_nil_fold ws [] (by rw [List.nil_append, e1]; exact hn)]
      rfl
    rw [em]
    have ex : Ext A (A ++ [p]) := ⟨[p], rfl⟩
    refine k _ _ _ _ _ _ h (R.push hp ⟨R.hs.free0 hp, ws, upd_same, (repWK_of e1 rr2).mono ex (Same.refl _)⟩) ex (Same.refl _) ⟨p, ?_, rfl⟩
    rw [← R.hs.al, List.getElem?_append_right (Nat.le_refl _)]
    simp
end
end Dn
namespace Dn
open PySem PySem.Spec L2 StX ClX
open PyProof.Rows hiding St
section
variable {X : Cx} {G : Ent} {kx vx : Expr} {sl : Sls} {st : List Ob} {Φ : WK} {p pos cpos : Pos}
def tD1 (tk tv : TE) : TE := fun σ H Q => ∀ p, H p = none → tk σ (upd H p (.dT [])) fun x H1 => tv σ H1 fun y H2 => ∃ (b : Addr) (ks : List Key), x = .ref b ∧ H2 b = some (.tup (ks.map kV)) ∧ H2 p = some (.dT []) ∧ Q (.ref p) (upd H2 p (.dT [(ks, y)]))
theorem pe_disp1T (hu : X.A.units < cLine) {tk tv : TE} (hk : PE X kx tk) (hv : PE X vx tv) : PE X (.Dict [some kx] [vx] pos) (tD1 tk tv) := ⟨fun pins s σ H Q I q => by
  have hn := I.hok.fresh (Nat.le_refl s.heap.objs.size)
  have I1 := I.laid (a := s.heap.objs.size) (o := .dT []) (h' := s.heap.push { cls := .type "dict", data := .dict #[] }) (t' := s.toks) (fun _ _ q => Heap.get?_push_of_some _ q) (Nat.le_refl _) (dt_empty s.heap I.big)
  refine wpAny_Dict_any rfl rfl (by simp) (by simp) ?_
  refine pairTrees_cons_walk (thn (hk.run pins _ σ _ _ I1 (q _ hn)) fun u s1 ⟨x, H1, I2, rx, q1⟩ => thn (hv.run pins s1 σ H1 _ I2 q1) fun w2 s2 ⟨y, H2, I3, ry, b, ks, ex, eb, hD, q2⟩ => pairTrees_nil_walk ?_)
  subst ex
  cases (show u = Value.ref b from rx)
  unfold storeAll
  rw [List.forIn_cons]
  refine wpAny_bind (wpAny_bind (put_dictT hu I3 hD (by decide) eb ry fun s' I' => wpAny_pure ?_))
  refine wpAny_pure ?_
  exact ⟨.ref s.heap.objs.size, _, I', rfl, q2⟩⟩
theorem ew_disp1T {g : List Key} {v : D} (hu : X.A.units < cLine) (h : ∀ G', EW X G' kx sl st fun w st' => keyT w = some g ∧ st' = st ∧ EW X G' vx sl st fun w2 st2 => w2 = .dat v ∧ st2 = st) (hf : Φ (.ptr st.length) (st ++ [.dtt [(g, .dat v)]])) : EW X G (.Dict [some kx] [vx] pos) sl st Φ := fun A σ H H0 R Q k => by
  refine wpE_of (pe_disp1T hu pe_wp pe_wp) ?_
  intro D hD
  have h00 := R.hs.free0 hD
  have hA0 := R.hs.notin hD
  have hG0 := free_in R.fr R.hs hD
  have R' : RS X.K G A σ (upd H D (.dT [])) H0 sl st := R.fresh hD
  have RL : RS X.K ⟨upd H D (.dT []), H0, A⟩ A σ (upd H D (.dT [])) H0 sl st := ⟨R'.sl, R'.hs, Fr.refl R'.hs⟩
  have hDl : (upd H D (.dT [])) D = some (.dT []) := upd_same
  refine h ⟨upd H D (.dT []), H0, A⟩ A σ _ H0 RL _ fun w4 st4 v4 A4 H4 H04 ⟨ek, es, el2⟩ R4 x4 s4 r4 => ?_
  subst es
  refine el2 A4 σ H4 H04 R4 _ fun w5 st5 v5 A5 H5 H05 ⟨ew, es⟩ R5 x5 s5 r5 => ?_
  subst ew es
  obtain ⟨b, ev, hb⟩ := keyT_rep (r4.mono x5 s5) ek
  have nD : H05 D = none := by
    cases z : H05 D with
    | none => rfl
    | some o =>
      rcases R5.fr.new D o z with ⟨u, e⟩ | e
      · exact absurd (h00.symm.trans e) (by intro z; cases z)
      · exact absurd (e _ hDl) (by rintro ⟨xs, z⟩; cases z)
  have nA : D ∉ A5 := fun z => by
    rcases R5.fr.loc D z with z | z
    · exact hA0 z
    · exact absurd (hDl.symm.trans z) (by intro z; cases z)
  have nH := R5.fr.fr D _ hDl hA0
  have R6 : RS X.K G A5 σ H5 H05 sl st5 := R'.after R5.hs R5.fr
  have R6 : RS X.K G A5 σ (upd H5 D (.dT [(g, v5)])) H05 sl st5 := R6.poke nD nA hG0
  refine ⟨b, g, ev, R5.hs.le _ _ hb, nH, ?_⟩
  have ex : Ext A5 (A5 ++ [D]) := ⟨[D], rfl⟩
  have R7 : RS X.K G (A5 ++ [D]) σ (upd H5 D (.dT [(g, v5)])) H05 sl (st5 ++ [.dtt [(g, .dat v)]]) := by
    refine ⟨R6.sl.mono ex (Same.refl _), ⟨R6.hs.le, by simp [R6.hs.al], ?_, fun j a o ha ho => ?_⟩, ⟨R6.fr.fr, R6.fr.old, R6.fr.new, R6.fr.pre.trans ex, fun b hb => ?_⟩⟩
    · rw [List.nodup_append]
      refine ⟨R6.hs.nd, by simp, fun a ha b hb => ?_⟩
      simp at hb
      subst hb
      rintro rfl
      exact nA ha
    · by_cases hj : j < A5.length
      · rw [List.getElem?_append_left hj] at ha
        rw [List.getElem?_append_left (by rw [← R6.hs.al]; exact hj)] at ho
        exact (R6.hs.ob j a o ha ho).mono0 ex (Same.refl _) id
      · have hj2 : j = A5.length := by
          have := (List.getElem?_eq_some_iff.mp ha).1
          rw [List.length_append] at this
          have h1 : [D].length = 1 := rfl
          omega
        subst hj2
        rw [List.getElem?_append_right (Nat.le_refl _), Nat.sub_self] at ha
        rw [List.getElem?_append_right (by rw [R6.hs.al]; exact Nat.le_refl _), R6.hs.al, Nat.sub_self] at ho
        have ea : D = a := by simpa using ha
        have eo : Ob.dtt [(g, W.dat v)] = o := by simpa using ho
        subst ea eo
        exact ⟨nD, _, upd_same, rfl, r5.mono ex (Same.refl _), trivial⟩
    · rcases List.mem_append.mp hb with hb | hb
      · exact R6.fr.loc b hb
      · simp at hb
        subst hb
        exact .inr hG0
  refine k _ _ _ _ _ H05 hf R7 ((x4.trans x5).trans ex) (s4.trans s5) ⟨D, ?_, rfl⟩
  rw [← R6.hs.al, List.getElem?_append_right (Nat.le_refl _), Nat.sub_self]
  rfl
end
end Dn
namespace Dn
open PySem PySem.Spec L2 StX ClX
open PyProof.Rows hiding St
section
variable {X : Cx} {G : Ent} {tg iter elt c : Expr} {scope : Scope} {tb : Bool} {is vs : List Nat} {sl : Sls} {st : List Ob} {fin : List D → List Ob → Prop}
theorem lcj_mapFS {α : Type} (hi : IWJ X G tg iter sl st fun ws st1 => ∃ (xs : List α) (r : α → D) (f : α → Bool) (g : α → D), ws = (xs.map r).map W.dat ∧ xs.length < sizeLine ∧
      (∀ x ∈ xs, ∃ sl2, tset tb is (.dat (r x)) (wipeL sl vs) = some sl2 ∧ TWb X scope c sl2 st1 fun b st' => b = f x ∧ st' = st1 ∧ (f x = true → EWb X scope elt sl2 st1 fun w st' => w = .dat (g x) ∧ st' = st1)) ∧ fin ((xs.filter f).map g) st1) : LcJ X G tg iter [c] elt scope tb is vs sl st fin := fun A σ H H0 R Rr k =>
  hi A σ H H0 R Rr fun J ws st1 A1 H1 H01 ⟨xs, r, f, g, ew, hz, turn, hf⟩ R1 x1 s1 it => k J ws st1 A1 H1 H01 ⟨fun i acc st' => acc = ((xs.take i).filter f).map g ∧ st' = st1, ⟨by simp, rfl⟩, fun i w acc st' hw ⟨ea, es⟩ => by
    rw [ew, List.getElem?_map] at hw
    obtain ⟨d, hd, rfl⟩ := Option.map_eq_some_iff.mp hw
    rw [List.getElem?_map] at hd
    obtain ⟨x, hx, rfl⟩ := Option.map_eq_some_iff.mp hd
    obtain ⟨sl2, h1, h2⟩ := turn x (List.mem_of_getElem? hx)
    have hix := (List.getElem?_eq_some_iff.mp hx).1
    refine ⟨sl2, h1, fun G2 s Hb C cl fp => ?_⟩
    subst es
    refine (h2 G2 s Hb C cl fp).imp fun b' st2 ⟨eb, es2, q⟩ => ?_
    subst eb es2
    cases hb : f x with
    | true =>
      rw [if_pos rfl]
      intro G3 s3 Hb3 C3 cl3 fp3
      refine (q hb G3 s3 Hb3 C3 cl3 fp3).imp fun w' st3 ⟨ew, es2⟩ => ⟨g x, ew, ?_, ?_, es2⟩
      · rw [ea, List.length_map]
        have := List.length_filter_le f (xs.take i)
        rw [List.length_take] at this
        omega
      · rw [ea, List.take_succ, hx]
        simp [hb]
    | false =>
      rw [if_neg Bool.false_ne_true]
      refine ⟨?_, rfl⟩
      rw [ea, List.take_succ, hx]
      simp [hb], fun acc st' ⟨ea, es⟩ => by
    rw [ea, ew, List.length_map, List.length_map, es, List.take_length]
    exact hf⟩ R1 x1 s1 it
end
end Dn
namespace Dn
open PySem PySem.Spec L2 StX ClX
open PyProof.Rows hiding St
section
variable {X : Cx} {G : Ent} {o e : Expr} {es : List Expr} {sl : Sls} {st : List Ob} {Φ : WK} {F : FT} {k j : Nat} {Kx : XKS} {m : Str} {pos apos : Pos}
theorem ew_callFld {C : Addr} {pl : Sem Bool} (c : CalO X.prog X.w X.K X.mg X.base k C F) (hr : RoomG j X.A) (hk : k ≤ j) (xk : XOk X G Kx)
    (h : EW X G o sl st fun w st1 => ∃ CL gs ps, w = .dat (.ins CL gs) ∧ Cls X.K CL ∧ NoAttr X.K CL m ∧ gs.lookup m = some (.ins C ps) ∧ AW X G (e :: es) sl st1 fun ws st2 => F (.dat (.ins C ps) :: ws) st2 Φ fun cls fs st3 => Kx cls fs sl st3)
    (hst : starEach (e :: es) X.env = (false, eval e X.env) :: starEach es X.env := by rfl) (hpl : (backTo pos (starEach es X.env)).any (·.1) = false := by rfl)
    (ht : eval (.Call (.Attribute o m apos) (e :: es) [] pos) X.env = (do
      let ov ← eval o X.env
      standAt apos.atName
      let (f, first) ← holding [ov] (getMethod ov m pl)
      callWith pos f first (backTo pos (starEach (e :: es) X.env)) (backToKw pos (keywordEach [] X.env))) := by rfl) : EW X G (.Call (.Attribute o m apos) (e :: es) [] pos) sl st Φ := fun A σ H H0 R Q kk pins s I => by
  obtain ⟨f, c, Fn⟩ := c
  refine PySem.W.methodCall_KW (pl := pl) (thn (h A σ H H0 R (fun v H1 => ∃ A1 H01 st1 CL gs ps, Cls X.K CL ∧ NoAttr X.K CL m ∧ gs.lookup m = some (.ins C ps) ∧ (AW X G (e :: es) sl st1 fun ws st2 => F (.dat (.ins C ps) :: ws) st2 Φ fun cls fs st3 => Kx cls fs sl st3) ∧ RS X.K G A1 σ H1 H01 sl st1 ∧ Ext A A1 ∧ Same H0 H01 ∧ Rep X.K H01 v (.ins CL gs))
    (fun w st1 v A1 H1 H01 ⟨CL, gs, ps, ew, hc, hn, l, q⟩ R1 x1 s1 r1 => by subst ew; exact ⟨A1, H01, st1, CL, gs, ps, hc, hn, l, q, R1, x1, s1, r1⟩) pins s I) fun u s1 ⟨v, H1, I1, rx, A1, H01, st1, CL, gs, ps, hc, hn, l, q, R1, x1, s1', r1⟩ => ?_) ht
  cases r1 with
  | @ins a _ dx vs _ hin rf =>
  obtain rfl : u = Value.ref a := rx
  obtain ⟨vf, lv, rv⟩ := rf.lookup l
  refine getmeth_fld I1 (R1.hs.le _ _ hin) hc hn lv fun uf s2 I2 ruf => ?_
  cases rv with
  | @ins b _ dy vs2 _ hin2 rf2 =>
  obtain rfl : uf = Value.ref b := ruf
  refine callO_with (thn (q A1 σ H1 H01 R1 (fun us H2 => ∃ A2 H02 st2 ws, F (.dat (.ins C ps) :: ws) st2 Φ (fun cls fs st3 => Kx cls fs sl st3) ∧ RS X.K G A2 σ H2 H02 sl st2 ∧ Ext A1 A2 ∧ Same H01 H02 ∧ RepWs X.K A2 H02 us ws)
    (fun ws st2 us A2 H2 H02 q R2 x2 s2 r2 => ⟨A2, H02, st2, ws, q, R2, x2, s2, r2⟩) pos pins s2 I2) fun us s3 ⟨vs3, H2, I3, r, A2, H02, st2, ws, q2, R2, x2, s2', r2⟩ => ?_) hst hpl
  have hi : StX.InsC X H2 b C := .inr ⟨dy, vs2, R2.hs.le _ _ (s2' _ _ hin2)⟩
  obtain ⟨ox, od, J, hd⟩ := insC_at I3 hi
  exact ⟨⟨C, ox, od, J, hd⟩, wpAny_call (PySem.W.kco_code I3.kIn J hd c.at_ c.fn c.fi (codeAny_mono (run_D (us := .ref b :: us) (vs := .ref b :: vs3) (ws := .dat (.ins C ps) :: ws) (Ret := Φ) Fn (hr.mono hk) xk R2 ⟨Rep.mono (.ins hin2 rf2) s2', r2⟩ I3 (.cons rfl r) q2 (kk.mv (x1.trans x2) (s1'.trans s2')) fun _ _ _ q => q) fun r s' q => by
    cases r with
    | error e => exact q
    | ok fl => cases fl <;> exact q))⟩
end
end Dn
namespace Dn
open PySem PySem.Spec L2 StX ClX
open PyProof.Rows hiding St
section
variable {X : Cx} {G : Ent} {e : Expr} {es : List Expr} {sl : Sls} {st : List Ob} {p : Pos}
theorem aw_starT {Λ : List W → List Ob → Prop} (h : EW X G e sl st fun w st1 => ∃ xs : List D, w = .dat (.tup xs) ∧ AW X G es sl st1 fun ws st2 => Λ (xs.map W.dat ++ ws) st2) (hs : starEach (e.Starred p :: es) X.env = (true, eval e X.env) :: starEach es X.env := by rfl) : AW X G (e.Starred p :: es) sl st Λ := fun A σ H H0 R Q k =>
  wpA_of (pa_star pe_wp pa_wp hs) (h A σ H H0 R _ fun w st1 v A1 H1 H01 ⟨xs, ew, q⟩ R1 x1 s1 r1 => by
    subst ew
    obtain ⟨ad, us, rfl, ht, rr⟩ := rep_tup r1
    exact ⟨ad, us, rfl, .inl (ht _ R1.hs.le), q A1 σ H1 H01 R1 _ fun ws st2 vs A2 H2 H02 q2 R2 x2 s2 r2 => k _ st2 _ A2 H2 H02 q2 R2 (x1.trans x2) (s1.trans s2) (RepWs.app (reps_ws (rr.mono s2)) r2)⟩)
end
end Dn
namespace Dn
open PySem PySem.Spec L2 StX ClX
open PyProof.Rows hiding St
section
variable {X : Cx} {G : Ent} {e : Expr} {sl : Sls} {st : List Ob} {Φ : WK} {pos : Pos}
theorem ew_sliceT {lo hi : Option Expr} {p2 : Pos} (h : EW X G e sl st fun w st1 => PtW X G lo sl st1 fun l st2 => PtW X G hi sl st2 fun u st3 => ∃ xs, w = .dat (.tup xs) ∧ ¬ (HT.sIx xs.length 0 l = 0 ∧ HT.sIx xs.length xs.length u = xs.length) ∧ Φ (.dat (.tup (cutL xs l u))) st3) : EW X G (.Subscript e (.Slice lo hi none p2) pos) sl st Φ := fun A σ H H0 R Q k =>
  wpE_of (pe_slice sl_tup pe_wp po_wp po_wp) (h A σ H H0 R _ fun w st1 v A1 H1 H01 q R1 x1 s1 r1 => q A1 σ H1 H01 R1 _ fun l st2 A2 H2 H02 q2 R2 x2 s2 => q2 A2 σ H2 H02 R2 _ fun u st3 A3 H3 H03 ⟨xs, ew, hne, q3⟩ R3 x3 s3 => by
    subst ew
    obtain ⟨ad, vs, rfl, ht, rr⟩ := rep_tup (r1.mono (x2.trans x3) (s2.trans s3))
    refine ⟨ad, vs, rfl, ht _ R3.hs.le, by rw [rr.length]; exact hne, fun pp hp => ?_⟩
    have s0 := same_upd (o := .tup (cutV vs l u)) (R3.hs.free0 hp)
    exact k _ st3 _ A3 _ _ q3 (R3.alloc hp) (x1.trans (x2.trans x3)) ((s1.trans (s2.trans s3)).trans s0) (.tup upd_same ((rr.cut l u).mono s0)))
end
end Dn
namespace Kf
open PySem PySem.Spec L2 StX ClX Dn
open PyProof.Rows hiding St
def top (i : Nat) : Stmt := PySem.Challenge.pw_scaleways_k42_values_that_are_reached.main.body.getD i (.Pass ⟨0, 0, 0, 0⟩)
abbrev s_is_number : Stmt := top 4
abbrev n_is_number : List Str := ["value"]
abbrev p_is_number : List Str := ["value"]
theorem sc_is_number : FnScope n_is_number p_is_number (defScope s_is_number) := ⟨rfl, rfl, rfl, by decide +kernel, rfl, by decide +kernel, by decide +kernel⟩
abbrev s_is_value : Stmt := top 5
abbrev n_is_value : List Str := ["value", "top"]
abbrev p_is_value : List Str := ["value", "top"]
theorem sc_is_value : FnScope n_is_value p_is_value (defScope s_is_value) := ⟨rfl, rfl, rfl, by decide +kernel, rfl, by decide +kernel, by decide +kernel⟩
abbrev s_is_sequence : Stmt := top 6
abbrev n_is_sequence : List Str := ["value"]
abbrev p_is_sequence : List Str := ["value"]
theorem sc_is_sequence : FnScope n_is_sequence p_is_sequence (defScope s_is_sequence) := ⟨rfl, rfl, rfl, by decide +kernel, rfl, by decide +kernel, by decide +kernel⟩
abbrev s_is_name : Stmt := top 8
abbrev n_is_name : List Str := ["value"]
abbrev p_is_name : List Str := ["value"]
theorem sc_is_name : FnScope n_is_name p_is_name (defScope s_is_name) := ⟨rfl, rfl, rfl, by decide +kernel, rfl, by decide +kernel, by decide +kernel⟩
abbrev s_is_table : Stmt := top 42
abbrev n_is_table : List Str := ["value", "target", "x", "result"]
abbrev p_is_table : List Str := ["value", "target"]
theorem sc_is_table : FnScope n_is_table p_is_table (defScope s_is_table) := ⟨rfl, rfl, rfl, by decide +kernel, rfl, by decide +kernel, by decide +kernel⟩
abbrev s_value_at : Stmt := top 22
abbrev n_value_at : List Str := ["pieces", "x", "first", "last", "middle", "start", "value", "rises"]
abbrev p_value_at : List Str := ["pieces", "x"]
theorem sc_value_at : FnScope n_value_at p_value_at (defScope s_value_at) := ⟨rfl, rfl, rfl, by decide +kernel, rfl, by decide +kernel, by decide +kernel⟩
abbrev s_value_on : Stmt := top 24
abbrev n_value_on : List Str := ["stretch", "x", "low", "_", "value", "rises"]
abbrev p_value_on : List Str := ["stretch", "x"]
theorem sc_value_on : FnScope n_value_on p_value_on (defScope s_value_on) := ⟨rfl, rfl, rfl, by decide +kernel, rfl, by decide +kernel, by decide +kernel⟩
abbrev s_last_value : Stmt := top 25
abbrev n_last_value : List Str := ["stretch"]
abbrev p_last_value : List Str := ["stretch"]
theorem sc_last_value : FnScope n_last_value p_last_value (defScope s_last_value) := ⟨rfl, rfl, rfl, by decide +kernel, rfl, by decide +kernel, by decide +kernel⟩
abbrev s_stays_within : Stmt := top 27
abbrev n_stays_within : List Str := ["rows", "target", "last", "row"]
abbrev p_stays_within : List Str := ["rows", "target"]
theorem sc_stays_within : FnScope n_stays_within p_stays_within (defScope s_stays_within) := ⟨rfl, rfl, rfl, by decide +kernel, rfl, by decide +kernel, by decide +kernel⟩
abbrev s_normal : Stmt := top 28
abbrev n_normal : List Str := ["rows", "pieces", "last", "slope", "row", "step", "low", "high", "value", "rises"]
abbrev p_normal : List Str := ["rows"]
theorem sc_normal : FnScope n_normal p_normal (defScope s_normal) := ⟨rfl, rfl, rfl, by decide +kernel, rfl, by decide +kernel, by decide +kernel⟩
abbrev s_stretches : Stmt := top 23
abbrev n_stretches : List Str := ["pieces", "top", "bounds", "piece", "at"]
abbrev p_stretches : List Str := ["pieces", "top"]
theorem sc_stretches : FnScope n_stretches p_stretches (defScope s_stretches) := ⟨rfl, rfl, rfl, by decide +kernel, rfl, by decide +kernel, by decide +kernel⟩
abbrev s_is_piece : Stmt := top 40
abbrev n_is_piece : List Str := ["value"]
abbrev p_is_piece : List Str := ["value"]
theorem sc_is_piece : FnScope n_is_piece p_is_piece (defScope s_is_piece) := ⟨rfl, rfl, rfl, by decide +kernel, rfl, by decide +kernel, by decide +kernel⟩
abbrev s_are_pieces : Stmt := top 41
abbrev n_are_pieces : List Str := ["value", "top", "starts", "piece", "at"]
abbrev p_are_pieces : List Str := ["value", "top"]
theorem sc_are_pieces : FnScope n_are_pieces p_are_pieces (defScope s_are_pieces) := ⟨rfl, rfl, rfl, by decide +kernel, rfl, by decide +kernel, by decide +kernel⟩
abbrev s_lesser : Stmt := top 21
abbrev n_lesser : List Str := ["a", "b"]
abbrev p_lesser : List Str := ["a", "b"]
theorem sc_lesser : FnScope n_lesser p_lesser (defScope s_lesser) := ⟨rfl, rfl, rfl, by decide +kernel, rfl, by decide +kernel, by decide +kernel⟩
abbrev s_cut : Stmt := top 26
abbrev n_cut : List Str := ["stretch", "low", "high"]
abbrev p_cut : List Str := ["stretch", "low", "high"]
theorem sc_cut : FnScope n_cut p_cut (defScope s_cut) := ⟨rfl, rfl, rfl, by decide +kernel, rfl, by decide +kernel, by decide +kernel⟩
abbrev s_aligned : Stmt := top 29
abbrev n_aligned : List Str := ["rows", "others", "pairs", "at", "by", "low", "high"]
abbrev p_aligned : List Str := ["rows", "others"]
theorem sc_aligned : FnScope n_aligned p_aligned (defScope s_aligned) := ⟨rfl, rfl, rfl, by decide +kernel, rfl, by decide +kernel, by decide +kernel⟩
abbrev s_level_first : Stmt := top 30
abbrev n_level_first : List Str := ["row", "other"]
abbrev p_level_first : List Str := ["row", "other"]
theorem sc_level_first : FnScope n_level_first p_level_first (defScope s_level_first) := ⟨rfl, rfl, rfl, by decide +kernel, rfl, by decide +kernel, by decide +kernel⟩
abbrev s_crossing : Stmt := top 31
abbrev n_crossing : List Str := ["level", "rising"]
abbrev p_crossing : List Str := ["level", "rising"]
theorem sc_crossing : FnScope n_crossing p_crossing (defScope s_crossing) := ⟨rfl, rfl, rfl, by decide +kernel, rfl, by decide +kernel, by decide +kernel⟩
abbrev s_followed : Stmt := top 32
abbrev n_followed : List Str := ["first", "second", "x", "low", "high"]
abbrev p_followed : List Str := ["first", "second", "x"]
theorem sc_followed : FnScope n_followed p_followed (defScope s_followed) := ⟨rfl, rfl, rfl, by decide +kernel, rfl, by decide +kernel, by decide +kernel⟩
abbrev s_greater_parts : Stmt := top 33
abbrev n_greater_parts : List Str := ["row", "other", "level", "rising"]
abbrev p_greater_parts : List Str := ["row", "other"]
theorem sc_greater_parts : FnScope n_greater_parts p_greater_parts (defScope s_greater_parts) := ⟨rfl, rfl, rfl, by decide +kernel, rfl, by decide +kernel, by decide +kernel⟩
abbrev s_lesser_parts : Stmt := top 34
abbrev n_lesser_parts : List Str := ["row", "other", "level", "rising"]
abbrev p_lesser_parts : List Str := ["row", "other"]
theorem sc_lesser_parts : FnScope n_lesser_parts p_lesser_parts (defScope s_lesser_parts) := ⟨rfl, rfl, rfl, by decide +kernel, rfl, by decide +kernel, by decide +kernel⟩
abbrev s_greater_results : Stmt := top 35
abbrev n_greater_results : List Str := ["rows", "others", "part", "row", "other"]
abbrev p_greater_results : List Str := ["rows", "others"]
theorem sc_greater_results : FnScope n_greater_results p_greater_results (defScope s_greater_results) := ⟨rfl, rfl, rfl, by decide +kernel, rfl, by decide +kernel, by decide +kernel⟩
abbrev s_lesser_results : Stmt := top 36
abbrev n_lesser_results : List Str := ["rows", "others", "part", "row", "other"]
abbrev p_lesser_results : List Str := ["rows", "others"]
theorem sc_lesser_results : FnScope n_lesser_results p_lesser_results (defScope s_lesser_results) := ⟨rfl, rfl, rfl, by decide +kernel, rfl, by decide +kernel, by decide +kernel⟩
abbrev s_never_exceeds : Stmt := top 37
abbrev n_never_exceeds : List Str := ["rows", "others", "row", "other"]
abbrev p_never_exceeds : List Str := ["rows", "others"]
theorem sc_never_exceeds : FnScope n_never_exceeds p_never_exceeds (defScope s_never_exceeds) := ⟨rfl, rfl, rfl, by decide +kernel, rfl, by decide +kernel, by decide +kernel⟩
abbrev s_composed : Stmt := top 38
abbrev n_composed : List Str := ["rows", "others", "parts", "at", "row", "low", "high", "_", "rises", "value", "end"]
abbrev p_composed : List Str := ["rows", "others"]
theorem sc_composed : FnScope n_composed p_composed (defScope s_composed) := ⟨rfl, rfl, rfl, by decide +kernel, rfl, by decide +kernel, by decide +kernel⟩
abbrev s_passage_of : Stmt := top 47
abbrev n_passage_of : List Str := ["top", "target", "rows", "low", "_", "value", "rises"]
abbrev p_passage_of : List Str := ["top", "target", "rows"]
theorem sc_passage_of : FnScope n_passage_of p_passage_of (defScope s_passage_of) := ⟨rfl, rfl, rfl, by decide +kernel, rfl, by decide +kernel, by decide +kernel⟩
abbrev s_rows_of : Stmt := top 48
abbrev n_rows_of : List Str := ["p"]
abbrev p_rows_of : List Str := ["p"]
theorem sc_rows_of : FnScope n_rows_of p_rows_of (defScope s_rows_of) := ⟨rfl, rfl, rfl, by decide +kernel, rfl, by decide +kernel, by decide +kernel⟩
abbrev s_check_alike : Stmt := top 49
abbrev n_check_alike : List Str := ["p", "q"]
abbrev p_check_alike : List Str := ["p", "q"]
theorem sc_check_alike : FnScope n_check_alike p_check_alike (defScope s_check_alike) := ⟨rfl, rfl, rfl, by decide +kernel, rfl, by decide +kernel, by decide +kernel⟩
abbrev s_is_below : Stmt := top 50
abbrev n_is_below : List Str := ["p", "q"]
abbrev p_is_below : List Str := ["p", "q"]
theorem sc_is_below : FnScope n_is_below p_is_below (defScope s_is_below) := ⟨rfl, rfl, rfl, by decide +kernel, rfl, by decide +kernel, by decide +kernel⟩
abbrev s_extend_ways : Stmt := top 53
abbrev n_extend_ways : List Str := ["system", "ways", "ends", "found", "name", "x", "link", "end"]
abbrev p_extend_ways : List Str := ["system", "ways", "ends"]
theorem sc_extend_ways : FnScope n_extend_ways p_extend_ways (defScope s_extend_ways) := ⟨rfl, rfl, rfl, by decide +kernel, rfl, by decide +kernel, by decide +kernel⟩
abbrev s_reach : Stmt := top 54
abbrev n_reach : List Str := ["system", "source", "x", "target", "y", "first", "last", "goal", "ends", "ways"]
abbrev p_reach : List Str := ["system", "source", "x", "target", "y"]
theorem sc_reach : FnScope n_reach p_reach (defScope s_reach) := ⟨rfl, rfl, rfl, by decide +kernel, rfl, by decide +kernel, by decide +kernel⟩
abbrev s_are_words : Stmt := top 56
abbrev n_are_words : List Str := ["value", "top", "word"]
abbrev p_are_words : List Str := ["value", "top"]
theorem sc_are_words : FnScope n_are_words p_are_words (defScope s_are_words) := ⟨rfl, rfl, rfl, by decide +kernel, rfl, by decide +kernel, by decide +kernel⟩
abbrev s_are_scales : Stmt := top 57
abbrev n_are_scales : List Str := ["value", "scale"]
abbrev p_are_scales : List Str := ["value"]
theorem sc_are_scales : FnScope n_are_scales p_are_scales (defScope s_are_scales) := ⟨rfl, rfl, rfl, by decide +kernel, rfl, by decide +kernel, by decide +kernel⟩
abbrev s_joins : Stmt := top 58
abbrev n_joins : List Str := ["link", "tops"]
abbrev p_joins : List Str := ["link", "tops"]
theorem sc_joins : FnScope n_joins p_joins (defScope s_joins) := ⟨rfl, rfl, rfl, by decide +kernel, rfl, by decide +kernel, by decide +kernel⟩
abbrev s_are_links : Stmt := top 59
abbrev n_are_links : List Str := ["value", "scales", "tops", "scale", "link"]
abbrev p_are_links : List Str := ["value", "scales"]
theorem sc_are_links : FnScope n_are_links p_are_links (defScope s_are_links) := ⟨rfl, rfl, rfl, by decide +kernel, rfl, by decide +kernel, by decide +kernel⟩
abbrev s_named : Stmt := top 60
abbrev n_named : List Str := ["things", "name", "thing"]
abbrev p_named : List Str := ["things", "name"]
theorem sc_named : FnScope n_named p_named (defScope s_named) := ⟨rfl, rfl, rfl, by decide +kernel, rfl, by decide +kernel, by decide +kernel⟩
abbrev s__law_deal : Stmt := top 75
abbrev n__law_deal : List Str := ["_law_script", "_law_cell", "_law_cells", "_law_mixed_here"]
abbrev p__law_deal : List Str := ["_law_script"]
theorem sc__law_deal : FnScope n__law_deal p__law_deal (defScope s__law_deal) := ⟨rfl, rfl, rfl, by decide +kernel, rfl, by decide +kernel, by decide +kernel⟩
abbrev s__law_draw : Stmt := top 76
abbrev n__law_draw : List Str := ["_law_deal_here", "_law_many", "_law_left"]
abbrev p__law_draw : List Str := ["_law_deal_here", "_law_many"]
theorem sc__law_draw : FnScope n__law_draw p__law_draw (defScope s__law_draw) := ⟨rfl, rfl, rfl, by decide +kernel, rfl, by decide +kernel, by decide +kernel⟩
abbrev s__law_pick : Stmt := top 77
abbrev n__law_pick : List Str := ["_law_deal_here", "_law_some"]
abbrev p__law_pick : List Str := ["_law_deal_here", "_law_some"]
theorem sc__law_pick : FnScope n__law_pick p__law_pick (defScope s__law_pick) := ⟨rfl, rfl, rfl, by decide +kernel, rfl, by decide +kernel, by decide +kernel⟩
abbrev s__law_mixed : Stmt := top 78
abbrev n__law_mixed : List Str := ["_law_deal_here", "_law_some", "_law_left", "_law_found"]
abbrev p__law_mixed : List Str := ["_law_deal_here", "_law_some"]
theorem sc__law_mixed : FnScope n__law_mixed p__law_mixed (defScope s__law_mixed) := ⟨rfl, rfl, rfl, by decide +kernel, rfl, by decide +kernel, by decide +kernel⟩
abbrev s__law_names : Stmt := top 79
abbrev n__law_names : List Str := ["_law_deal_here", "_law_many", "_law_some"]
abbrev p__law_names : List Str := ["_law_deal_here", "_law_many"]
theorem sc__law_names : FnScope n__law_names p__law_names (defScope s__law_names) := ⟨rfl, rfl, rfl, by decide +kernel, rfl, by decide +kernel, by decide +kernel⟩
abbrev s__law_map : Stmt := top 80
abbrev n__law_map : List Str := ["_law_deal_here", "_law_top", "_law_limit", "_law_by", "_law_x", "_law_form", "_law_found", "_law_here", "_law_one"]
abbrev p__law_map : List Str := ["_law_deal_here", "_law_top", "_law_limit"]
theorem sc__law_map : FnScope n__law_map p__law_map (defScope s__law_map) := ⟨rfl, rfl, rfl, by decide +kernel, rfl, by decide +kernel, by decide +kernel⟩
abbrev s__law_system : Stmt := top 81
abbrev n__law_system : List Str := ["_law_deal_here", "_law_most", "_law_many", "_law_great", "_law_word", "_law_names_here", "_law_heads", "_law_tops", "_law_ties", "_law_first", "_law_last"]
abbrev p__law_system : List Str := ["_law_deal_here", "_law_most", "_law_many", "_law_great"]
theorem sc__law_system : FnScope n__law_system p__law_system (defScope s__law_system) := ⟨rfl, rfl, rfl, by decide +kernel, rfl, by decide +kernel, by decide +kernel⟩
abbrev s__law_passage_of : Stmt := top 82
abbrev n__law_passage_of : List Str := ["_law_values", "_law_limit"]
abbrev p__law_passage_of : List Str := ["_law_values", "_law_limit"]
theorem sc__law_passage_of : FnScope n__law_passage_of p__law_passage_of (defScope s__law_passage_of) := ⟨rfl, rfl, rfl, by decide +kernel, rfl, by decide +kernel, by decide +kernel⟩
abbrev s__law_system_of : Stmt := top 83
abbrev n__law_system_of : List Str := ["_law_system_one", "_law_tops", "_law_made", "_law_heads", "_law_ties", "_law_word", "_law_first", "_law_last", "_law_told", "_law_top"]
abbrev p__law_system_of : List Str := ["_law_system_one"]
theorem sc__law_system_of : FnScope n__law_system_of p__law_system_of (defScope s__law_system_of) := ⟨rfl, rfl, rfl, by decide +kernel, rfl, by decide +kernel, by decide +kernel⟩
abbrev s__law_distances : Stmt := top 84
abbrev n__law_distances : List Str := ["_law_system_one", "_law_begin", "_law_found", "_law_states", "_law_at", "_law_here", "_law_word", "_law_first", "_law_last", "_law_told"]
abbrev p__law_distances : List Str := ["_law_system_one", "_law_begin"]
theorem sc__law_distances : FnScope n__law_distances p__law_distances (defScope s__law_distances) := ⟨rfl, rfl, rfl, by decide +kernel, rfl, by decide +kernel, by decide +kernel⟩
abbrev s__law_end : Stmt := top 85
abbrev n__law_end : List Str := ["_law_told", "_law_names_here", "_law_here", "_law_x", "_law_ties", "_law_word", "_law_first", "_law_last", "_law_values", "_law_one"]
abbrev p__law_end : List Str := ["_law_told", "_law_names_here", "_law_here", "_law_x"]
theorem sc__law_end : FnScope n__law_end p__law_end (defScope s__law_end) := ⟨rfl, rfl, rfl, by decide +kernel, rfl, by decide +kernel, by decide +kernel⟩
abbrev s__law_far_right : Stmt := top 86
abbrev n__law_far_right : List Str := ["_law_deal_here", "_law_told", "_law_made", "_law_again", "_law_x", "_law_y", "_law_known", "_law_found", "_law_first", "_law_top", "_law_last", "_law_limit"]
abbrev p__law_far_right : List Str := ["_law_deal_here"]
theorem sc__law_far_right : FnScope n__law_far_right p__law_far_right (defScope s__law_far_right) := ⟨rfl, rfl, rfl, by decide +kernel, rfl, by decide +kernel, by decide +kernel⟩
abbrev s_law : Stmt := top 87
abbrev n_law : List Str := ["_law_script", "_law_deal_here", "_law_turn", "_law_told", "_law_made", "_law_x", "_law_first", "_law_top", "_law_known", "_law_y", "_law_last", "_law_limit", "_law_found"]
abbrev p_law : List Str := ["_law_script"]
theorem sc_law : FnScope n_law p_law (defScope s_law) := ⟨rfl, rfl, rfl, by decide +kernel, rfl, by decide +kernel, by decide +kernel⟩
abbrev s_IP : Stmt := inClass (top 11) 0
abbrev n_IP : List Str := ["self", "word"]
abbrev p_IP : List Str := ["self", "word"]
theorem sc_IP : FnScope n_IP p_IP (defScope s_IP) := ⟨rfl, rfl, rfl, by decide +kernel, rfl, by decide +kernel, by decide +kernel⟩
abbrev s_init : Stmt := inClass (top 51) 0
abbrev n_init : List Str := ["self", "top", "target", "pieces", "rows"]
abbrev p_init : List Str := ["self", "top", "target", "pieces"]
theorem sc_init : FnScope n_init p_init (defScope s_init) := ⟨rfl, rfl, rfl, by decide +kernel, rfl, by decide +kernel, by decide +kernel⟩
abbrev s_table : Stmt := inClass (top 51) 1
abbrev n_table : List Str := ["cls", "values", "target", "x", "value"]
abbrev p_table : List Str := ["cls", "values", "target"]
theorem sc_table : FnScope n_table p_table (defScope s_table) := ⟨rfl, rfl, rfl, by decide +kernel, rfl, by decide +kernel, by decide +kernel⟩
abbrev s_same : Stmt := inClass (top 51) 2
abbrev n_same : List Str := ["cls", "top"]
abbrev p_same : List Str := ["cls", "top"]
theorem sc_same : FnScope n_same p_same (defScope s_same) := ⟨rfl, rfl, rfl, by decide +kernel, rfl, by decide +kernel, by decide +kernel⟩
abbrev s_call : Stmt := inClass (top 51) 5
abbrev n_call : List Str := ["self", "x"]
abbrev p_call : List Str := ["self", "x"]
theorem sc_call : FnScope n_call p_call (defScope s_call) := ⟨rfl, rfl, rfl, by decide +kernel, rfl, by decide +kernel, by decide +kernel⟩
abbrev s_op_rshift : Stmt := inClass (top 51) 8
abbrev n_op_rshift : List Str := ["self", "other"]
abbrev p_op_rshift : List Str := ["self", "other"]
theorem sc_op_rshift : FnScope n_op_rshift p_op_rshift (defScope s_op_rshift) := ⟨rfl, rfl, rfl, by decide +kernel, rfl, by decide +kernel, by decide +kernel⟩
abbrev s_op_or : Stmt := inClass (top 51) 9
abbrev n_op_or : List Str := ["self", "other"]
abbrev p_op_or : List Str := ["self", "other"]
theorem sc_op_or : FnScope n_op_or p_op_or (defScope s_op_or) := ⟨rfl, rfl, rfl, by decide +kernel, rfl, by decide +kernel, by decide +kernel⟩
abbrev s_op_and : Stmt := inClass (top 51) 10
abbrev n_op_and : List Str := ["self", "other"]
abbrev p_op_and : List Str := ["self", "other"]
theorem sc_op_and : FnScope n_op_and p_op_and (defScope s_op_and) := ⟨rfl, rfl, rfl, by decide +kernel, rfl, by decide +kernel, by decide +kernel⟩
abbrev s_op_eq : Stmt := inClass (top 51) 11
abbrev n_op_eq : List Str := ["self", "other"]
abbrev p_op_eq : List Str := ["self", "other"]
theorem sc_op_eq : FnScope n_op_eq p_op_eq (defScope s_op_eq) := ⟨rfl, rfl, rfl, by decide +kernel, rfl, by decide +kernel, by decide +kernel⟩
abbrev s_op_le : Stmt := inClass (top 51) 12
abbrev n_op_le : List Str := ["self", "other"]
abbrev p_op_le : List Str := ["self", "other"]
theorem sc_op_le : FnScope n_op_le p_op_le (defScope s_op_le) := ⟨rfl, rfl, rfl, by decide +kernel, rfl, by decide +kernel, by decide +kernel⟩
abbrev s_op_lt : Stmt := inClass (top 51) 14
abbrev n_op_lt : List Str := ["self", "other"]
abbrev p_op_lt : List Str := ["self", "other"]
theorem sc_op_lt : FnScope n_op_lt p_op_lt (defScope s_op_lt) := ⟨rfl, rfl, rfl, by decide +kernel, rfl, by decide +kernel, by decide +kernel⟩
abbrev s_scinit : Stmt := inClass (top 71) 0
abbrev n_scinit : List Str := ["self", "name", "top", "words"]
abbrev p_scinit : List Str := ["self", "name", "top", "words"]
theorem sc_scinit : FnScope n_scinit p_scinit (defScope s_scinit) := ⟨rfl, rfl, rfl, by decide +kernel, rfl, by decide +kernel, by decide +kernel⟩
abbrev s_lkinit : Stmt := inClass (top 72) 0
abbrev n_lkinit : List Str := ["self", "name", "source", "target", "passage"]
abbrev p_lkinit : List Str := ["self", "name", "source", "target", "passage"]
theorem sc_lkinit : FnScope n_lkinit p_lkinit (defScope s_lkinit) := ⟨rfl, rfl, rfl, by decide +kernel, rfl, by decide +kernel, by decide +kernel⟩
abbrev s_syinit : Stmt := inClass (top 73) 0
abbrev n_syinit : List Str := ["self", "scales", "links"]
abbrev p_syinit : List Str := ["self", "scales", "links"]
theorem sc_syinit : FnScope n_syinit p_syinit (defScope s_syinit) := ⟨rfl, rfl, rfl, by decide +kernel, rfl, by decide +kernel, by decide +kernel⟩
abbrev s_syscale : Stmt := inClass (top 73) 2
abbrev n_syscale : List Str := ["self", "name", "found"]
abbrev p_syscale : List Str := ["self", "name"]
theorem sc_syscale : FnScope n_syscale p_syscale (defScope s_syscale) := ⟨rfl, rfl, rfl, by decide +kernel, rfl, by decide +kernel, by decide +kernel⟩
abbrev s_sceq : Stmt := inClass (top 71) 1
abbrev n_sceq : List Str := ["self", "other"]
abbrev p_sceq : List Str := ["self", "other"]
theorem sc_sceq : FnScope n_sceq p_sceq (defScope s_sceq) := ⟨rfl, rfl, rfl, by decide +kernel, rfl, by decide +kernel, by decide +kernel⟩
abbrev s_lkeq : Stmt := inClass (top 72) 1
abbrev n_lkeq : List Str := ["self", "other"]
abbrev p_lkeq : List Str := ["self", "other"]
theorem sc_lkeq : FnScope n_lkeq p_lkeq (defScope s_lkeq) := ⟨rfl, rfl, rfl, by decide +kernel, rfl, by decide +kernel, by decide +kernel⟩
abbrev s_syeq : Stmt := inClass (top 73) 7
abbrev n_syeq : List Str := ["self", "other"]
abbrev p_syeq : List Str := ["self", "other"]
theorem sc_syeq : FnScope n_syeq p_syeq (defScope s_syeq) := ⟨rfl, rfl, rfl, by decide +kernel, rfl, by decide +kernel, by decide +kernel⟩
end Kf
namespace PySem
namespace LowX_ip
open PySem.W PySem.Calls PyProof.Rows PySem.HandSPX
structure LowTxt (K : Frag) (mg : Str → Option Value) (C fI : Addr) : Prop where
  gC : mg "InvalidPassage" = some (.ref C)
  cls : ∃ nm q N bs bm sn sub ab col dd k0 k1 k2 k3 k5, K.lookup C = some (excClassObj nm q C N bs bm true sn sub ab col dd k0 k1 k2 k3 k5 "ValueError.__new__") ∧ refsVE bm = true
  sa : findIn K (.ref C) "__setattr__" = some (some (.builtin "object.__setattr__"))
  ga : findIn K (.ref C) "__getattribute__" = some (some (.builtin "BaseException.__getattribute__"))
  gg : findIn K (.ref C) "__getattr__" = some none
  noN : findIn K (.ref C) "word" = some none
  iC : findIn K (.ref C) "__init__" = some (some (.ref fI))
  tC : typeIn K (.ref fI) = some (.type "function")
  kC : keepIn K (.ref C) = true
  exC : subIn K (.ref C) (.type "BaseException") = some true
  tyC : typeIn K (.ref C) = some (.type "type")
  hdC : hasDictIn K C = true
  te : exmOne K (.ref C) (.ref C) = some true
  fn : ∃ (oc : Value) (od : Option Addr) (doc pm : Value) (an : Option Addr) (cdv ct : Value) (osl : Array (Option Value)),
    K.lookup fI = some ⟨oc, od, .func (fnOf "__init__" "InvalidPassage.__init__" (L2.defArgs Kf.s_IP) (L2.defBody Kf.s_IP) (L2.defScope Kf.s_IP) .none .none doc pm an cdv ct), osl⟩ ∧ codeIn K cdv "InvalidPassage.__init__" = true
theorem one_size (v : Value) : [v].length ≤ sizeLine := by
  rw [sizeLine_eq]
  exact (by decide : 1 ≤ 16777216)
theorem kept_but {K : Frag} {h h' : Heap} {x : Addr} (X : K.In h) (hx : K.lookup x = none) (k : ∀ b o, b ≠ x → h.get? b = some o → h'.get? b = some o) : K.In h' := fun a o e =>
  k a o (fun z => by rw [z, hx] at e; cases e) (X a o e)
theorem ldC {M : Model} {s : Shared} {name : Str} {scope : Scope} {L a : Addr} {cd : Value} {m : Str → Option Value} {x : Str} {pos : Pos} {v : Value} {Q : Value → Shared → Prop} {A : Around} {E : Value → Shared → Prop} (hn : s.heap.Ns L m) (hv : m x = some v) (h : Q v s)
    (hk : scope.kind = .function := by rfl) (hl : (envOfC name scope L a cd).kindOf x = some .local := by rfl) (hd : (x == ("__debug__" : Str)) = false := by decide) :
    wpAny M A (eval (.Name x pos) (envOfC name scope L a cd)) Q E s := wpAny_Name (wpAny_loadName_local hk hl hn hv h) hd
structure InitEnd (h h' : Heap) (x C dx t1 : Addr) (v : Value) : Prop where
  keep : ∀ b o, b ≠ x → h.get? b = some o → h'.get? b = some o
  obj : h'.get? x = some { cls := .ref C, dict := some dx, data := .fields #[.ref t1, .none, .none, .none, .bool false, .none] }
  dbig : h.objs.size ≤ dx
  dne : dx ≠ x
  ns : h'.Ns1 dx (fun y => if y = "word" then some v else none)
structure OwnMade (h h' : Heap) (e C d : Addr) (v : Value) : Prop where
  keep : ∀ b o, h.get? b = some o → h'.get? b = some o
  new : h.objs.size ≤ e
  obj : ∃ oe vs, h'.get? e = some oe ∧ oe.cls = .ref C ∧ oe.dict = some d ∧ oe.data = .fields vs ∧ vs[1]? = some .none
  dbig : h.objs.size ≤ d
  dne : d ≠ e
  ns : h'.Ns1 d (fun y => if y = "word" then some v else none)
section
variable {prog : Program} {w : World} {A : Around} {E : Value → Shared → Prop} {R : Result → Shared → Prop} {s : Shared} {K : Frag} {mg : Str → Option Value} {C fI : Addr}
theorem low_init (T : LowTxt K mg C fI) {x t0 : Addr} {v : Value} (X : K.In s.heap) (hlim : s.heap.NoLimit) (hx : s.heap.get? x = some (excO C t0)) (hnx : K.lookup x = none) (hroom : A.depth < recursionLimit)
    (hq : ∀ h' tk dx, InitEnd s.heap h' x C dx t0 v → R (.ok (.ret .none)) { s with heap := h', toks := tk }) :
    codeAny (model prog w) A (.call (.ref fI) ⟨[.ref x, v], []⟩) R s := by
  obtain ⟨oc, od, doc, pm, an, cdv, ct, osl, ho, hcd⟩ := T.fn
  obtain ⟨nm, q, N, bs, bm, sn, sub, ab, col, dd, k0, k1, k2, k3, k5, hC, hbm⟩ := T.cls
  have hcl : clsIn K C = some { name := nm, bases := bs, mro := .ref C :: bm, ns := N, qualname := q, hasDict := true, slotNames := sn, subclasses := sub, abstract := ab, collection := col, hasDel := false } := by unfold clsIn; rw [hC] <;> rfl
  refine Att.call_fn (binds := [("self", .ref x), ("word", v)]) X hlim ho hcd hroom (BindsTo.of_eq (by first | rfl | with_unfolding_all rfl)) (by first | rfl | decide | with_unfolding_all rfl) (fun s₁ IC => ?_) rfl rfl rfl
  obtain ⟨h₁, tk₁, rfl⟩ := IC.toInCall.same
  have k : ∀ b o, s.heap.get? b = some o → h₁.get? b = some o := IC.toInCall.keep
  have hn := IC.toInCall.ns
  have hxL : s.heap.objs.size ≠ x := Nat.ne_of_gt (Heap.lt_size hx)
  have X₁ : K.In h₁ := X.keeps k
  have hx₁ := k _ _ hx
  show wpAny _ _ (execs _ _) _ _ _
  refine wpAny_execs_cons (plainObj_wpAny_Assign_Attribute ?_)
  refine ldC (v := v) hn (by first | rfl | with_unfolding_all rfl | kernel_rfl) (ldC (v := .ref x) hn (by first | rfl | with_unfolding_all rfl | kernel_rfl) ?_)
  refine set_plain X₁ (ox := excO C t0) (od := none) ⟨hx₁, rfl, rfl, trivial⟩ T.sa ?_
  refine exc_osa X₁ hx₁ hcl (show refsVE (.ref C :: bm) = true from hbm) rfl T.noN (fun h₃ tk₃ dx k₃ dn dne hx₃ hn₃ => ?_)
  show wpAny _ _ (execs _ _) _ _ _
  have z : s.heap.objs.size < h₁.objs.size := hn.lt
  exact wpAny_execs_nil (hq h₃ tk₃ dx ⟨fun b o hb e => k₃ b o hb (k b o e), hx₃, Nat.le_of_lt (Nat.lt_of_lt_of_le z dn), dne, hn₃⟩)
theorem low_made (T : LowTxt K mg C fI) {v : Value} (X : K.In s.heap) (hlim : s.heap.NoLimit) (hroom : A.depth + 1 < recursionLimit)
    (hq : ∀ h' tk e d, OwnMade s.heap h' e C d v → R (.ok (.ret (.ref e))) { s with heap := h', toks := tk }) :
    codeAny (model prog w) A (.call (.ref C) ⟨[v], []⟩) R s := by
  obtain ⟨nm, q, N, bs, bm, sn, sub, ab, col, dd, k0, k1, k2, k3, k5, hC, hbm⟩ := T.cls
  obtain ⟨hp, g, dr, tk, os⟩ := s
  have k : ∀ b o, hp.get? b = some o → ((hp.push (kdv_tup [v])).push (excO C hp.objs.size)).get? b = some o := fun b o e => Heap.get?_push_of_some _ (Heap.get?_push_of_some _ e)
  have hget : ((hp.push (kdv_tup [v])).push (excO C hp.objs.size)).get? (hp.objs.size + 1) = some (excO C hp.objs.size) := by heap_get
  have hnx : K.lookup (hp.objs.size + 1) = none := by
    cases e : K.lookup (hp.objs.size + 1) with
    | none => rfl
    | some o =>
      have z : hp.get? (hp.objs.size + 1) = some o := X _ _ e
      exact absurd (Nat.lt_of_succ_lt (Heap.lt_size z)) (Nat.lt_irrefl _)
  refine call_own F.excBase_ValueError (fun X => refsVE_contains X bm hbm) (X _ _ hC) (looks_findIn X T.iC) (fun self => bind_fn X self T.tC) (one_size v) ?_
  refine low_init (s := ⟨(hp.push (kdv_tup [v])).push (excO C hp.objs.size), g, dr, tk, os⟩) T (X.keeps k) (hlim.keeps k) hget hnx ?_ fun h' tk' dx ⟨k', hx, dn, dne, hns⟩ => ?_
  · show A.depth + 1 < recursionLimit
    exact hroom
  · have old : ∀ b o, hp.get? b = some o → h'.get? b = some o := fun b o e => k' b o (Nat.ne_of_lt (Nat.lt_succ_of_lt (Heap.lt_size e))) (k b o e)
    have z : hp.objs.size + 1 + 1 ≤ dx := by
      first
        | (simpa only [Heap.size_push] using dn)
        | exact dn
        | (have q := dn; rw [Heap.size_push, Heap.size_push] at q; exact q)
    exact ⟨rfl, hq h' tk' (hp.objs.size + 1) dx ⟨old, Nat.le_succ _, ⟨_, _, hx, rfl, rfl, rfl, rfl⟩, Nat.le_trans (Nat.le_trans (Nat.le_succ _) (Nat.le_succ _)) z, dne, hns⟩⟩
end
end LowX_ip
end PySem
namespace L2
open PySem PySem.Spec PyProof.Rows
theorem relO_low_ip {v : V} {v' : Value} (r : RelV v v') (f : Str) : RelO (List.lookup f [(("word" : Str), v)]) (if f = "word" then some v' else none) := by
  by_cases hw : f = "word"
  · subst hw
    rw [if_pos rfl]
    have q : List.lookup ("word" : Str) [(("word" : Str), v)] = some v := by simp [List.lookup]
    rw [q]
    exact r
  · rw [if_neg hw]
    have qw : (f == ("word" : Str)) = false := by simpa using hw
    have q2 : List.lookup f [(("word" : Str), v)] = none := by simp [List.lookup, qw]
    rw [q2]
    trivial
section
variable {X : Cx} {C fI : Addr}
def tMkLow_ip (C : Addr) (ta : TA) : St → Hp → XK → Prop := fun σ H Q => ta σ H fun vs H1 => ∃ v, vs = [v] ∧ ∀ d, H1 d = none → Q (.ref C) (some d) (upd H1 d (.xd [(("word" : Str), v)]))
theorem pmk_low_ip {a : Expr} {ta : TA} {p pos : Pos} {k : Nat} (T : PySem.LowX_ip.LowTxt X.K X.mg C fI) (hr : Room k X.A) (ha : PA X [a] ta) (hg : Gl X "InvalidPassage" := by rfl)
    (he : starEach (a :: []) X.env = (false, eval a X.env) :: starEach [] X.env := by rfl) (hpl : (backTo pos (starEach [] X.env)).any (·.1) = false := by rfl) :
    PMk X (.Call (.Name "InvalidPassage" p) [a] [] pos) (tMkLow_ip C ta) := by
  intro pins s σ H Q I h
  refine wpAny_Call_Name_kw (ld_glob I hg T.gC ?_)
  refine PySem.W.callWith_K (h₀ := X.base) I.ok.mod.kin T.kC (thn (ha.run pos pins s σ H _ I h) fun us s1 hh => ?_) he hpl
  obtain ⟨vs, H1, I1, r1, v, ev, q1⟩ := hh
  subst ev
  refine ⟨I1.kIn, ?_⟩
  cases r1 with
  | cons rv rn =>
    rename_i v' us'
    cases rn
    show wpAny _ _ (call (.ref C) [v']) _ _ _
    have hlim := I1.nolimit
    obtain ⟨hp, g, dr, tk, os⟩ := s1
    refine wpAny_call (PySem.LowX_ip.low_made T I1.kIn hlim (by have := hr.dp; omega) fun h' tk' e d M => ?_)
    show MkP X pins σ Q (.ref e) ⟨h', g, dr, tk', os⟩
    obtain ⟨oe, fv, hoe, hc, hd, hdat, h1⟩ := M.obj
    have hns := M.ns
    obtain ⟨G', g1, g2⟩ := restrict h' fun b => decide (b ≠ e)
    have gk : ∀ b, b ≠ e → G'.get? b = h'.get? b := fun b hb => g1 b (decide_eq_true hb)
    have ge : G'.get? e = none := g2 e (by simp)
    have old : ∀ b o, hp.get? b = some o → G'.get? b = some o := fun b o q => (gk b (Nat.ne_of_lt (Nat.lt_of_lt_of_le (Heap.lt_size q) M.new))).trans (M.keep b o q)
    have ob : ObjOk X.prog X.w (upd H1 d (.xd [(("word" : Str), v)])) G' d (.xd [(("word" : Str), v)]) :=
      ⟨_, hns.at (fun o q => (gk d M.dne).trans q), fun f => relO_low_ip rv f⟩
    have J : Inv X pins σ (upd H1 d (.xd [(("word" : Str), v)])) ⟨G', g, dr, tk', os⟩ := I1.laid (t' := tk') old M.dbig ob
    refine ⟨e, oe, fv, ⟨G', g, dr, tk', os⟩, _, .ref C, some d, rfl, J, fun b o q => ?_, ge, hoe, ⟨hc, hd⟩, hdat, h1, ?_, rfl, I1.bare, raises_own T.exC T.tyC, q1 d (I1.hok.fresh M.dbig)⟩
    · by_cases hb : b = e
      · have q' : G'.get? b = some o := q
        rw [hb, ge] at q'; cases q'
      · exact (gk b hb).symm.trans q
    · rw [upd_ne (Ne.symm M.dne)]
      exact I1.hok.fresh M.new
def tRaiseLow_ip (C : Addr) (W : WX) (ta : TA) : TS := fun _ σ H => tMkLow_ip C ta σ H fun cls d H' => W cls d σ H'
theorem ps_raiseLow_ip {a : Expr} {ta : TA} {W : WX} {p pos pos2 : Pos} {k : Nat} (hc : X.calm = true) (T : PySem.LowX_ip.LowTxt X.K X.mg C fI) (hr : Room k X.A) (tk : Takes X W) (ha : PA X [a] ta) (hg : Gl X "InvalidPassage" := by rfl)
    (he : starEach (a :: []) X.env = (false, eval a X.env) :: starEach [] X.env := by rfl) (hpl : (backTo pos (starEach [] X.env)).any (·.1) = false := by rfl) :
    PS X (.Raise (some (.Call (.Name "InvalidPassage" p) [a] [] pos)) none pos2) (tRaiseLow_ip C W ta) := ps_raise hc tk (pmk_low_ip T hr ha hg he hpl)
def tByLow_ip (C : Addr) (a : Addr) (cls : Value) (d : Option Addr) (te : TE) : TE := fun σ H Q => te σ H fun x H1 => x = .ref a ∧ cls = .ref C ∧ ∃ (dd : Addr) (v : V), d = some dd ∧ H1 dd = some (.xd [(("word" : Str), v)]) ∧ Q v H1
theorem pe_byLow_ip {a : Addr} {oe : Obj} {cls : Value} {d : Option Addr} {pn : List (Addr × Obj)} {e : Expr} {te : TE} {pos : Pos} (T : PySem.LowX_ip.LowTxt X.K X.mg C fI) (hz : Zc cls d oe) (hf : ∃ vs, oe.data = .fields vs) (he : PE (X.suite a ((a, oe) :: pn)) e te)
    (hb : attributeBase e "word" X.env (eval e X.env) = eval e X.env := by rfl) :
    PE (X.suite a ((a, oe) :: pn)) (.Attribute e "word" pos) (tByLow_ip C a cls d te) := by
  refine ⟨fun pins s σ H Q I h => ?_⟩
  refine attr_of hb (thn (he.run pins s σ H _ I h) fun u s1 hh => ?_)
  obtain ⟨x, H1, I1, rx, ex, ec, dd, v, ed, ea, q⟩ := hh
  subst ex
  obtain rfl : u = Value.ref a := rx
  subst ec
  subst ed
  obtain ⟨ha, _⟩ := I1.pin (a, oe) (List.mem_append_left _ List.mem_cons_self)
  obtain ⟨vs, hd⟩ := hf
  have hx : ObjOk X.prog X.w H1 s1.heap dd (.xd [(("word" : Str), v)]) := I1.hok dd _ ea
  obtain ⟨mA, hns, hr⟩ := hx
  obtain ⟨od, ho, hl⟩ := lookIn_ns hns
  have l : List.lookup ("word" : Str) [(("word" : Str), v)] = some v := by simp [List.lookup]
  obtain ⟨u, hu, ru⟩ := RelO.some_of (v := v) (o := mA "word") (by rw [← l]; exact hr "word")
  have J : PySem.W.InstAt s1.heap a oe C (some od) := ⟨ha, hz.1, by unfold PySem.W.notCls; rw [hd] <;> rfl, by rw [hz.2]; exact ho⟩
  exact HandSPX.exc_get I1.kIn J T.ga T.gg T.exC (PySem.W.findObj_own T.hdC T.noN rfl (by rw [hl, hu])) (handed_of ru) ⟨v, H1, I1.tok _, ru, q⟩
end
end L2
namespace Kf
open PySem PySem.Spec L2 StX ClX Dn
open PyProof.Rows hiding St
structure Bl (mg : Str → Option Value) : Prop where
  isinstance : mg "isinstance" = none
  int : mg "int" = none
  bool : mg "bool" = none
  str : mg "str" = none
  list : mg "list" = none
  tuple : mg "tuple" = none
  len : mg "len" = none
  all : mg "all" = none
  range : mg "range" = none
  enumerate : mg "enumerate" = none
  min : mg "min" = none
  max : mg "max" = none
  abs : mg "abs" = none
def isNum : D → Bool
  | .int i => decide (0 ≤ i)
  | _ => false
def isVal (d : D) (t : Int) : Bool := match d with
  | .int i => decide (0 ≤ i) && decide (i ≤ t)
  | _ => false
def isSeq : D → Bool
  | .lst _ => true
  | .tup _ => true
  | _ => false
variable {P : Program} {w : World} {K : PySem.W.Frag} {mg : Str → Option Value} {base : Heap}
abbrev Pc := Int × Int × Bool
abbrev Row := Int × Int × Int × Bool
abbrev pcD (p : Pc) : D := .tup [.int p.1, .int p.2.1, .bl p.2.2]
abbrev rowD (r : Row) : D := .tup [.int r.1, .int r.2.1, .int r.2.2.1, .bl r.2.2.2]
def onRow (r : Row) (x : Int) : Int := if r.2.2.2 = true then r.2.2.1 + (x - r.1) else r.2.2.1
def lastRow (r : Row) : Int := onRow r r.2.1
def F_value_on : FT := fun args st Ret _ => ∃ r x, args = [.dat (rowD r), .dat (.int x)] ∧ Ret (.dat (.int (onRow r x))) st
theorem ok_value_on {f : Addr} {fd : FuncData} (Fn : Fun K "value_on" "value_on" s_value_on f fd) (b : Binds K fd p_value_on []) : FnG P w K mg base (L2.CX P w) 1 f (spD K F_value_on) := by
  refine fnD Fn sc_value_on b (fun args st0 Ret Exc h => ?_) ?_
  · obtain ⟨r, x, rfl, _⟩ := h
    rfl
  intro cdv A outer s H E H0 Al args st0 Ret Exc hr xk hp hal hcl hF
  obtain ⟨⟨lo, hi, v, ri⟩, x, rfl, q⟩ := hF
  have q2 : KrE st0 Ret (.dat (.int (onRow (lo, hi, v, ri) x))) st0 := krE_of hcl q
  refine sw_cons ?_
  refine sw_asg ?_
  refine ew_name 0 rfl ?_
  refine gw_tup rfl ?_
  refine gs_cons ?_
  refine gw_name 2 ?_ sc_value_on.nd
  refine gs_cons ?_
  refine gw_name 3 ?_ sc_value_on.nd
  refine gs_cons ?_
  refine gw_name 4 ?_ sc_value_on.nd
  refine gs_cons ?_
  refine gw_name 5 ?_ sc_value_on.nd
  refine gs_nil ?_
  refine sw_cons ?_
  refine sw_ret ?_
  refine ew_if ?_
  refine tw_val ?_
  refine ew_name 5 rfl ?_
  refine ⟨_, rfl, ?_⟩
  refine ifB (fun h => ?_) (fun h => ?_)
  · refine ew_bin ?_
    refine ew_name 4 rfl ?_
    refine ew_bin ?_
    refine ew_name 1 rfl ?_
    refine ew_name 2 rfl ?_
    refine o_sub ?_
    refine o_add ?_
    unfold onRow at q2
    rw [if_pos h] at q2
    exact q2
  · refine ew_name 4 rfl ?_
    unfold onRow at q2
    rw [if_neg (by rw [h]; exact Bool.false_ne_true)] at q2
    exact q2
def F_last_value : FT := fun args st Ret _ => ∃ r, args = [.dat (rowD r)] ∧ Ret (.dat (.int (lastRow r))) st
theorem ok_last_value {f : Addr} {fd : FuncData} (C_value_on : Cal P w K mg base 1 "value_on" F_value_on) (Fn : Fun K "last_value" "last_value" s_last_value f fd) (b : Binds K fd p_last_value []) : FnG P w K mg base (L2.CX P w) 2 f (spD K F_last_value) := by
  refine fnD Fn sc_last_value b (fun args st0 Ret Exc h => ?_) ?_
  · obtain ⟨r, rfl, _⟩ := h
    rfl
  intro cdv A outer s H E H0 Al args st0 Ret Exc hr xk hp hal hcl hF
  obtain ⟨r, rfl, q⟩ := hF
  have q2 : KrE st0 Ret (.dat (.int (lastRow r))) st0 := krE_of hcl q
  refine sw_cons ?_
  refine sw_ret ?_
  refine ew_call C_value_on hr (by decide) xk ?_
  refine aw_cons ?_
  refine ew_name 0 rfl ?_
  refine aw_cons ?_
  refine ew_ix ?_
  refine ew_name 0 rfl ?_
  refine ew_int ?_
  refine ⟨_, _, rfl, itm_tup (j := 1) rfl rfl, ?_⟩
  refine aw_nil ?_
  exact ⟨r, _, rfl, q2⟩
def stays (target : Int) : Int → List Row → Bool
  | last, [] => decide (last ≤ target)
  | last, r :: rs => if r.2.2.1 < last then false else stays target (lastRow r) rs
def F_stays_within : FT := fun args st Ret _ => ∃ (rs : List Row) (t : Int), args = [.dat (.lst (rs.map rowD)), .dat (.int t)] ∧ Ret (.dat (.bl (stays t 0 rs))) st
theorem ok_stays_within {f : Addr} {fd : FuncData} (C_last_value : Cal P w K mg base 2 "last_value" F_last_value) (Fn : Fun K "stays_within" "stays_within" s_stays_within f fd) (b : Binds K fd p_stays_within []) : FnG P w K mg base (L2.CX P w) 3 f (spD K F_stays_within) := by
  refine fnD Fn sc_stays_within b (fun args st0 Ret Exc h => ?_) ?_
  · obtain ⟨rs, t, rfl, _⟩ := h
    rfl
  intro cdv A outer s H E H0 Al args st0 Ret Exc hr xk hp hal hcl hF
  obtain ⟨rs, t, rfl, q⟩ := hF
  have q2 : KrE st0 Ret (.dat (.bl (stays t 0 rs))) st0 := krE_of hcl q
  refine sw_cons ?_
  refine sw_set 2 ?_ sc_stays_within.nd
  refine ew_int ?_
  refine sw_cons ?_
  refine sw_for hp rfl ?_
  refine iw_list ?_
  refine ew_name 0 rfl ?_
  refine ⟨_, rfl, ?_⟩
  refine ⟨fun i sl st => st = st0 ∧ ∃ last ow, sl = [some (.dat (.lst (rs.map rowD))), some (.dat (.int t)), some (.dat (.int last)), ow] ∧ stays t 0 rs = stays t last (rs.drop i), ?_, fun i w sl st hw hI => ?_, fun sl st hI => ?_⟩
  · exact ⟨rfl, 0, none, rfl, rfl⟩
  · obtain ⟨rfl, last, ow, rfl, e⟩ := hI
    obtain ⟨d, hd, rfl⟩ := getElem?_mapW hw
    rw [List.getElem?_map] at hd
    obtain ⟨r, hr0, rfl⟩ := Option.map_eq_some_iff.mp hd
    have hi := (List.getElem?_eq_some_iff.mp hr0)
    have ed : rs.drop i = r :: rs.drop (i + 1) := by rw [← hi.2]; exact List.drop_eq_getElem_cons hi.1
    refine gw_name 3 ?_ sc_stays_within.nd
    refine sw_cons ?_
    refine sw_if ?_
    refine tw_cmp (nomark _) ?_
    refine ew_ix ?_
    refine ew_name 3 rfl ?_
    refine ew_int ?_
    refine ⟨_, _, rfl, itm_tup (j := 2) rfl rfl, ?_⟩
    refine ew_name 2 rfl ?_
    refine o_lt ?_
    refine ⟨_, rfl, ?_⟩
    refine ifD (fun h => ?_) (fun h => ?_)
    · refine sw_cons ?_
      refine sw_ret ?_
      refine ew_bl ?_
      rw [e, ed] at q2
      unfold stays at q2
      rw [if_pos h] at q2
      exact q2
    · refine sw_nil ?_
      refine sw_cons ?_
      refine sw_set 2 ?_ sc_stays_within.nd
      refine ew_call C_last_value hr (by decide) xk ?_
      refine aw_cons ?_
      refine ew_name 3 rfl ?_
      refine aw_nil ?_
      refine ⟨r, rfl, ?_⟩
      refine sw_nil ?_
      refine ⟨rfl, lastRow r, some (.dat (rowD r)), rfl, ?_⟩
      rw [e, ed]
      conv => lhs; unfold stays
      rw [if_neg h]
  · obtain ⟨rfl, last, ow, rfl, e⟩ := hI
    refine sw_cons ?_
    refine sw_ret ?_
    refine ew_cmp (nomark _) ?_
    refine ew_name 2 rfl ?_
    refine ew_name 1 rfl ?_
    refine o_le ?_
    rw [e, List.length_map, List.length_map, List.drop_length] at q2
    exact q2
def pieceAt (ps : List Pc) (x : Int) : Nat → Nat → Nat → Nat
  | 0, first, _ => first
  | n + 1, first, last => if first < last then (if (ps.getD ((first + last + 1) / 2) (0, 0, false)).1 ≤ x then pieceAt ps x n ((first + last + 1) / 2) last else pieceAt ps x n first ((first + last + 1) / 2 - 1)) else first
def valAt (ps : List Pc) (x : Int) : Int :=
  let p := ps.getD (pieceAt ps x ps.length 0 (ps.length - 1)) (0, 0, false)
  if p.2.2 = true then p.2.1 + (x - p.1) else p.2.1
def PcsD (d : D) (ps : List Pc) : Prop := d = .lst (ps.map pcD) ∨ d = .tup (ps.map pcD)
theorem PcsD.len {d : D} {ps : List Pc} (h : PcsD d ps) (st : List Ob) : Len st (.dat d) = some ps.length := by
  rcases h with rfl | rfl <;> simp [Len]
theorem PcsD.itm {d : D} {ps : List Pc} (h : PcsD d ps) (st : List Ob) {i : Int} {j : Nat} {p : Pc} (e : i = (j : Int)) (hp : ps[j]? = some p) : Itm st (.dat d) i = some (.dat (pcD p)) := by
  have hm : (ps.map pcD)[j]? = some (pcD p) := by rw [List.getElem?_map, hp]; rfl
  rcases h with rfl | rfl
  · exact itm_lst e hm
  · exact itm_tup e hm
theorem pieceAt_lt (ps : List Pc) (x : Int) : ∀ (n first last : Nat), first ≤ last → last < ps.length → pieceAt ps x n first last < ps.length
  | 0, first, last, h, h2 => by unfold pieceAt; omega
  | n + 1, first, last, h, h2 => by
    unfold pieceAt
    split
    · split
      · exact pieceAt_lt ps x n _ _ (by omega) h2
      · exact pieceAt_lt ps x n _ _ (by omega) (by omega)
    · omega
theorem pieceAt_done (ps : List Pc) (x : Int) (n a : Nat) : pieceAt ps x n a a = a := by
  cases n with
  | zero => rfl
  | succ n => unfold pieceAt; rw [if_neg (Nat.lt_irrefl _)]
def F_value_at : FT := fun args st Ret _ => ∃ d ps x, args = [.dat d, .dat (.int x)] ∧ PcsD d ps ∧ ps ≠ [] ∧ ps.length ≤ 1000 ∧ Ret (.dat (.int (valAt ps x))) st
theorem ok_value_at {f : Addr} {fd : FuncData} (B : Bl mg) (Fn : Fun K "value_at" "value_at" s_value_at f fd) (b : Binds K fd p_value_at []) : FnG P w K mg base (L2.CX P w) 1 f (spD K F_value_at) := by
  refine fnD Fn sc_value_at b (fun args st0 Ret Exc h => ?_) ?_
  · obtain ⟨d, ps, x, rfl, _⟩ := h
    rfl
  intro cdv A outer s H E H0 Al args st0 Ret Exc hr xk hp hal hcl hF
  obtain ⟨d, ps, x, rfl, hd, hne, hlen, q⟩ := hF
  have hpos : 0 < ps.length := List.length_pos_iff.mpr hne
  have q2 : KrE st0 Ret (.dat (.int (valAt ps x))) st0 := krE_of hcl q
  refine sw_cons ?_
  refine sw_set 2 ?_ sc_value_at.nd
  refine ew_int ?_
  refine sw_cons ?_
  refine sw_set 3 ?_ sc_value_at.nd
  refine ew_bin ?_
  refine ew_blt bt_len B.len ?_
  refine aw_cons ?_
  refine ew_name 0 rfl ?_
  refine aw_nil ?_
  refine c_len (hd.len _) ?_
  refine ew_int ?_
  refine o_sub ?_
  refine sw_cons ?_
  refine sw_while hp (fun m sl st => st = st0 ∧ ∃ (fi la : Nat) (om : Option W), sl = [some (.dat d), some (.dat (.int x)), some (.dat (.int (fi : Int))), some (.dat (.int (la : Int))), om, none, none, none] ∧ fi ≤ la ∧ la < ps.length ∧ m = la - fi ∧ ∃ n, m ≤ n ∧ pieceAt ps x ps.length 0 (ps.length - 1) = pieceAt ps x n fi la) (ps.length - 1) ?_ (fun m sl st hI => ?_)
  · refine ⟨rfl, 0, ps.length - 1, none, ?_, by omega, by omega, by omega, ps.length, by omega, rfl⟩
    have : ((ps.length : Nat) : Int) - 1 = ((ps.length - 1 : Nat) : Int) := by omega
    rw [this]
    rfl
  · obtain ⟨rfl, fi, la, om, rfl, h1, h2, h3, n, hn, e⟩ := hI
    refine tw_cmp (nomark _) ?_
    refine ew_name 2 rfl ?_
    refine ew_name 3 rfl ?_
    refine o_lt ?_
    refine ⟨_, rfl, ?_⟩
    refine ifD (fun h => ?_) (fun h => ?_)
    · have hlt : fi < la := by omega
      obtain ⟨n', rfl⟩ : ∃ n', n = n' + 1 := ⟨n - 1, by omega⟩
      have hm : (fi + la + 1) / 2 < ps.length := by omega
      have em : ((fi : Int) + (la : Int) + 1).fdiv 2 = (((fi + la + 1) / 2 : Nat) : Int) := by
        rw [Int.fdiv_eq_ediv_of_nonneg _ (by decide)]
        omega
      refine sw_cons ?_
      refine sw_set 4 ?_ sc_value_at.nd
      refine ew_bin ?_
      refine ew_bin ?_
      refine ew_bin ?_
      refine ew_name 2 rfl ?_
      refine ew_name 3 rfl ?_
      refine o_add ?_
      refine ew_int ?_
      refine o_add ?_
      refine ew_int ?_
      refine o_div ⟨by decide, by decide⟩ ?_
      rw [em]
      obtain ⟨p, hp'⟩ : ∃ p, ps[(fi + la + 1) / 2]? = some p := ⟨_, List.getElem?_eq_getElem hm⟩
      have hgd : ps.getD ((fi + la + 1) / 2) (0, 0, false) = p := by rw [List.getD_eq_getElem?_getD, hp']; rfl
      rw [show pieceAt ps x (n' + 1) fi la = if fi < la then (if (ps.getD ((fi + la + 1) / 2) (0, 0, false)).1 ≤ x then pieceAt ps x n' ((fi + la + 1) / 2) la else pieceAt ps x n' fi ((fi + la + 1) / 2 - 1)) else fi from rfl, if_pos hlt, hgd] at e
      refine sw_cons ?_
      refine sw_if ?_
      refine tw_cmp (nomark _) ?_
      refine ew_ix ?_
      refine ew_ix ?_
      refine ew_name 0 rfl ?_
      refine ew_name 4 rfl ?_
      refine ⟨_, _, rfl, hd.itm _ rfl hp', ?_⟩
      refine ew_int ?_
      refine ⟨_, _, rfl, itm_tup (j := 0) rfl rfl, ?_⟩
      refine ew_name 1 rfl ?_
      refine o_le ?_
      refine ⟨_, rfl, ?_⟩
      refine ifD (fun h' => ?_) (fun h' => ?_)
      · refine sw_cons ?_
        refine sw_set 2 ?_ sc_value_at.nd
        refine ew_name 4 rfl ?_
        refine sw_nil ?_
        refine sw_nil ?_
        rw [if_pos h'] at e
        exact ⟨la - (fi + la + 1) / 2, by omega, rfl, (fi + la + 1) / 2, la, _, rfl, by omega, h2, rfl, n', by omega, e⟩
      · refine sw_cons ?_
        refine sw_set 3 ?_ sc_value_at.nd
        refine ew_bin ?_
        refine ew_name 4 rfl ?_
        refine ew_int ?_
        refine o_sub ?_
        refine sw_nil ?_
        refine sw_nil ?_
        rw [if_neg h'] at e
        have e1 : (((fi + la + 1) / 2 : Nat) : Int) - 1 = (((fi + la + 1) / 2 - 1 : Nat) : Int) := by omega
        refine ⟨(fi + la + 1) / 2 - 1 - fi, by omega, rfl, fi, (fi + la + 1) / 2 - 1, some (.dat (.int (((fi + la + 1) / 2 : Nat) : Int))), ?_, by omega, by omega, rfl, n', by omega, e⟩
        rw [e1]
        rfl
    · have efl : fi = la := by omega
      subst efl
      rw [pieceAt_done] at e
      obtain ⟨p, hp'⟩ : ∃ p, ps[fi]? = some p := ⟨_, List.getElem?_eq_getElem h2⟩
      have hv : valAt ps x = if p.2.2 = true then p.2.1 + (x - p.1) else p.2.1 := by
        unfold valAt
        rw [e, List.getD_eq_getElem?_getD, hp']
        rfl
      obtain ⟨ps1, pv, pr⟩ := p
      refine sw_cons ?_
      refine sw_asg ?_
      refine ew_ix ?_
      refine ew_name 0 rfl ?_
      refine ew_name 2 rfl ?_
      refine ⟨_, _, rfl, hd.itm _ rfl hp', ?_⟩
      refine gw_tup rfl ?_
      refine gs_cons ?_
      refine gw_name 5 ?_ sc_value_at.nd
      refine gs_cons ?_
      refine gw_name 6 ?_ sc_value_at.nd
      refine gs_cons ?_
      refine gw_name 7 ?_ sc_value_at.nd
      refine gs_nil ?_
      refine sw_cons ?_
      refine sw_ret ?_
      refine ew_if ?_
      refine tw_val ?_
      refine ew_name 7 rfl ?_
      refine ⟨_, rfl, ?_⟩
      refine ifB (fun h => ?_) (fun h => ?_)
      · refine ew_bin ?_
        refine ew_name 6 rfl ?_
        refine ew_bin ?_
        refine ew_name 1 rfl ?_
        refine ew_name 5 rfl ?_
        refine o_sub ?_
        refine o_add ?_
        rw [hv, if_pos h] at q2
        exact q2
      · refine ew_name 6 rfl ?_
        rw [hv, if_neg (by show ¬ pr = true; rw [show pr = false from h]; exact Bool.false_ne_true)] at q2
        exact q2
def joins (ps : List Pc) (last : Int) (slope : Option Bool) (v : Int) : Bool := !ps.isEmpty && (decide (0 = v - last) || decide (1 = v - last)) && (slope == none || slope == some (decide (v - last = 1)))
def bend (ps : List Pc) (b : Bool) : List Pc := match ps.getLast? with
  | some q => ps.set (ps.length - 1) (q.1, q.2.1, b)
  | none => ps
abbrev NS := List Pc × Int × Option Bool
def nlow (j : Bool) (s : NS) (r : Row) : Int := if j = true then (if decide (r.2.2.1 - s.2.1 = 1) = r.2.2.2 then r.2.1 + 1 else r.1 + 1) else r.1
def nps (j : Bool) (s : NS) (r : Row) : List Pc := if j = true then bend s.1 (decide (r.2.2.1 - s.2.1 = 1)) else s.1
def nsl (j : Bool) (s : NS) (r : Row) : Option Bool := if j = true then some (decide (r.2.2.1 - s.2.1 = 1)) else s.2.2
def nfin (ps : List Pc) (sl : Option Bool) (lo : Int) (r : Row) : NS :=
  if lo ≤ r.2.1 then (ps ++ [(lo, onRow r lo, (if lo < r.2.1 then some r.2.2.2 else none) == some true)], lastRow r, if lo < r.2.1 then some r.2.2.2 else none) else (ps, lastRow r, sl)
def nstep (s : NS) (r : Row) : NS := nfin (nps (joins s.1 s.2.1 s.2.2 r.2.2.1) s r) (nsl (joins s.1 s.2.1 s.2.2 r.2.2.1) s r) (nlow (joins s.1 s.2.1 s.2.2 r.2.2.1) s r) r
def nrun (rs : List Row) : NS := rs.foldl nstep ([], 0, none)
def normalF (rs : List Row) : List Pc := (nrun rs).1
theorem bend_length (ps : List Pc) (b : Bool) : (bend ps b).length = ps.length := by
  unfold bend
  split <;> simp
theorem nstep_length (s : NS) (r : Row) : (nstep s r).1.length ≤ s.1.length + 1 := by
  unfold nstep nfin nps
  split <;> split <;> simp [bend_length] <;> omega
theorem nrun_length : ∀ (rs : List Row) (s : NS), (rs.foldl nstep s).1.length ≤ s.1.length + rs.length
  | [], s => by simp
  | r :: rs, s => by
    have h1 := nrun_length rs (nstep s r)
    have h2 := nstep_length s r
    rw [List.foldl_cons, List.length_cons]
    omega
theorem nrun_snoc {rs : List Row} {i : Nat} {r : Row} (h : rs[i]? = some r) : nrun (rs.take (i + 1)) = nstep (nrun (rs.take i)) r := by
  unfold nrun
  rw [take_succ_of h, List.foldl_append]
  rfl
def F_normal : FT := fun args st Ret _ => ∃ (rs : List Row), args = [.dat (.lst (rs.map rowD))] ∧ rs.length ≤ 1000 ∧ Ret (.dat (.tup ((normalF rs).map pcD))) st
theorem ok_normal {f : Addr} {fd : FuncData} (B : Bl mg) (C_value_on : Cal P w K mg base 1 "value_on" F_value_on) (C_last_value : Cal P w K mg base 2 "last_value" F_last_value) (Fn : Fun K "normal" "normal" s_normal f fd) (b : Binds K fd p_normal []) : FnG P w K mg base (L2.CX P w) 3 f (spD K F_normal) := by
  refine fnD Fn sc_normal b (fun args st0 Ret Exc h => ?_) ?_
  · obtain ⟨rs, rfl, _⟩ := h
    rfl
  intro cdv A outer s H E H0 Al args st0 Ret Exc hr xk hp hal hcl hF
  obtain ⟨rs, rfl, hlen, q⟩ := hF
  refine sw_cons ?_
  refine sw_set 1 ?_ sc_normal.nd
  refine ew_lstM ?_
  refine aw_nil ?_
  refine ⟨by decide, ?_⟩
  refine sw_cons ?_
  refine sw_set 2 ?_ sc_normal.nd
  refine ew_int ?_
  refine sw_cons ?_
  refine sw_set 3 ?_ sc_normal.nd
  refine ew_non ?_
  refine sw_cons ?_
  refine sw_for hp rfl ?_
  refine iw_list ?_
  refine ew_name 0 rfl ?_
  refine ⟨_, rfl, ?_⟩
  refine ⟨fun i sl st => st = st0 ++ [.lst (((nrun (rs.take i)).1.map pcD).map W.dat)] ∧ ∃ o1 o2 o3 o4 o5 o6, sl = [some (.dat (.lst (rs.map rowD))), some (.ptr st0.length), some (.dat (.int (nrun (rs.take i)).2.1)), some (.dat (optB (nrun (rs.take i)).2.2)), o1, o2, o3, o4, o5, o6], ?_, fun i w sl st hw hI => ?_, fun sl st hI => ?_⟩
  · exact ⟨rfl, none, none, none, none, none, none, rfl⟩
  · obtain ⟨rfl, o1, o2, o3, o4, o5, o6, rfl⟩ := hI
    obtain ⟨d, hd, rfl⟩ := getElem?_mapW hw
    rw [List.getElem?_map] at hd
    obtain ⟨r, hr0, rfl⟩ := Option.map_eq_some_iff.mp hd
    have hi := (List.getElem?_eq_some_iff.mp hr0).1
    have es := nrun_snoc hr0
    have hpl : (nrun (rs.take i)).1.length ≤ 1000 := by
      have := nrun_length (rs.take i) ([], 0, none)
      rw [List.length_take] at this
      show (List.foldl nstep ([], 0, none) (rs.take i)).1.length ≤ 1000
      simp at this
      omega
    generalize hN : nrun (rs.take i) = N at es hpl ⊢
    obtain ⟨ps, last, slope⟩ := N
    obtain ⟨lo, hi', v, ri⟩ := r
    show GW _ _ _ _ _ _ _
    refine gw_name 4 ?_ sc_normal.nd
    refine sw_cons ?_
    refine sw_asg ?_
    refine ew_name 4 rfl ?_
    refine gw_tup rfl ?_
    refine gs_cons ?_
    refine gw_name 6 ?_ sc_normal.nd
    refine gs_cons ?_
    refine gw_name 7 ?_ sc_normal.nd
    refine gs_cons ?_
    refine gw_name 8 ?_ sc_normal.nd
    refine gs_cons ?_
    refine gw_name 9 ?_ sc_normal.nd
    refine gs_nil ?_
    refine sw_cons ?_
    refine sw_set 5 ?_ sc_normal.nd
    refine ew_bin ?_
    refine ew_name 8 rfl ?_
    refine ew_name 2 rfl ?_
    refine o_sub ?_
    refine sw_cut (fun sl st => st = st0 ++ [.lst (((nps (joins ps last slope v) (ps, last, slope) (lo, hi', v, ri)).map pcD).map W.dat)] ∧ ∃ o1 o2, sl = [some (.dat (.lst (rs.map rowD))), some (.ptr st0.length), some (.dat (.int last)), some (.dat (optB (nsl (joins ps last slope v) (ps, last, slope) (lo, hi', v, ri)))), some (.dat (rowD (lo, hi', v, ri))), o1, some (.dat (.int (nlow (joins ps last slope v) (ps, last, slope) (lo, hi', v, ri)))), some (.dat (.int hi')), o2, some (.dat (.bl ri))]) ?_ ?_
    · refine sw_if ?_
      refine tw_mid (joins ps last slope v) ?_ ?_
      · unfold joins
        refine tw_bool ?_
        refine bw_and ?_
        refine tw_val ?_
        refine ew_name 1 rfl ?_
        refine ⟨!ps.isEmpty, by simp [Tru], ?_⟩
        refine ifB (fun h => ?_) (fun h => ?_)
        · rw [h, Bool.true_and]
          refine bw_and ?_
          refine tw_cmp (by rfl) ?_
          refine ew_name 5 rfl ?_
          refine ew_tup ?_
          refine aw_cons ?_
          refine ew_int ?_
          refine aw_cons ?_
          refine ew_int ?_
          refine aw_nil ?_
          refine ⟨_, rfl, (by show 2 ≤ sizeLine; decide), ?_⟩
          refine o_in rfl (.inr (.inl rfl)) rfl ?_
          refine ⟨_, rfl, ?_⟩
          have e1 : inV (.int (v - last)) [.int 0, .int 1] = (decide (0 = v - last) || decide (1 = v - last)) := by
            show ((0 == v - last) || ((1 == v - last) || false)) = _
            rw [Bool.or_false]
            rfl
          rw [e1]
          refine ifB (fun h => ?_) (fun h => ?_)
          · rw [h, Bool.true_and]
            refine bw_and1 ?_
            refine tw_cmp (by rfl) ?_
            refine ew_name 3 rfl ?_
            refine ew_tup ?_
            refine aw_cons ?_
            refine ew_non ?_
            refine aw_cons ?_
            refine ew_cmp (nomark _) ?_
            refine ew_name 5 rfl ?_
            refine ew_int ?_
            refine o_eqI ?_
            refine aw_nil ?_
            refine ⟨_, rfl, (by show 2 ≤ sizeLine; decide), ?_⟩
            refine o_in (x := match slope with | none => .non | some b => .bl b) (by cases slope <;> rfl) (.inr (.inl rfl)) rfl ?_
            refine ⟨_, rfl, ?_, rfl⟩
            cases slope with
            | none => rfl
            | some b =>
              show (false || ((decide (v - last = 1) == b) || false)) = (false || (some b == some (decide (v - last = 1))))
              cases b <;> cases (decide (v - last = 1)) <;> rfl
          · rw [h, Bool.false_and]
            exact ⟨rfl, rfl⟩
        · rw [h, Bool.false_and, Bool.false_and]
          exact ⟨rfl, rfl⟩
      · cases hj : joins ps last slope v with
        | true =>
          rw [if_pos rfl]
          have hne : ps ≠ [] := by
            rintro rfl
            simp [joins] at hj
          obtain ⟨q', hq'⟩ : ∃ q', ps.getLast? = some q' := ⟨_, List.getLast?_eq_some_getLast hne⟩
          have hb : bend ps (decide (v - last = 1)) = ps.set (ps.length - 1) (q'.1, q'.2.1, decide (v - last = 1)) := by unfold bend; rw [hq']
          have hI : ∀ st, st = st0 ++ [Ob.lst ((ps.map pcD).map W.dat)] → Itm st (.ptr st0.length) (-1) = some (.dat (pcD q')) := fun st e => by
            subst e
            simp only [Itm, at_end]
            refine atI_m1 ?_
            rw [List.getLast?_map, List.getLast?_map, hq']
            rfl
          refine sw_cons ?_
          refine sw_set 3 ?_ sc_normal.nd
          refine ew_cmp (nomark _) ?_
          refine ew_name 5 rfl ?_
          refine ew_int ?_
          refine o_eqI ?_
          refine sw_cons ?_
          refine sw_asg ?_
          refine ew_tup ?_
          refine aw_cons ?_
          refine ew_ix ?_
          refine ew_ix ?_
          refine ew_name 1 rfl ?_
          refine ew_neg ?_
          refine ew_int ?_
          refine ⟨_, rfl, ?_⟩
          refine ⟨_, _, rfl, hI _ rfl, ?_⟩
          refine ew_int ?_
          refine ⟨_, _, rfl, itm_tup (j := 0) rfl rfl, ?_⟩
          refine aw_cons ?_
          refine ew_ix ?_
          refine ew_ix ?_
          refine ew_name 1 rfl ?_
          refine ew_neg ?_
          refine ew_int ?_
          refine ⟨_, rfl, ?_⟩
          refine ⟨_, _, rfl, hI _ rfl, ?_⟩
          refine ew_int ?_
          refine ⟨_, _, rfl, itm_tup (j := 1) rfl rfl, ?_⟩
          refine aw_cons ?_
          refine ew_name 3 rfl ?_
          refine aw_nil ?_
          refine ⟨_, rfl, (by show 3 ≤ sizeLine; decide), ?_⟩
          refine gw_sub ?_
          refine ew_name 1 rfl ?_
          refine ew_neg ?_
          refine ew_int ?_
          refine ⟨_, rfl, ?_⟩
          refine ⟨_, _, _, _, rfl, rfl, at_end, ixN_m1 (by rw [List.length_map, List.length_map]; exact List.length_pos_iff.mpr hne), ?_⟩
          rw [set_end]
          refine sw_cons ?_
          refine sw_set 6 ?_ sc_normal.nd
          refine ew_if ?_
          refine tw_cmp (nomark _) ?_
          refine ew_name 3 rfl ?_
          refine ew_name 9 rfl ?_
          refine o_eqB ?_
          refine ⟨_, rfl, ?_⟩
          have fin : ∀ z : Int, z = nlow true (ps, last, slope) (lo, hi', v, ri) → st0 ++ [Ob.lst (((ps.map pcD).map W.dat).set (((ps.map pcD).map W.dat).length - 1) (.dat (.tup [.int q'.1, .int q'.2.1, .bl (decide (v - last = 1))])))] = st0 ++ [.lst (((nps true (ps, last, slope) (lo, hi', v, ri)).map pcD).map W.dat)] := fun z _ => by
            show _ = st0 ++ [.lst (((bend ps (decide (v - last = 1))).map pcD).map W.dat)]
            rw [hb, List.map_set, List.map_set, List.length_map, List.length_map]
          refine ifD (fun h => ?_) (fun h => ?_)
          · refine ew_bin ?_
            refine ew_name 7 rfl ?_
            refine ew_int ?_
            refine o_add ?_
            refine sw_nil ?_
            have ez : hi' + 1 = nlow true (ps, last, slope) (lo, hi', v, ri) := by
              show _ = (if decide (v - last = 1) = ri then hi' + 1 else lo + 1)
              rw [if_pos h]
            refine ⟨fin _ ez, some (.dat (.int (v - last))), some (.dat (.int v)), ?_⟩
            rw [← ez]
            rfl
          · refine ew_bin ?_
            refine ew_name 6 rfl ?_
            refine ew_int ?_
            refine o_add ?_
            refine sw_nil ?_
            have ez : lo + 1 = nlow true (ps, last, slope) (lo, hi', v, ri) := by
              show _ = (if decide (v - last = 1) = ri then hi' + 1 else lo + 1)
              rw [if_neg h]
            refine ⟨fin _ ez, some (.dat (.int (v - last))), some (.dat (.int v)), ?_⟩
            rw [← ez]
            rfl
        | false =>
          rw [if_neg Bool.false_ne_true]
          refine sw_nil ?_
          exact ⟨rfl, _, _, rfl⟩
    · generalize hps : nps (joins ps last slope v) (ps, last, slope) (lo, hi', v, ri) = ps1
      generalize hsl1 : nsl (joins ps last slope v) (ps, last, slope) (lo, hi', v, ri) = sl1
      generalize hlo : nlow (joins ps last slope v) (ps, last, slope) (lo, hi', v, ri) = lo1
      have es' : nrun (rs.take (i + 1)) = nfin ps1 sl1 lo1 (lo, hi', v, ri) := by
        rw [es, ← hps, ← hsl1, ← hlo]
        rfl
      have hpl1 : ps1.length ≤ 1000 := by
        rw [← hps]
        unfold nps
        split
        · rw [bend_length]; exact hpl
        · exact hpl
      rintro sl st ⟨rfl, o1, o2, rfl⟩
      refine sw_cut (fun sl st => st = st0 ++ [.lst (((nfin ps1 sl1 lo1 (lo, hi', v, ri)).1.map pcD).map W.dat)] ∧ ∃ o1 o2 o3, sl = [some (.dat (.lst (rs.map rowD))), some (.ptr st0.length), o3, some (.dat (optB (nfin ps1 sl1 lo1 (lo, hi', v, ri)).2.2)), some (.dat (rowD (lo, hi', v, ri))), o1, some (.dat (.int lo1)), some (.dat (.int hi')), o2, some (.dat (.bl ri))]) ?_ ?_
      · refine sw_if ?_
        refine tw_cmp (nomark _) ?_
        refine ew_name 6 rfl ?_
        refine ew_name 7 rfl ?_
        refine o_le ?_
        refine ⟨_, rfl, ?_⟩
        refine ifD (fun h => ?_) (fun h => ?_)
        · have en : nfin ps1 sl1 lo1 (lo, hi', v, ri) = (ps1 ++ [(lo1, onRow (lo, hi', v, ri) lo1, (if lo1 < hi' then some ri else none) == some true)], lastRow (lo, hi', v, ri), if lo1 < hi' then some ri else none) := if_pos h
          rw [en]
          refine sw_cons ?_
          refine sw_set 3 ?_ sc_normal.nd
          refine ew_mid (.dat (optB (if lo1 < hi' then some ri else none))) ?_ ?_
          · refine ew_if ?_
            refine tw_cmp (nomark _) ?_
            refine ew_name 6 rfl ?_
            refine ew_name 7 rfl ?_
            refine o_lt ?_
            refine ⟨_, rfl, ?_⟩
            refine ifD (fun h => ?_) (fun h => ?_)
            · refine ew_name 9 rfl ?_
              rw [if_pos h]
              exact ⟨rfl, rfl⟩
            · refine ew_non ?_
              rw [if_neg h]
              exact ⟨rfl, rfl⟩
          · refine sw_cons ?_
            refine sw_expr ?_
            refine ew_append ?_
            refine ew_name 1 rfl ?_
            refine ⟨_, _, rfl, at_end, ?_⟩
            refine ew_tup ?_
            refine aw_cons ?_
            refine ew_name 6 rfl ?_
            refine aw_cons ?_
            refine ew_call C_value_on hr (by decide) xk ?_
            refine aw_cons ?_
            refine ew_name 4 rfl ?_
            refine aw_cons ?_
            refine ew_name 6 rfl ?_
            refine aw_nil ?_
            refine ⟨_, _, rfl, ?_⟩
            refine aw_cons ?_
            refine ew_cmp (nomark _) ?_
            refine ew_name 3 rfl ?_
            refine ew_bl ?_
            refine o_isB ?_
            refine aw_nil ?_
            refine ⟨_, rfl, (by show 3 ≤ sizeLine; decide), ?_⟩
            refine ⟨_, at_end, szl (by rw [List.length_map, List.length_map]; omega), ?_⟩
            rw [set_end]
            refine sw_nil ?_
            refine ⟨?_, _, _, _, rfl⟩
            rw [List.map_append, List.map_append]
            rfl
        · have en : nfin ps1 sl1 lo1 (lo, hi', v, ri) = (ps1, lastRow (lo, hi', v, ri), sl1) := if_neg h
          rw [en]
          refine sw_nil ?_
          exact ⟨rfl, _, _, _, rfl⟩
      · rintro sl st ⟨rfl, o1, o2, o3, rfl⟩
        refine sw_cons ?_
        refine sw_set 2 ?_ sc_normal.nd
        refine ew_call C_last_value hr (by decide) xk ?_
        refine aw_cons ?_
        refine ew_name 4 rfl ?_
        refine aw_nil ?_
        refine ⟨_, rfl, ?_⟩
        refine sw_nil ?_
        have el : (nfin ps1 sl1 lo1 (lo, hi', v, ri)).2.1 = lastRow (lo, hi', v, ri) := by
          unfold nfin
          split <;> rfl
        refine ⟨by rw [es'], some (.dat (rowD (lo, hi', v, ri))), o1, some (.dat (.int lo1)), some (.dat (.int hi')), o2, some (.dat (.bl ri)), ?_⟩
        rw [es', el]
        rfl
  · obtain ⟨rfl, o1, o2, o3, o4, o5, o6, rfl⟩ := hI
    rw [List.length_map, List.length_map, List.take_length]
    refine sw_cons ?_
    refine sw_ret ?_
    refine ew_bty bt_tuple B.tuple ?_
    refine aw_cons ?_
    refine ew_name 1 rfl ?_
    refine aw_nil ?_
    refine c_tupleM at_end ?_
    exact krE_app hcl q
def stretchF : List Pc → Int → List Row
  | [], _ => []
  | [p], t => [(p.1, t, p.2.1, p.2.2)]
  | p :: q :: r, t => (p.1, q.1 - 1, p.2.1, p.2.2) :: stretchF (q :: r) t
theorem stretchF_length : ∀ (ps : List Pc) (t : Int), (stretchF ps t).length = ps.length
  | [], _ => rfl
  | [p], t => rfl
  | p :: q :: r, t => by
    unfold stretchF
    rw [List.length_cons, stretchF_length (q :: r) t]
    rfl
def bnds (ps : List Pc) (t : Int) : List Int := ps.map (·.1) ++ [t + 1]
theorem stretchF_get : ∀ (ps : List Pc) (t : Int) (i : Nat) (p : Pc), ps[i]? = some p → ∃ b, (bnds ps t)[i + 1]? = some b ∧ (stretchF ps t)[i]? = some (p.1, b - 1, p.2.1, p.2.2)
  | [p], t, 0, p', h => by
    simp at h
    subst h
    refine ⟨t + 1, rfl, ?_⟩
    show some (p.1, t, p.2.1, p.2.2) = some (p.1, t + 1 - 1, p.2.1, p.2.2)
    rw [Int.add_sub_cancel]
  | [p], t, i + 1, p', h => by simp at h
  | p :: q :: r, t, 0, p', h => by
    simp at h
    subst h
    exact ⟨q.1, rfl, rfl⟩
  | p :: q :: r, t, i + 1, p', h => by
    obtain ⟨b, h1, h2⟩ := stretchF_get (q :: r) t i p' (by simpa using h)
    refine ⟨b, ?_, ?_⟩
    · show (p.1 :: bnds (q :: r) t)[i + 1 + 1]? = some b
      simpa using h1
    · unfold stretchF
      simpa using h2
def F_stretches : FT := fun args st Ret _ => ∃ d ps t, args = [.dat d, .dat (.int t)] ∧ PcsD d ps ∧ ps.length ≤ 1000 ∧ Ret (.dat (.lst ((stretchF ps t).map rowD))) st
theorem ok_stretches {f : Addr} {fd : FuncData} (B : Bl mg) (Fn : Fun K "stretches" "stretches" s_stretches f fd) (b : Binds K fd p_stretches []) : FnG P w K mg base (L2.CX P w) 1 f (spD K F_stretches) := by
  refine fnD Fn sc_stretches b (fun args st0 Ret Exc h => ?_) ?_
  · obtain ⟨d, ps, t, rfl, _⟩ := h
    rfl
  intro cdv A outer s H E H0 Al args st0 Ret Exc hr xk hp hal hcl hF
  obtain ⟨d, ps, t, rfl, hd, hlen, q⟩ := hF
  have q2 := krE_of hcl q
  refine sw_cons ?_
  refine sw_set 2 ?_ sc_stretches.nd
  refine ew_bin ?_
  refine ew_lc (own := [("piece", 3)]) (tb := false) (is := [3]) rfl sc_stretches.nd (blkOk_by (N := n_stretches) (sc := defScope s_stretches) (by decide +kernel)) (fun _ _ _ _ _ => pg_name (i := 3) sc_stretches.nd rfl (Or.inl rfl)) (by decide) ?_
  refine lcj_pure (ps.map fun p => D.int p.1) (szl (by rw [List.length_map]; omega)) ?_ ?_
  · rcases hd with rfl | rfl
    all_goals first | (refine iw_list ?_; refine ew_name 0 rfl ?_; refine ⟨_, rfl, rfl, by rw [List.length_map, List.length_map, List.length_map], fun k w' y hw hy => ⟨_, rfl, ?_⟩⟩) | (refine iw_tup ?_; refine ew_name 0 rfl ?_; refine ⟨_, rfl, rfl, by rw [List.length_map, List.length_map, List.length_map], fun k w' y hw hy => ⟨_, rfl, ?_⟩⟩)
    all_goals
      obtain ⟨x, hxk, rfl⟩ := getElem?_mapW hw
      rw [List.getElem?_map] at hxk hy
      obtain ⟨p, hp1, rfl⟩ := Option.map_eq_some_iff.mp hxk
      rw [hp1] at hy
      have ey : y = .int p.1 := (Option.some.inj hy).symm
      subst ey
      intro G1 sb Hb Cb cl fp
      refine ew_ix ?_
      refine ew_name 3 rfl ?_
      refine ew_int ?_
      exact ⟨_, _, rfl, itm_tup (j := 0) rfl rfl, rfl, rfl⟩
  · refine ew_lst ?_
    refine aw_cons ?_
    refine ew_bin ?_
    refine ew_name 1 rfl ?_
    refine ew_int ?_
    refine o_add ?_
    refine aw_nil ?_
    refine ⟨_, rfl, (by show 1 ≤ sizeLine; decide), ?_⟩
    refine o_cat (szl' (by rw [List.length_map]; show ps.length + 1 ≤ _; omega)) ?_
    have eb : (ps.map fun p => D.int p.1) ++ [D.int (t + 1)] = (bnds ps t).map D.int := by
      unfold bnds
      rw [List.map_append, List.map_map]
      rfl
    show SW _ _ _ _ _ _
    refine sw_cons ?_
    refine sw_ret ?_
    refine ew_lc (own := [("at", 4), ("piece", 3)]) (tb := true) (is := [4, 3]) rfl sc_stretches.nd (blkOk_by (N := n_stretches) (sc := defScope s_stretches) (by decide +kernel)) (fun _ _ _ _ _ => pg_tup rfl (pgs_cons (pg_name (i := 4) sc_stretches.nd rfl (Or.inl rfl)) (pgs_cons (pg_name (i := 3) sc_stretches.nd rfl (Or.inl rfl)) (pgs_nil)))) (by decide) ?_
    refine lcj_pure ((stretchF ps t).map rowD) (szl (by rw [List.length_map, stretchF_length]; omega)) ?_ q2
    · rcases hd with rfl | rfl
      all_goals first | (refine iw_enum B.enumerate ?_; refine aw_cons ?_; refine ew_name 0 rfl ?_; refine aw_nil ?_; refine ⟨_, rfl, rfl, by rw [enm_length, List.length_map, List.length_map, stretchF_length], fun k w' y hw hy => ?_⟩) | (refine iw_enumT B.enumerate ?_; refine aw_cons ?_; refine ew_name 0 rfl ?_; refine aw_nil ?_; refine ⟨_, rfl, rfl, by rw [enm_length, List.length_map, List.length_map, stretchF_length], fun k w' y hw hy => ?_⟩)
      all_goals
        obtain ⟨x, hxk, rfl⟩ := getElem?_enm hw
        refine ⟨_, rfl, ?_⟩
        rw [List.getElem?_map] at hxk hy
        obtain ⟨p, hp1, rfl⟩ := Option.map_eq_some_iff.mp hxk
        obtain ⟨bb, hb1, hb2⟩ := stretchF_get ps t k p hp1
        rw [hb2] at hy
        have ey : y = rowD (p.1, bb - 1, p.2.1, p.2.2) := (Option.some.inj hy).symm
        subst ey
        have hb3 : ((ps.map fun p => D.int p.1) ++ [D.int (t + 1)])[k + 1]? = some (.int bb) := by rw [eb, List.getElem?_map, hb1]; rfl
        intro G1 sb Hb Cb cl fp
        refine ew_tup ?_
        refine aw_cons ?_
        refine ew_ix ?_
        refine ew_name 3 rfl ?_
        refine ew_int ?_
        refine ⟨_, _, rfl, itm_tup (j := 0) rfl rfl, ?_⟩
        refine aw_cons ?_
        refine ew_bin ?_
        refine ew_ix ?_
        refine ew_name 2 rfl ?_
        refine ew_bin ?_
        refine ew_name 4 rfl ?_
        refine ew_int ?_
        refine o_add ?_
        refine ⟨_, _, rfl, itm_lst (j := k + 1) (by omega) hb3, ?_⟩
        refine ew_int ?_
        refine o_sub ?_
        refine aw_cons ?_
        refine ew_ix ?_
        refine ew_name 3 rfl ?_
        refine ew_int ?_
        refine ⟨_, _, rfl, itm_tup (j := 1) rfl rfl, ?_⟩
        refine aw_cons ?_
        refine ew_ix ?_
        refine ew_name 3 rfl ?_
        refine ew_int ?_
        refine ⟨_, _, rfl, itm_tup (j := 2) rfl rfl, ?_⟩
        refine aw_nil ?_
        exact ⟨_, rfl, (by show 4 ≤ sizeLine; decide), rfl, rfl⟩
def F_is_number : FT := fun args st Ret _ => ∃ d t, args = [.dat d] ∧ tyOf d = some t ∧ Ret (.dat (.bl (isNum d))) st
theorem ok_is_number {f : Addr} {fd : FuncData} (B : Bl mg) (Fn : Fun K "is_number" "is_number" s_is_number f fd) (b : Binds K fd p_is_number []) : FnG P w K mg base (L2.CX P w) 1 f (spD K F_is_number) := by
  refine fnD Fn sc_is_number b (fun args st0 Ret Exc h => ?_) ?_
  · obtain ⟨d, t, rfl, _⟩ := h
    rfl
  intro cdv A outer s H E H0 Al args st0 Ret Exc hr xk hp hal hcl hF
  obtain ⟨d, t, rfl, ht, q⟩ := hF
  have q2 : KrE st0 Ret (.dat (.bl (isNum d))) st0 := krE_of hcl q
  refine sw_cons ?_
  refine sw_ret ?_
  refine ew_and ?_
  refine ew_blt bt_isinstance B.isinstance ?_
  refine aw_cons ?_
  refine ew_name 0 rfl ?_
  refine aw_cons ?_
  refine ew_gty bt_int B.int ?_
  refine aw_nil ?_
  refine c_is1 ht (by decide) ?_
  refine ⟨_, rfl, ?_⟩
  have no : isA t "int" = false → isNum d = false := fun h => by
    cases d <;> simp [tyOf] at ht <;> subst ht <;> first | rfl | (exact absurd h (by decide))
  refine ifB (fun h => ?_) (fun h => ?_)
  · refine ew_and ?_
    refine ew_not ?_
    refine ew_blt bt_isinstance B.isinstance ?_
    refine aw_cons ?_
    refine ew_name 0 rfl ?_
    refine aw_cons ?_
    refine ew_gty bt_bool B.bool ?_
    refine aw_nil ?_
    refine c_is1 ht (by decide) ?_
    refine ⟨_, rfl, ?_⟩
    refine ⟨_, rfl, ?_⟩
    refine ifN (fun h1 => ?_) (fun h1 => ?_)
    · obtain ⟨i, rfl⟩ : ∃ i, d = .int i := by
        cases d <;> simp [tyOf] at ht <;> subst ht <;> first | exact ⟨_, rfl⟩ | (exact absurd h (by decide)) | (exact absurd h1 (by decide))
      refine ew_one ?_
      refine ew_cmp (nomark _) ?_
      refine ew_name 0 rfl ?_
      refine ew_int ?_
      refine o_ge ?_
      exact q2
    · have : isNum d = false := by
        cases d <;> simp [tyOf] at ht <;> subst ht <;> first | rfl | (exact absurd h1 (by decide))
      rw [this] at q2
      exact q2
  · rw [no h] at q2
    exact q2
def F_is_value : FT := fun args st Ret _ => ∃ d t i, args = [.dat d, .dat (.int i)] ∧ tyOf d = some t ∧ Ret (.dat (.bl (isVal d i))) st
theorem ok_is_value {f : Addr} {fd : FuncData} (C_is_number : Cal P w K mg base 1 "is_number" F_is_number) (Fn : Fun K "is_value" "is_value" s_is_value f fd) (b : Binds K fd p_is_value []) : FnG P w K mg base (L2.CX P w) 2 f (spD K F_is_value) := by
  refine fnD Fn sc_is_value b (fun args st0 Ret Exc h => ?_) ?_
  · obtain ⟨d, t, i, rfl, _⟩ := h
    rfl
  intro cdv A outer s H E H0 Al args st0 Ret Exc hr xk hp hal hcl hF
  obtain ⟨d, t, i, rfl, ht, q⟩ := hF
  have q2 : KrE st0 Ret (.dat (.bl (isVal d i))) st0 := krE_of hcl q
  refine sw_cons ?_
  refine sw_ret ?_
  refine ew_and ?_
  refine ew_call C_is_number hr (by decide) xk ?_
  refine aw_cons ?_
  refine ew_name 0 rfl ?_
  refine aw_nil ?_
  refine ⟨d, t, rfl, ht, ?_⟩
  refine ⟨_, rfl, ?_⟩
  refine ifB (fun h => ?_) (fun h => ?_)
  · obtain ⟨k, rfl⟩ : ∃ i, d = .int i := by
      cases d <;> first | exact ⟨_, rfl⟩ | cases h
    refine ew_one ?_
    refine ew_cmp (nomark _) ?_
    refine ew_name 0 rfl ?_
    refine ew_name 1 rfl ?_
    refine o_le ?_
    have h : decide (0 ≤ k) = true := h
    have e : isVal (.int k) i = decide (k ≤ i) := by show (decide (0 ≤ k) && _) = _; rw [h, Bool.true_and]
    rw [e] at q2
    exact q2
  · have e : isVal d i = false := by
      cases d <;> first | rfl | skip
      rename_i k
      have h : decide (0 ≤ k) = false := h
      show (decide (0 ≤ k) && _) = _
      rw [h, Bool.false_and]
    rw [e] at q2
    exact q2
def F_is_sequence : FT := fun args st Ret _ => ∃ d t, args = [.dat d] ∧ tyOf d = some t ∧ Ret (.dat (.bl (isSeq d))) st
theorem ok_is_sequence {f : Addr} {fd : FuncData} (B : Bl mg) (Fn : Fun K "is_sequence" "is_sequence" s_is_sequence f fd) (b : Binds K fd p_is_sequence []) : FnG P w K mg base (L2.CX P w) 1 f (spD K F_is_sequence) := by
  refine fnD Fn sc_is_sequence b (fun args st0 Ret Exc h => ?_) ?_
  · obtain ⟨d, t, rfl, _⟩ := h
    rfl
  intro cdv A outer s H E H0 Al args st0 Ret Exc hr xk hp hal hcl hF
  obtain ⟨d, t, rfl, ht, q⟩ := hF
  have q2 : KrE st0 Ret (.dat (.bl (isSeq d))) st0 := krE_of hcl q
  refine sw_cons ?_
  refine sw_ret ?_
  refine ew_blt bt_isinstance B.isinstance ?_
  refine aw_cons ?_
  refine ew_name 0 rfl ?_
  refine aw_cons ?_
  refine ew_tup ?_
  refine aw_cons ?_
  refine ew_gty bt_list B.list ?_
  refine aw_cons ?_
  refine ew_gty bt_tuple B.tuple ?_
  refine aw_nil ?_
  refine ⟨_, rfl, by decide, ?_⟩
  refine aw_nil ?_
  refine c_is2 ht (by decide) (by decide) ?_
  have e : (isA t "list" || isA t "tuple") = isSeq d := by
    cases d <;> simp [tyOf] at ht <;> subst ht <;> rfl
  rw [e]
  exact q2
def seqOf : D → Option (List D)
  | .lst xs => some xs
  | .tup xs => some xs
  | _ => none
def intOf : D → Int
  | .int i => i
  | _ => 0
def ascB (xs : List D) : List Bool := (List.range (xs.length - 1)).map fun i => decide (intOf (xs.getD i .non) ≤ intOf (xs.getD (i + 1) .non))
def isTable (d : D) (t : Int) : Bool := match seqOf d with
  | some xs => !xs.isEmpty && (xs.map (isVal · t)).all id && (ascB xs).all id
  | none => false
def F_is_table : FT := fun args st Ret _ => ∃ d t i, args = [.dat d, .dat (.int i)] ∧ tyOf d = some t ∧ (∀ xs, seqOf d = some xs → xs.length ≤ 1000 ∧ ∀ x ∈ xs, ∃ t, tyOf x = some t) ∧ Ret (.dat (.bl (isTable d i))) st
theorem ok_is_table {f : Addr} {fd : FuncData} (B : Bl mg) (C_is_value : Cal P w K mg base 2 "is_value" F_is_value) (C_is_sequence : Cal P w K mg base 1 "is_sequence" F_is_sequence) (Fn : Fun K "is_table" "is_table" s_is_table f fd) (b : Binds K fd p_is_table []) : FnG P w K mg base (L2.CX P w) 3 f (spD K F_is_table) := by
  refine fnD Fn sc_is_table b (fun args st0 Ret Exc h => ?_) ?_
  · obtain ⟨d, t, i, rfl, _⟩ := h
    rfl
  intro cdv A outer s H E H0 Al args st0 Ret Exc hr xk hp hal hcl hF
  obtain ⟨d, t, i, rfl, ht, hx, q⟩ := hF
  have q2 : KrE st0 Ret (.dat (.bl (isTable d i))) st0 := krE_of hcl q
  refine sw_cons ?_
  refine sw_if ?_
  cases hs : seqOf d with
  | none =>
    have e1 : isSeq d = false := by cases d <;> first | rfl | cases hs
    have e2 : isTable d i = false := by unfold isTable; rw [hs]
    refine tw_bool ?_
    refine bw_or ?_
    refine tw_not ?_
    refine tw_val ?_
    refine ew_call C_is_sequence hr (by decide) xk ?_
    refine aw_cons ?_
    refine ew_name 0 rfl ?_
    refine aw_nil ?_
    refine ⟨d, t, rfl, ht, ?_⟩
    refine ⟨_, rfl, ?_⟩
    refine ifT (by rw [e1]; rfl) ?_
    refine ifT rfl ?_
    refine sw_cons ?_
    refine sw_ret ?_
    refine ew_bl ?_
    rw [e2] at q2
    exact q2
  | some xs =>
    obtain ⟨hlen, hty⟩ := hx xs hs
    have e1 : isSeq d = true := by cases d <;> first | rfl | cases hs
    have e0 : isTable d i = (!xs.isEmpty && (xs.map (isVal · i)).all id && (ascB xs).all id) := by unfold isTable; rw [hs]
    have hL : ∀ st, Len st (.dat d) = some xs.length := fun st => by cases d <;> first | (cases hs; rfl) | cases hs
    refine tw_mid xs.isEmpty ?_ ?_
    · refine tw_bool ?_
      refine bw_or ?_
      refine tw_not ?_
      refine tw_val ?_
      refine ew_call C_is_sequence hr (by decide) xk ?_
      refine aw_cons ?_
      refine ew_name 0 rfl ?_
      refine aw_nil ?_
      refine ⟨d, t, rfl, ht, ?_⟩
      refine ⟨_, rfl, ?_⟩
      refine ifF (by rw [e1]; rfl) ?_
      refine bw_or1 ?_
      refine tw_cmp (nomark _) ?_
      refine ew_blt bt_len B.len ?_
      refine aw_cons ?_
      refine ew_name 0 rfl ?_
      refine aw_nil ?_
      refine c_len (hL _) ?_
      refine ew_int ?_
      refine o_eqI ?_
      refine ⟨_, rfl, ?_, rfl⟩
      cases xs <;> simp <;> omega
    · refine ifB (fun h => ?_) (fun h => ?_)
      · refine sw_cons ?_
        refine sw_ret ?_
        refine ew_bl ?_
        rw [e0, h] at q2
        exact q2
      · refine sw_nil ?_
        refine sw_cons ?_
        refine sw_if ?_
        rw [h, Bool.not_false, Bool.true_and] at e0
        have hne : xs ≠ [] := by rintro rfl; cases h
        refine tw_mid (!(xs.map (isVal · i)).all id) ?_ ?_
        · refine tw_not ?_
          refine tw_val ?_
          refine ew_blt bt_all B.all ?_
          refine aw_cons ?_
          refine ew_lc (own := [("result", 3)]) (tb := false) (is := [3]) rfl sc_is_table.nd (blkOk_by (N := n_is_table) (sc := defScope s_is_table) (by decide +kernel)) (fun _ _ _ _ _ => pg_name (i := 3) sc_is_table.nd rfl (Or.inl rfl)) (by decide) ?_
          refine lcj_pure ((xs.map (isVal · i)).map D.bl) (szl (by simp; omega)) ?_ ?_
          · cases d <;> first | (cases hs; done) | cases hs
            all_goals first | (refine iw_list ?_; refine ew_name 0 rfl ?_; refine ⟨_, rfl, rfl, by simp, fun k w' y hw hy => ⟨_, rfl, ?_⟩⟩) | (refine iw_tup ?_; refine ew_name 0 rfl ?_; refine ⟨_, rfl, rfl, by simp, fun k w' y hw hy => ⟨_, rfl, ?_⟩⟩)
            all_goals
              obtain ⟨x, hxk, rfl⟩ := getElem?_mapW hw
              obtain ⟨t', ht'⟩ := hty x (List.mem_of_getElem? hxk)
              have ey : y = .bl (isVal x i) := by
                rw [List.map_map, List.getElem?_map, hxk] at hy
                exact (Option.some.inj hy).symm
              intro G1 sb Hb Cb cl fp
              refine ew_call C_is_value hr (by decide) xok_false ?_
              refine aw_cons ?_
              refine ew_name 3 rfl ?_
              refine aw_cons ?_
              refine ew_name 1 rfl ?_
              refine aw_nil ?_
              exact ⟨x, t', i, rfl, ht', by rw [ey], rfl⟩
          · refine aw_nil ?_
            refine c_all rfl ?_
            exact ⟨_, rfl, rfl, rfl⟩
        · refine ifB (fun h2 => ?_) (fun h2 => ?_)
          · refine sw_cons ?_
            refine sw_ret ?_
            refine ew_bl ?_
            have h2 : (xs.map (isVal · i)).all id = false := by simpa using h2
            rw [e0, h2] at q2
            exact q2
          · refine sw_nil ?_
            have h2 : (xs.map (isVal · i)).all id = true := by simpa using h2
            have hI : ∀ x ∈ xs, ∃ z, x = .int z := fun x hx' => by
              have := List.all_eq_true.mp h2 (isVal x i) (List.mem_map_of_mem hx')
              cases x <;> first | exact ⟨_, rfl⟩ | cases this
            refine sw_cons ?_
            refine sw_ret ?_
            refine ew_blt bt_all B.all ?_
            refine aw_cons ?_
            refine ew_lc (own := [("x", 2)]) (tb := false) (is := [2]) rfl sc_is_table.nd (blkOk_by (N := n_is_table) (sc := defScope s_is_table) (by decide +kernel)) (fun _ _ _ _ _ => pg_name (i := 2) sc_is_table.nd rfl (Or.inl rfl)) (by decide) ?_
            refine lcj_pure ((ascB xs).map D.bl) (szl (by unfold ascB; simp; omega)) ?_ ?_
            · refine iw_range1 B.range ?_
              refine aw_cons ?_
              refine ew_bin ?_
              refine ew_blt bt_len B.len ?_
              refine aw_cons ?_
              refine ew_name 0 rfl ?_
              refine aw_nil ?_
              refine c_len (hL _) ?_
              refine ew_int ?_
              refine o_sub ?_
              refine aw_nil ?_
              refine ⟨_, rfl, by omega, by omega, rfl, ?_, fun k w' y hw hy => ⟨_, rfl, ?_⟩⟩
              · rw [rng_length]
                unfold ascB
                have : 0 < xs.length := List.length_pos_iff.mpr hne
                rw [List.length_map, List.length_map, List.length_range]
                omega
              · obtain ⟨hk, rfl⟩ := getElem?_rng hw
                have hk1 : k + 1 < xs.length := by omega
                have hk0 : k < xs.length := by omega
                obtain ⟨z0, hz0⟩ := hI xs[k] (List.getElem_mem _)
                obtain ⟨z1, hz1⟩ := hI xs[k + 1] (List.getElem_mem _)
                have g0 : xs[k]? = some (.int z0) := by rw [List.getElem?_eq_getElem hk0, hz0]
                have g1 : xs[k + 1]? = some (.int z1) := by rw [List.getElem?_eq_getElem hk1, hz1]
                have ey : y = .bl (decide (z0 ≤ z1)) := by
                  unfold ascB at hy
                  rw [List.map_map, List.getElem?_map, List.getElem?_range (by omega)] at hy
                  have := (Option.some.inj hy).symm
                  rw [this]
                  show D.bl (decide (intOf (xs.getD k .non) ≤ intOf (xs.getD (k + 1) .non))) = _
                  rw [List.getD_eq_getElem?_getD, List.getD_eq_getElem?_getD, g0, g1]
                  rfl
                have it : ∀ (m : Nat) (z : Int) (j : Int), xs[m]? = some (.int z) → j = (m : Int) → ∀ st, Itm st (.dat d) j = some (.dat (.int z)) := fun m z j hm hj st => by
                  cases d <;> first | (cases hs; exact itm_lst hj hm) | (cases hs; exact itm_tup hj hm) | cases hs
                intro G1 sb Hb Cb cl fp
                refine ew_cmp (nomark _) ?_
                refine ew_ix ?_
                refine ew_name 0 rfl ?_
                refine ew_name 2 rfl ?_
                refine ⟨_, _, rfl, it k z0 _ g0 (by omega) _, ?_⟩
                refine ew_ix ?_
                refine ew_name 0 rfl ?_
                refine ew_bin ?_
                refine ew_name 2 rfl ?_
                refine ew_int ?_
                refine o_add ?_
                refine ⟨_, _, rfl, it (k + 1) z1 _ g1 (by omega) _, ?_⟩
                refine o_le ?_
                exact ⟨by rw [ey], rfl⟩
            · refine aw_nil ?_
              refine c_all rfl ?_
              rw [e0, h2, Bool.true_and] at q2
              exact q2
def isPieceD : D → Bool
  | .tup [a, b, .bl _] => isNum a && isNum b
  | _ => false
def Pl1 (d : D) : Prop := (∃ t, tyOf d = some t) ∧ ∀ xs, d = .tup xs → xs.length ≤ 1000 ∧ ∀ x ∈ xs, ∃ t, tyOf x = some t
def F_is_piece : FT := fun args st Ret _ => ∃ d, args = [.dat d] ∧ Pl1 d ∧ Ret (.dat (.bl (isPieceD d))) st
theorem ok_is_piece {f : Addr} {fd : FuncData} (B : Bl mg) (C_is_number : Cal P w K mg base 1 "is_number" F_is_number) (Fn : Fun K "is_piece" "is_piece" s_is_piece f fd) (b : Binds K fd p_is_piece []) : FnG P w K mg base (L2.CX P w) 2 f (spD K F_is_piece) := by
  refine fnD Fn sc_is_piece b (fun args st0 Ret Exc h => ?_) ?_
  · obtain ⟨d, rfl, _⟩ := h
    rfl
  intro cdv A outer s H E H0 Al args st0 Ret Exc hr xk hp hal hcl hF
  obtain ⟨d, rfl, ⟨⟨t, ht⟩, hx⟩, q⟩ := hF
  have q2 : KrE st0 Ret (.dat (.bl (isPieceD d))) st0 := krE_of hcl q
  refine sw_cons ?_
  refine sw_if ?_
  cases hd : isA t "tuple" with
  | false =>
    have e1 : isPieceD d = false := by
      cases d <;> first | rfl | skip
      simp [tyOf] at ht
      subst ht
      cases hd
    refine tw_bool ?_
    refine bw_or ?_
    refine tw_not ?_
    refine tw_val ?_
    refine ew_blt bt_isinstance B.isinstance ?_
    refine aw_cons ?_
    refine ew_name 0 rfl ?_
    refine aw_cons ?_
    refine ew_gty bt_tuple B.tuple ?_
    refine aw_nil ?_
    refine c_is1 ht (by decide) ?_
    refine ⟨_, rfl, ?_⟩
    refine ifT (by rw [hd]; rfl) ?_
    refine ifT rfl ?_
    refine sw_cons ?_
    refine sw_ret ?_
    refine ew_bl ?_
    rw [e1] at q2
    exact q2
  | true =>
    obtain ⟨xs, rfl⟩ : ∃ xs, d = .tup xs := by
      cases d <;> simp [tyOf] at ht <;> subst ht <;> first | exact ⟨_, rfl⟩ | (exact absurd hd (by decide))
    obtain ⟨hlen, hty⟩ := hx xs rfl
    refine tw_mid (!decide ((xs.length : Int) = 3)) ?_ ?_
    · refine tw_bool ?_
      refine bw_or ?_
      refine tw_not ?_
      refine tw_val ?_
      refine ew_blt bt_isinstance B.isinstance ?_
      refine aw_cons ?_
      refine ew_name 0 rfl ?_
      refine aw_cons ?_
      refine ew_gty bt_tuple B.tuple ?_
      refine aw_nil ?_
      refine c_is1 ht (by decide) ?_
      refine ⟨_, rfl, ?_⟩
      refine ifF (by rw [hd]; rfl) ?_
      refine bw_or1 ?_
      refine tw_cmp (nomark _) ?_
      refine ew_blt bt_len B.len ?_
      refine aw_cons ?_
      refine ew_name 0 rfl ?_
      refine aw_nil ?_
      refine c_len rfl ?_
      refine ew_int ?_
      refine o_neI ?_
      exact ⟨_, rfl, rfl, rfl⟩
    · refine ifN' (fun h => ?_) (fun h => ?_)
      · have e1 : isPieceD (.tup xs) = false := by
          match xs, h with
          | [], _ => rfl
          | [_], _ => rfl
          | [_, _], _ => rfl
          | [_, _, _], h => exact absurd rfl h
          | _ :: _ :: _ :: _ :: _, _ => simp [isPieceD]
        refine sw_cons ?_
        refine sw_ret ?_
        refine ew_bl ?_
        rw [e1] at q2
        exact q2
      · obtain ⟨x0, x1, x2, rfl⟩ : ∃ x0 x1 x2, xs = [x0, x1, x2] := by
          match xs, h with
          | [x0, x1, x2], _ => exact ⟨_, _, _, rfl⟩
          | [], h => simp at h
          | [_], h => simp at h
          | [_, _], h => simp at h
          | _ :: _ :: _ :: _ :: r, h => simp at h; omega
        obtain ⟨t0, ht0⟩ := hty x0 (by simp)
        obtain ⟨t1, ht1⟩ := hty x1 (by simp)
        obtain ⟨t2, ht2⟩ := hty x2 (by simp)
        have e1 : isPieceD (.tup [x0, x1, x2]) = (isNum x0 && (isNum x1 && isA t2 "bool")) := by
          cases x2 <;> simp [tyOf] at ht2 <;> subst ht2 <;> (try rw [show isA "bool" "bool" = true from rfl]) <;> (try rw [show isA "NoneType" "bool" = false from rfl]) <;> (try rw [show isA "int" "bool" = false from rfl]) <;> (try rw [show isA "str" "bool" = false from rfl]) <;> (try rw [show isA "list" "bool" = false from rfl]) <;> (try rw [show isA "tuple" "bool" = false from rfl]) <;> simp [isPieceD]
        rw [e1] at q2
        refine sw_nil ?_
        refine sw_cons ?_
        refine sw_ret ?_
        refine ew_and ?_
        refine ew_call C_is_number hr (by decide) xk ?_
        refine aw_cons ?_
        refine ew_ix ?_
        refine ew_name 0 rfl ?_
        refine ew_int ?_
        refine ⟨_, _, rfl, itm_tup (j := 0) rfl rfl, ?_⟩
        refine aw_nil ?_
        refine ⟨_, _, rfl, ht0, ?_⟩
        refine ⟨_, rfl, ?_⟩
        refine ifB (fun h => ?_) (fun h => ?_)
        · refine ew_and ?_
          refine ew_call C_is_number hr (by decide) xk ?_
          refine aw_cons ?_
          refine ew_ix ?_
          refine ew_name 0 rfl ?_
          refine ew_int ?_
          refine ⟨_, _, rfl, itm_tup (j := 1) rfl rfl, ?_⟩
          refine aw_nil ?_
          refine ⟨_, _, rfl, ht1, ?_⟩
          refine ⟨_, rfl, ?_⟩
          rw [h, Bool.true_and] at q2
          refine ifB (fun h => ?_) (fun h => ?_)
          · rw [h, Bool.true_and] at q2
            refine ew_one ?_
            refine ew_blt bt_isinstance B.isinstance ?_
            refine aw_cons ?_
            refine ew_ix ?_
            refine ew_name 0 rfl ?_
            refine ew_int ?_
            refine ⟨_, _, rfl, itm_tup (j := 2) rfl rfl, ?_⟩
            refine aw_cons ?_
            refine ew_gty bt_bool B.bool ?_
            refine aw_nil ?_
            refine c_is1 ht2 (by decide) ?_
            exact q2
          · rw [h, Bool.false_and] at q2
            exact q2
        · rw [h, Bool.false_and] at q2
          exact q2
def startOf : D → Int
  | .tup (.int i :: _) => i
  | _ => 0
def ascS (ss : List Int) : List Bool := (List.range (ss.length - 1)).map fun i => decide (ss.getD i 0 < ss.getD (i + 1) 0)
def arePieces (d : D) (t : Int) : Bool := match seqOf d with
  | some xs => !xs.isEmpty && (xs.map isPieceD).all id && !(!decide ((xs.map startOf).headD 0 = 0) || decide (t < (xs.map startOf).getLastD 0)) && (ascS (xs.map startOf)).all id
  | none => false
theorem isPieceD_eq {d : D} (h : isPieceD d = true) : ∃ p : Pc, d = pcD p ∧ 0 ≤ p.1 ∧ 0 ≤ p.2.1 := by
  unfold isPieceD at h
  split at h
  · rename_i a b c
    rw [Bool.and_eq_true] at h
    obtain ⟨h1, h2⟩ := h
    cases a <;> first | cases h1 | skip
    cases b <;> first | cases h2 | skip
    rename_i i j
    exact ⟨(i, j, c), rfl, of_decide_eq_true h1, of_decide_eq_true h2⟩
  · cases h
theorem startOf_pc (p : Pc) : startOf (pcD p) = p.1 := rfl
theorem all_pieces : ∀ {xs : List D}, (xs.map isPieceD).all id = true → ∃ ps : List Pc, xs = ps.map pcD ∧ ∀ p ∈ ps, 0 ≤ p.1 ∧ 0 ≤ p.2.1
  | [], _ => ⟨[], rfl, fun p hp => by simp at hp⟩
  | x :: xs, h => by
    rw [List.map_cons, List.all_cons, Bool.and_eq_true] at h
    obtain ⟨p, rfl, h1⟩ := isPieceD_eq h.1
    obtain ⟨ps, rfl, h2⟩ := all_pieces h.2
    exact ⟨p :: ps, rfl, fun q hq => by
      rcases List.mem_cons.mp hq with rfl | hq
      · exact h1
      · exact h2 q hq⟩
def F_are_pieces : FT := fun args st Ret _ => ∃ d t, args = [.dat d, .dat (.int t)] ∧ (∃ n, tyOf d = some n) ∧ (∀ xs, seqOf d = some xs → xs.length ≤ 1000 ∧ ∀ x ∈ xs, Pl1 x) ∧ Ret (.dat (.bl (arePieces d t))) st
theorem ok_are_pieces {f : Addr} {fd : FuncData} (B : Bl mg) (C_is_piece : Cal P w K mg base 2 "is_piece" F_is_piece) (C_is_sequence : Cal P w K mg base 1 "is_sequence" F_is_sequence) (Fn : Fun K "are_pieces" "are_pieces" s_are_pieces f fd) (b : Binds K fd p_are_pieces []) : FnG P w K mg base (L2.CX P w) 3 f (spD K F_are_pieces) := by
  refine fnD Fn sc_are_pieces b (fun args st0 Ret Exc h => ?_) ?_
  · obtain ⟨d, t, rfl, _⟩ := h
    rfl
  intro cdv A outer s H E H0 Al args st0 Ret Exc hr xk hp hal hcl hF
  obtain ⟨d, t, rfl, ⟨n, hn⟩, hx, q⟩ := hF
  have q2 : KrE st0 Ret (.dat (.bl (arePieces d t))) st0 := krE_of hcl q
  refine sw_cons ?_
  refine sw_if ?_
  cases hs : seqOf d with
  | none =>
    have e1 : isSeq d = false := by cases d <;> first | rfl | cases hs
    have e2 : arePieces d t = false := by unfold arePieces; rw [hs]
    refine tw_bool ?_
    refine bw_or ?_
    refine tw_not ?_
    refine tw_val ?_
    refine ew_call C_is_sequence hr (by decide) xk ?_
    refine aw_cons ?_
    refine ew_name 0 rfl ?_
    refine aw_nil ?_
    refine ⟨d, n, rfl, hn, ?_⟩
    refine ⟨_, rfl, ?_⟩
    refine ifT (by rw [e1]; rfl) ?_
    refine ifT rfl ?_
    refine sw_cons ?_
    refine sw_ret ?_
    refine ew_bl ?_
    rw [e2] at q2
    exact q2
  | some xs =>
    obtain ⟨hlen, hty⟩ := hx xs hs
    have e1 : isSeq d = true := by cases d <;> first | rfl | cases hs
    have e0 : arePieces d t = (!xs.isEmpty && (xs.map isPieceD).all id && !(!decide ((xs.map startOf).headD 0 = 0) || decide (t < (xs.map startOf).getLastD 0)) && (ascS (xs.map startOf)).all id) := by unfold arePieces; rw [hs]
    have hL : ∀ st, Len st (.dat d) = some xs.length := fun st => by cases d <;> first | (cases hs; rfl) | cases hs
    refine tw_mid xs.isEmpty ?_ ?_
    · refine tw_bool ?_
      refine bw_or ?_
      refine tw_not ?_
      refine tw_val ?_
      refine ew_call C_is_sequence hr (by decide) xk ?_
      refine aw_cons ?_
      refine ew_name 0 rfl ?_
      refine aw_nil ?_
      refine ⟨d, n, rfl, hn, ?_⟩
      refine ⟨_, rfl, ?_⟩
      refine ifF (by rw [e1]; rfl) ?_
      refine bw_or1 ?_
      refine tw_cmp (nomark _) ?_
      refine ew_blt bt_len B.len ?_
      refine aw_cons ?_
      refine ew_name 0 rfl ?_
      refine aw_nil ?_
      refine c_len (hL _) ?_
      refine ew_int ?_
      refine o_eqI ?_
      refine ⟨_, rfl, ?_, rfl⟩
      cases xs <;> simp <;> omega
    · refine ifB (fun h => ?_) (fun h => ?_)
      · refine sw_cons ?_
        refine sw_ret ?_
        refine ew_bl ?_
        rw [e0, h] at q2
        exact q2
      · refine sw_nil ?_
        refine sw_cons ?_
        refine sw_if ?_
        rw [h, Bool.not_false, Bool.true_and] at e0
        have hne : xs ≠ [] := by rintro rfl; cases h
        refine tw_mid (!(xs.map isPieceD).all id) ?_ ?_
        · refine tw_not ?_
          refine tw_val ?_
          refine ew_blt bt_all B.all ?_
          refine aw_cons ?_
          refine ew_lc (own := [("piece", 3)]) (tb := false) (is := [3]) rfl sc_are_pieces.nd (blkOk_by (N := n_are_pieces) (sc := defScope s_are_pieces) (by decide +kernel)) (fun _ _ _ _ _ => pg_name (i := 3) sc_are_pieces.nd rfl (Or.inl rfl)) (by decide) ?_
          refine lcj_pure ((xs.map isPieceD).map D.bl) (szl (by rw [List.length_map, List.length_map]; omega)) ?_ ?_
          · cases d <;> first | (cases hs; done) | cases hs
            all_goals first | (refine iw_list ?_; refine ew_name 0 rfl ?_; refine ⟨_, rfl, rfl, by simp, fun k w' y hw hy => ⟨_, rfl, ?_⟩⟩) | (refine iw_tup ?_; refine ew_name 0 rfl ?_; refine ⟨_, rfl, rfl, by simp, fun k w' y hw hy => ⟨_, rfl, ?_⟩⟩)
            all_goals
              obtain ⟨x, hxk, rfl⟩ := getElem?_mapW hw
              have ey : y = .bl (isPieceD x) := by
                rw [List.map_map, List.getElem?_map, hxk] at hy
                exact (Option.some.inj hy).symm
              intro G1 sb Hb Cb cl fp
              refine ew_call C_is_piece hr (by decide) xok_false ?_
              refine aw_cons ?_
              refine ew_name 3 rfl ?_
              refine aw_nil ?_
              exact ⟨x, rfl, hty x (List.mem_of_getElem? hxk), by rw [ey], rfl⟩
          · refine aw_nil ?_
            refine c_all rfl ?_
            exact ⟨_, rfl, rfl, rfl⟩
        · refine ifB (fun h2 => ?_) (fun h2 => ?_)
          · refine sw_cons ?_
            refine sw_ret ?_
            refine ew_bl ?_
            have h2 : (xs.map isPieceD).all id = false := by simpa using h2
            rw [e0, h2] at q2
            exact q2
          · refine sw_nil ?_
            have h2 : (xs.map isPieceD).all id = true := by simpa using h2
            rw [h2, Bool.true_and] at e0
            obtain ⟨ps, rfl, hps⟩ := all_pieces h2
            have hpn : ps ≠ [] := by rintro rfl; exact hne rfl
            have hpl : ps.length ≤ 1000 := by rw [List.length_map] at hlen; exact hlen
            have hD : PcsD d ps := by cases d <;> first | (cases hs; exact .inl rfl) | (cases hs; exact .inr rfl) | cases hs
            have es : (ps.map pcD).map startOf = ps.map (·.1) := by rw [List.map_map]; rfl
            rw [es] at e0
            refine sw_cons ?_
            refine sw_set 2 ?_ sc_are_pieces.nd
            refine ew_lc (own := [("piece", 3)]) (tb := false) (is := [3]) rfl sc_are_pieces.nd (blkOk_by (N := n_are_pieces) (sc := defScope s_are_pieces) (by decide +kernel)) (fun _ _ _ _ _ => pg_name (i := 3) sc_are_pieces.nd rfl (Or.inl rfl)) (by decide) ?_
            refine lcj_pure ((ps.map (·.1)).map D.int) (szl (by rw [List.length_map, List.length_map]; omega)) ?_ ?_
            · rcases hD with rfl | rfl
              all_goals first | (refine iw_list ?_; refine ew_name 0 rfl ?_; refine ⟨_, rfl, rfl, by rw [List.length_map, List.length_map, List.length_map, List.length_map], fun k w' y hw hy => ⟨_, rfl, ?_⟩⟩) | (refine iw_tup ?_; refine ew_name 0 rfl ?_; refine ⟨_, rfl, rfl, by rw [List.length_map, List.length_map, List.length_map, List.length_map], fun k w' y hw hy => ⟨_, rfl, ?_⟩⟩)
              all_goals
                obtain ⟨x, hxk, rfl⟩ := getElem?_mapW hw
                rw [List.getElem?_map] at hxk
                rw [List.map_map, List.getElem?_map] at hy
                obtain ⟨p, hp1, rfl⟩ := Option.map_eq_some_iff.mp hxk
                rw [hp1] at hy
                have ey : y = .int p.1 := (Option.some.inj hy).symm
                subst ey
                intro G1 sb Hb Cb cl fp
                refine ew_ix ?_
                refine ew_name 3 rfl ?_
                refine ew_int ?_
                exact ⟨_, _, rfl, itm_tup (j := 0) rfl rfl, rfl, rfl⟩
            · generalize hss : ps.map (·.1) = ss at e0 ⊢
              have hsn : ss ≠ [] := by rw [← hss]; intro z; exact hpn (List.map_eq_nil_iff.mp z)
              have hsl : ss.length ≤ 1000 := by rw [← hss, List.length_map]; exact hpl
              obtain ⟨s0, rest, rfl⟩ : ∃ s0 rest, ss = s0 :: rest := List.exists_cons_of_ne_nil hsn
              obtain ⟨sl', hsl'⟩ : ∃ z, (s0 :: rest).getLast? = some z := ⟨_, List.getLast?_eq_some_getLast (by simp)⟩
              have e3 : (s0 :: rest).getLastD 0 = sl' := by rw [List.getLastD_eq_getLast?, hsl']; rfl
              have e4 : ((s0 :: rest).map D.int).getLast? = some (.int sl') := by rw [List.getLast?_map, hsl']; rfl
              rw [e3] at e0
              refine sw_cons ?_
              refine sw_if ?_
              refine tw_mid (!decide (s0 = 0) || decide (t < sl')) ?_ ?_
              · refine tw_bool ?_
                refine bw_or ?_
                refine tw_cmp (nomark _) ?_
                refine ew_ix ?_
                refine ew_name 2 rfl ?_
                refine ew_int ?_
                refine ⟨_, _, rfl, itm_lst (j := 0) rfl rfl, ?_⟩
                refine ew_int ?_
                refine o_neI ?_
                refine ⟨_, rfl, ?_⟩
                refine ifB (fun h => ?_) (fun h => ?_)
                · rw [h]
                  exact ⟨rfl, rfl⟩
                · rw [h, Bool.false_or]
                  refine bw_or1 ?_
                  refine tw_cmp (nomark _) ?_
                  refine ew_ix ?_
                  refine ew_name 2 rfl ?_
                  refine ew_neg ?_
                  refine ew_int ?_
                  refine ⟨_, rfl, ?_⟩
                  refine ⟨_, _, rfl, (by show (atI _ _).map W.dat = _; rw [atI_m1 e4]; rfl), ?_⟩
                  refine ew_name 1 rfl ?_
                  refine o_gt ?_
                  exact ⟨_, rfl, rfl, rfl⟩
              · refine ifB (fun h3 => ?_) (fun h3 => ?_)
                · refine sw_cons ?_
                  refine sw_ret ?_
                  refine ew_bl ?_
                  have : arePieces d t = false := by
                    rw [e0]
                    show (!(!decide (s0 = 0) || decide (t < sl')) && _) = false
                    rw [h3]
                    rfl
                  rw [this] at q2
                  exact q2
                · have e5 : arePieces d t = (ascS (s0 :: rest)).all id := by
                    rw [e0]
                    show (!(!decide (s0 = 0) || decide (t < sl')) && _) = _
                    rw [h3]
                    rfl
                  rw [e5] at q2
                  refine sw_nil ?_
                  refine sw_cons ?_
                  refine sw_ret ?_
                  refine ew_blt bt_all B.all ?_
                  refine aw_cons ?_
                  refine ew_lc (own := [("at", 4)]) (tb := false) (is := [4]) rfl sc_are_pieces.nd (blkOk_by (N := n_are_pieces) (sc := defScope s_are_pieces) (by decide +kernel)) (fun _ _ _ _ _ => pg_name (i := 4) sc_are_pieces.nd rfl (Or.inl rfl)) (by decide) ?_
                  refine lcj_pure ((ascS (s0 :: rest)).map D.bl) (szl (by unfold ascS; rw [List.length_map, List.length_map, List.length_range]; omega)) ?_ ?_
                  · refine iw_range1 B.range ?_
                    refine aw_cons ?_
                    refine ew_bin ?_
                    refine ew_blt bt_len B.len ?_
                    refine aw_cons ?_
                    refine ew_name 2 rfl ?_
                    refine aw_nil ?_
                    refine c_len rfl ?_
                    rw [List.length_map]
                    refine ew_int ?_
                    refine o_sub ?_
                    refine aw_nil ?_
                    refine ⟨_, rfl, by omega, by omega, rfl, ?_, fun k w' y hw hy => ⟨_, rfl, ?_⟩⟩
                    · rw [rng_length]
                      unfold ascS
                      rw [List.length_map, List.length_map, List.length_range]
                      have : 0 < (s0 :: rest).length := Nat.succ_pos _
                      omega
                    · obtain ⟨hk, rfl⟩ := getElem?_rng hw
                      have hk1 : k + 1 < (s0 :: rest).length := by omega
                      have hk0 : k < (s0 :: rest).length := by omega
                      have g0 : (s0 :: rest)[k]? = some (s0 :: rest)[k] := List.getElem?_eq_getElem hk0
                      have g1 : (s0 :: rest)[k + 1]? = some (s0 :: rest)[k + 1] := List.getElem?_eq_getElem hk1
                      have ey : y = .bl (decide ((s0 :: rest)[k] < (s0 :: rest)[k + 1])) := by
                        unfold ascS at hy
                        rw [List.map_map, List.getElem?_map, List.getElem?_range (by omega)] at hy
                        have := (Option.some.inj hy).symm
                        rw [this]
                        show D.bl (decide ((s0 :: rest).getD k 0 < (s0 :: rest).getD (k + 1) 0)) = _
                        rw [List.getD_eq_getElem?_getD, List.getD_eq_getElem?_getD, g0, g1]
                        rfl
                      subst ey
                      intro G1 sb Hb Cb cl fp
                      refine ew_cmp (nomark _) ?_
                      refine ew_ix ?_
                      refine ew_name 2 rfl ?_
                      refine ew_name 4 rfl ?_
                      refine ⟨_, _, rfl, itm_lst (j := k) (by omega) (by rw [List.getElem?_map, g0]; rfl), ?_⟩
                      refine ew_ix ?_
                      refine ew_name 2 rfl ?_
                      refine ew_bin ?_
                      refine ew_name 4 rfl ?_
                      refine ew_int ?_
                      refine o_add ?_
                      refine ⟨_, _, rfl, itm_lst (j := k + 1) (by omega) (by rw [List.getElem?_map, g1]; rfl), ?_⟩
                      refine o_lt ?_
                      exact ⟨rfl, rfl⟩
                  · refine aw_nil ?_
                    refine c_all rfl ?_
                    exact q2
theorem mkErr_ip {X : Cx} {C fI : Addr} (T : PySem.LowX_ip.LowTxt X.K X.mg C fI) : MkErr X "InvalidPassage" "word" C := fun a ta p pos k hr ha hg he hpl => pmk_low_ip T hr.r ha hg he hpl
theorem fldErr_ip {X : Cx} {C fI : Addr} (T : PySem.LowX_ip.LowTxt X.K X.mg C fI) : FldErr X "word" C := fun ad dx oe pn e te pos hz hv he hb => pe_byLow_ip T hz hv he hb
end Kf
namespace Kf
open PySem PySem.Spec L2 StX ClX Dn
open PyProof.Rows hiding St
variable {P : Program} {w : World} {K : PySem.W.Frag} {mg : Str → Option Value} {base : Heap}
def fsP (t g : Int) (ps : List Pc) : List (Str × D) := [("top", .int t), ("target", .int g), ("pieces", .tup (ps.map pcD))]
def psgD (C : Addr) (t g : Int) (ps : List Pc) : D := .ins C (fsP t g ps)
theorem fsP_top (t g : Int) (ps : List Pc) : (fsP t g ps).lookup ("top" : Str) = some (D.int t) := by simp [fsP, List.lookup]
theorem ne_tt : (("target" : Str) == ("top" : Str)) = false := by decide +kernel
theorem ne_pt : (("pieces" : Str) == ("top" : Str)) = false := by decide +kernel
theorem ne_pg : (("pieces" : Str) == ("target" : Str)) = false := by decide +kernel
theorem fsP_target (t g : Int) (ps : List Pc) : (fsP t g ps).lookup ("target" : Str) = some (D.int g) := by simp [fsP, List.lookup, ne_tt]
theorem fsP_pieces (t g : Int) (ps : List Pc) : (fsP t g ps).lookup ("pieces" : Str) = some (D.tup (ps.map pcD)) := by simp [fsP, List.lookup, ne_pt, ne_pg]
structure PTxt (K : PySem.W.Frag) (C : Addr) : Prop where
  cls : Cls K C
  no_top : NoAttr K C "top"
  no_target : NoAttr K C "target"
  no_pieces : NoAttr K C "pieces"
def Pl2 (d : D) : Prop := (∃ n, tyOf d = some n) ∧ ∀ xs, seqOf d = some xs → xs.length ≤ 1000 ∧ ∀ x ∈ xs, Pl1 x
theorem map_pcD_inj : ∀ {ps qs : List Pc}, ps.map pcD = qs.map pcD → ps = qs
  | [], [], _ => rfl
  | [], _ :: _, h => by cases h
  | _ :: _, [], h => by cases h
  | (a, b, c) :: ps, (x, y, z) :: qs, h => by
    rw [List.map_cons, List.map_cons] at h
    injection h with h1 h2
    injection h1 with h1
    injection h1 with e1 h1
    injection h1 with e2 h1
    injection h1 with e3 _
    injection e1 with e1
    injection e2 with e2
    injection e3 with e3
    rw [map_pcD_inj h2]
    simp only at e1 e2 e3
    rw [e1, e2, e3]
def F_init (C CE : Addr) : FT := fun args st Ret Exc => ∃ j dt dg dp, args = [.ptr j, .dat dt, .dat dg, .dat dp] ∧ st[j]? = some (.ins C []) ∧ (∃ n, tyOf dt = some n) ∧ (∃ n, tyOf dg = some n) ∧ Pl2 dp ∧
  (isNum dt = false → Exc (.ref CE) [("word", .str "top")] st) ∧ (isNum dt = true → isNum dg = false → Exc (.ref CE) [("word", .str "target")] st) ∧
  (∀ t g, dt = .int t → dg = .int g → 0 ≤ t → 0 ≤ g → (arePieces dp t = false → Exc (.ref CE) [("word", .str "pieces")] st) ∧
    (arePieces dp t = true → ∀ ps, PcsD dp ps → ps.length ≤ 1000 → (stays g 0 (stretchF ps t) = false → Exc (.ref CE) [("word", .str "pieces")] st) ∧
      (stays g 0 (stretchF ps t) = true → Ret (.dat .non) (st.set j (.ins C ((fsP t g (normalF (stretchF ps t))).map fun q => (q.1, W.dat q.2)))))))
theorem setF_len (f : Str) (x : W) : ∀ fs : List (Str × W), (setF f x fs).length ≤ fs.length + 1
  | [] => Nat.le_refl _
  | (g, y) :: r => by
    unfold setF
    split
    · exact Nat.le_succ _
    · rw [List.length_cons, List.length_cons]
      exact Nat.succ_le_succ (setF_len f x r)
theorem setF3 (t g d : D) : setF "pieces" (.dat d) (setF "target" (.dat g) (setF "top" (.dat t) [])) = ([("top", W.dat t), ("target", W.dat g), ("pieces", W.dat d)] : List (Str × W)) := by
  have e1 : ¬ (("top" : Str) = "target") := by decide +kernel
  have e2 : ¬ (("top" : Str) = "pieces") := by decide +kernel
  have e3 : ¬ (("target" : Str) = "pieces") := by decide +kernel
  simp [setF, e1, e2, e3]
theorem isNum_eq {d : D} (h : isNum d = true) : ∃ i, d = .int i ∧ 0 ≤ i := by
  cases d <;> first | exact ⟨_, rfl, of_decide_eq_true h⟩ | cases h
theorem arePieces_eq {d : D} {t : Int} (h : arePieces d t = true) : ∃ ps, PcsD d ps ∧ ps ≠ [] := by
  unfold arePieces at h
  cases hs : seqOf d with
  | none => rw [hs] at h; cases h
  | some xs =>
    rw [hs] at h
    simp only [Bool.and_eq_true] at h
    obtain ⟨ps, rfl, _⟩ := all_pieces h.1.1.2
    refine ⟨ps, ?_, ?_⟩
    · cases d <;> first | (cases hs; exact .inl rfl) | (cases hs; exact .inr rfl) | cases hs
    · rintro rfl
      exact absurd h.1.1.1 (by decide)
theorem PcsD.seq {d : D} {ps : List Pc} (h : PcsD d ps) : seqOf d = some (ps.map pcD) := by rcases h with rfl | rfl <;> rfl
theorem ok_init {f C CE : Addr} {fd : FuncData} (T : PTxt K C) {fI : Addr} (TE : PySem.LowX_ip.LowTxt K mg CE fI) (C_is_number : Cal P w K mg base 1 "is_number" F_is_number) (C_are_pieces : Cal P w K mg base 3 "are_pieces" F_are_pieces) (C_stretches : Cal P w K mg base 1 "stretches" F_stretches)
    (C_stays_within : Cal P w K mg base 3 "stays_within" F_stays_within) (C_normal : Cal P w K mg base 3 "normal" F_normal) (Fn : Fun K "__init__" "Passage.__init__" s_init f fd) (b : Binds K fd p_init []) : FnG P w K mg base (L2.CX P w) 4 f (spD K (F_init C CE)) := by
  refine fnD Fn sc_init b (fun args st0 Ret Exc h => ?_) ?_
  · obtain ⟨j, dt, dg, dp, rfl, _⟩ := h
    rfl
  intro cdv A outer s H E H0 Al args st0 Ret Exc hr xk hp hal hcl hF
  obtain ⟨j, dt, dg, dp, rfl, hj, ⟨n1, hn1⟩, ⟨n2, hn2⟩, ⟨⟨n3, hn3⟩, hpl⟩, x1, x2, x3⟩ := hF
  have hjl : j < st0.length := (List.getElem?_eq_some_iff.mp hj).1
  refine sw_cons ?_
  refine sw_if ?_
  refine tw_not ?_
  refine tw_val ?_
  refine ew_call C_is_number hr (by decide) xk ?_
  refine aw_cons ?_
  refine ew_name 1 rfl ?_
  refine aw_nil ?_
  refine ⟨dt, n1, rfl, hn1, ?_⟩
  refine ⟨_, rfl, ?_⟩
  refine ifN (fun h1 => ?_) (fun h1 => ?_)
  · refine sw_cons ?_
    refine sw_raise1 (mkErr_ip TE) hr xk ?_
    refine ew_str ?_
    exact ⟨_, rfl, kxE_of hcl (x1 h1)⟩
  · refine sw_nil ?_
    refine sw_cons ?_
    refine sw_if ?_
    refine tw_not ?_
    refine tw_val ?_
    refine ew_call C_is_number hr (by decide) xk ?_
    refine aw_cons ?_
    refine ew_name 2 rfl ?_
    refine aw_nil ?_
    refine ⟨dg, n2, rfl, hn2, ?_⟩
    refine ⟨_, rfl, ?_⟩
    refine ifN (fun h2 => ?_) (fun h2 => ?_)
    · refine sw_cons ?_
      refine sw_raise1 (mkErr_ip TE) hr xk ?_
      refine ew_str ?_
      exact ⟨_, rfl, kxE_of hcl (x2 h1 h2)⟩
    · obtain ⟨t, rfl, ht⟩ := isNum_eq h1
      obtain ⟨g, rfl, hg⟩ := isNum_eq h2
      obtain ⟨y1, y2⟩ := x3 t g rfl rfl ht hg
      refine sw_nil ?_
      refine sw_cons ?_
      refine sw_if ?_
      refine tw_not ?_
      refine tw_val ?_
      refine ew_call C_are_pieces hr (by decide) xk ?_
      refine aw_cons ?_
      refine ew_name 3 rfl ?_
      refine aw_cons ?_
      refine ew_name 1 rfl ?_
      refine aw_nil ?_
      refine ⟨dp, t, rfl, ⟨n3, hn3⟩, hpl, ?_⟩
      refine ⟨_, rfl, ?_⟩
      refine ifN (fun h3 => ?_) (fun h3 => ?_)
      · refine sw_cons ?_
        refine sw_raise1 (mkErr_ip TE) hr xk ?_
        refine ew_str ?_
        exact ⟨_, rfl, kxE_of hcl (y1 h3)⟩
      · obtain ⟨ps, hps, hne⟩ := arePieces_eq h3
        have hlen : ps.length ≤ 1000 := by
          have := (hpl _ hps.seq).1
          rwa [List.length_map] at this
        obtain ⟨z1, z2⟩ := y2 h3 ps hps hlen
        refine sw_nil ?_
        refine sw_cons ?_
        refine sw_set 4 ?_ sc_init.nd
        refine ew_call C_stretches hr (by decide) xk ?_
        refine aw_cons ?_
        refine ew_name 3 rfl ?_
        refine aw_cons ?_
        refine ew_name 1 rfl ?_
        refine aw_nil ?_
        refine ⟨dp, ps, t, rfl, hps, hlen, ?_⟩
        refine sw_cons ?_
        refine sw_if ?_
        refine tw_not ?_
        refine tw_val ?_
        refine ew_call C_stays_within hr (by decide) xk ?_
        refine aw_cons ?_
        refine ew_name 4 rfl ?_
        refine aw_cons ?_
        refine ew_name 2 rfl ?_
        refine aw_nil ?_
        refine ⟨_, _, rfl, ?_⟩
        refine ⟨_, rfl, ?_⟩
        refine ifN (fun h4 => ?_) (fun h4 => ?_)
        · refine sw_cons ?_
          refine sw_raise1 (mkErr_ip TE) hr xk ?_
          refine ew_str ?_
          exact ⟨_, rfl, kxE_of hcl (z1 h4)⟩
        · have q := z2 h4
          refine sw_nil ?_
          refine sw_cons ?_
          refine sw_fld ?_
          refine ew_name 1 rfl ?_
          refine ew_name 0 rfl ?_
          refine ⟨_, _, _, rfl, hj, T.cls, T.no_top, by decide, ?_⟩
          refine sw_cons ?_
          refine sw_fld ?_
          refine ew_name 2 rfl ?_
          refine ew_name 0 rfl ?_
          refine ⟨_, _, _, rfl, List.getElem?_set_self hjl, T.cls, T.no_target, Nat.lt_of_le_of_lt (setF_len _ _ _) (by decide), ?_⟩
          refine sw_cons ?_
          refine sw_fld ?_
          refine ew_call C_normal hr (by decide) xk ?_
          refine aw_cons ?_
          refine ew_name 4 rfl ?_
          refine aw_nil ?_
          refine ⟨_, rfl, by rw [stretchF_length]; exact hlen, ?_⟩
          refine ew_name 0 rfl ?_
          refine ⟨_, _, _, rfl, List.getElem?_set_self (by rw [List.length_set]; exact hjl), T.cls, T.no_pieces, Nat.lt_of_le_of_lt (setF_len _ _ _) (Nat.lt_of_le_of_lt (Nat.succ_le_succ (setF_len _ _ _)) (by decide)), ?_⟩
          refine sw_nil ?_
          rw [List.set_set, List.set_set, setF3]
          refine ⟨_, [], (List.append_nil _).symm, by rw [List.length_set]; exact Nat.le_refl _, clos_set hcl ?_, trivial, q⟩
          intro p hp'
          simp only [List.mem_cons, List.not_mem_nil, or_false] at hp'
          rcases hp' with rfl | rfl | rfl <;> trivial
theorem F_init_ok {C CE : Addr} {st : List Ob} {t g : Int} {dp : D} {ps : List Pc} {Φ : WK} {Exc : XKD} (hc : Clos st) (ht : 0 ≤ t) (hg : 0 ≤ g) (hp : PcsD dp ps) (hl : ps.length ≤ 1000) (ha : arePieces dp t = true) (hs : stays g 0 (stretchF ps t) = true)
    (h : Φ (.dat (psgD C t g (normalF (stretchF ps t)))) st) : F_init C CE [.ptr st.length, .dat (.int t), .dat (.int g), .dat dp] (st ++ [.ins C []]) (MkK C st.length Φ) Exc := by
  refine ⟨_, _, _, _, rfl, at_end, ⟨_, rfl⟩, ⟨_, rfl⟩, ⟨?_, fun xs hx => ?_⟩, fun z => ?_, fun _ z => ?_, fun t' g' e1 e2 _ _ => ⟨fun z => ?_, fun _ ps' hp' _ => ⟨fun z => ?_, fun _ => ?_⟩⟩⟩
  · rcases hp with rfl | rfl <;> exact ⟨_, rfl⟩
  · rw [hp.seq] at hx
    cases hx
    refine ⟨by rw [List.length_map]; exact hl, fun x hx => ?_⟩
    obtain ⟨p, _, rfl⟩ := List.mem_map.mp hx
    refine ⟨⟨_, rfl⟩, fun xs e => ?_⟩
    cases e
    refine ⟨by show 3 ≤ 1000; decide, fun x hx => ?_⟩
    simp only [List.mem_cons, List.not_mem_nil, or_false] at hx
    rcases hx with rfl | rfl | rfl <;> exact ⟨_, rfl⟩
  · have : decide (0 ≤ t) = false := z
    rw [decide_eq_true ht] at this
    cases this
  · have : decide (0 ≤ g) = false := z
    rw [decide_eq_true hg] at this
    cases this
  · cases e1
    rw [ha] at z
    cases z
  all_goals
    cases e1
    cases e2
    have epp : ps' = ps := by
      have := hp'.seq.symm.trans hp.seq
      have := Option.some.inj this
      exact map_pcD_inj this
    subst epp
  · rw [hs] at z
    cases z
  · rw [set_end]
    exact ⟨rfl, st, _, rfl, rfl, hc, h⟩
end Kf
namespace Kf
open PySem PySem.Spec L2 StX ClX Dn
open PyProof.Rows hiding St
variable {P : Program} {w : World} {K : PySem.W.Frag} {mg : Str → Option Value} {base : Heap}
def tabFrom (k : Int) : List D → List Pc
  | [] => []
  | x :: xs => (k, intOf x, false) :: tabFrom (k + 1) xs
def rowsFrom (k : Int) : List D → List Row
  | [] => []
  | x :: xs => (k, k, intOf x, false) :: rowsFrom (k + 1) xs
theorem tabFrom_length : ∀ (k : Int) (xs : List D), (tabFrom k xs).length = xs.length
  | _, [] => rfl
  | k, x :: xs => by
    show (tabFrom (k + 1) xs).length + 1 = _
    rw [tabFrom_length (k + 1) xs]
    rfl
theorem tabFrom_get : ∀ (k : Int) (xs : List D) (i : Nat) (x : D), xs[i]? = some x → (tabFrom k xs)[i]? = some (k + i, intOf x, false)
  | k, y :: xs, 0, x, h => by
    simp at h
    subst h
    show some (k, intOf y, false) = some (k + ((0 : Nat) : Int), intOf y, false)
    simp
  | k, y :: xs, i + 1, x, h => by
    have h2 := tabFrom_get (k + 1) xs i x (by simpa using h)
    show (tabFrom (k + 1) xs)[i]? = _
    rw [h2]
    have : k + 1 + (i : Int) = k + ((i + 1 : Nat) : Int) := by omega
    rw [this]
theorem stretch_tab : ∀ (k : Int) (xs : List D), stretchF (tabFrom k xs) (k + (xs.length : Int) - 1) = rowsFrom k xs
  | k, [] => rfl
  | k, [x] => by
    show [(k, k + ((0 + 1 : Nat) : Int) - 1, intOf x, false)] = [(k, k, intOf x, false)]
    have : k + ((0 + 1 : Nat) : Int) - 1 = k := by omega
    rw [this]
  | k, x :: y :: xs => by
    have h := stretch_tab (k + 1) (y :: xs)
    have e : k + ((x :: y :: xs).length : Int) - 1 = k + 1 + ((y :: xs).length : Int) - 1 := by
      rw [List.length_cons]
      omega
    rw [e]
    show (k, k + 1 - 1, intOf x, false) :: stretchF (tabFrom (k + 1) (y :: xs)) (k + 1 + ((y :: xs).length : Int) - 1) = (k, k, intOf x, false) :: rowsFrom (k + 1) (y :: xs)
    rw [h, Int.add_sub_cancel]
theorem stays_tab (g : Int) : ∀ (xs : List D) (k last : Int), (∀ x, xs.head? = some x → last ≤ intOf x) → (∀ i x y, xs[i]? = some x → xs[i + 1]? = some y → intOf x ≤ intOf y) → (∀ x ∈ xs, intOf x ≤ g) → last ≤ g → stays g last (rowsFrom k xs) = true
  | [], k, last, _, _, _, h => decide_eq_true h
  | x :: xs, k, last, h1, h2, h3, _ => by
    show (if intOf x < last then false else stays g (lastRow (k, k, intOf x, false)) (rowsFrom (k + 1) xs)) = true
    have := h1 x rfl
    rw [if_neg (by omega)]
    exact stays_tab g xs (k + 1) (intOf x) (fun y hy => by
      cases xs with
      | nil => cases hy
      | cons z r =>
        cases hy
        exact h2 0 x _ rfl rfl) (fun i a b ha hb => h2 (i + 1) a b (by simpa using ha) (by simpa using hb)) (fun y hy => h3 y (List.mem_cons_of_mem _ hy)) (h3 x List.mem_cons_self)
theorem isTable_tells {d : D} {g : Int} {xs : List D} (h : isTable d g = true) (hs : seqOf d = some xs) : xs ≠ [] ∧ (∀ x ∈ xs, ∃ z, x = .int z ∧ 0 ≤ z ∧ z ≤ g) ∧ ∀ (i : Nat) (x y : D), xs[i]? = some x → xs[i + 1]? = some y → intOf x ≤ intOf y := by
  unfold isTable at h
  rw [hs] at h
  simp only [Bool.and_eq_true] at h
  obtain ⟨⟨h1, h2⟩, h3⟩ := h
  refine ⟨?_, fun x hx => ?_, fun i x y hx hy => ?_⟩
  · rintro rfl
    cases h1
  · have := List.all_eq_true.mp h2 (isVal x g) (List.mem_map_of_mem hx)
    obtain ⟨z, rfl⟩ : ∃ z, x = .int z := by
      cases x <;> first | exact ⟨_, rfl⟩ | cases this
    have : (decide (0 ≤ z) && decide (z ≤ g)) = true := this
    rw [Bool.and_eq_true] at this
    exact ⟨z, rfl, of_decide_eq_true this.1, of_decide_eq_true this.2⟩
  · have hi : i + 1 < xs.length := (List.getElem?_eq_some_iff.mp hy).1
    have := List.all_eq_true.mp h3 (decide (intOf (xs.getD i .non) ≤ intOf (xs.getD (i + 1) .non))) (by
      unfold ascB
      exact List.mem_map_of_mem (List.mem_range.mpr (by omega)))
    rw [List.getD_eq_getElem?_getD, List.getD_eq_getElem?_getD, hx, hy] at this
    exact of_decide_eq_true this
theorem tab_starts (xs : List D) : (tabFrom 0 xs).map (·.1) = (List.range xs.length).map fun (i : Nat) => (i : Int) := by
  apply List.ext_getElem?
  intro i
  rw [List.getElem?_map, List.getElem?_map]
  by_cases hi : i < xs.length
  · rw [tabFrom_get 0 xs i xs[i] (List.getElem?_eq_getElem hi), List.getElem?_range hi]
    simp
  · rw [List.getElem?_eq_none (by rw [tabFrom_length]; omega), List.getElem?_eq_none (by rw [List.length_range]; omega)]
    rfl
theorem tab_pieces {xs : List D} {t : Int} (hne : xs ≠ []) (h : ∀ x ∈ xs, ∃ z, x = .int z ∧ 0 ≤ z) (ht : (xs.length : Int) - 1 ≤ t) : arePieces (.lst ((tabFrom 0 xs).map pcD)) t = true := by
  have hp : 0 < xs.length := List.length_pos_iff.mpr hne
  unfold arePieces
  show (!((tabFrom 0 xs).map pcD).isEmpty && (((tabFrom 0 xs).map pcD).map isPieceD).all id && !(!decide ((((tabFrom 0 xs).map pcD).map startOf).headD 0 = 0) || decide (t < (((tabFrom 0 xs).map pcD).map startOf).getLastD 0)) && (ascS (((tabFrom 0 xs).map pcD).map startOf)).all id) = true
  have es : ((tabFrom 0 xs).map pcD).map startOf = (List.range xs.length).map fun (i : Nat) => (i : Int) := by
    rw [← tab_starts, List.map_map]
    rfl
  have e1 : ((tabFrom 0 xs).map pcD).isEmpty = false := by
    cases xs with
    | nil => exact absurd rfl hne
    | cons x r => rfl
  have e2 : (((tabFrom 0 xs).map pcD).map isPieceD).all id = true := by
    rw [List.all_eq_true]
    intro b hb
    rw [List.map_map] at hb
    obtain ⟨p, hp', rfl⟩ := List.mem_map.mp hb
    obtain ⟨i, hi, e⟩ := List.mem_iff_getElem.mp hp'
    rw [tabFrom_length] at hi
    have := tabFrom_get 0 xs i xs[i] (List.getElem?_eq_getElem hi)
    rw [List.getElem?_eq_getElem (by rw [tabFrom_length]; exact hi), e] at this
    have := Option.some.inj this
    subst this
    obtain ⟨z, hz, hz0⟩ := h xs[i] (List.getElem_mem _)
    rw [hz]
    show (decide ((0 : Int) ≤ 0 + (i : Int)) && decide (0 ≤ z)) = true
    rw [decide_eq_true hz0, decide_eq_true (by omega)]
    rfl
  have e3 : ((List.range xs.length).map fun (i : Nat) => (i : Int)).headD 0 = 0 := by
    obtain ⟨n, hn⟩ : ∃ n, xs.length = n + 1 := ⟨xs.length - 1, by omega⟩
    rw [hn, List.range_succ_eq_map]
    rfl
  have e4 : ((List.range xs.length).map fun (i : Nat) => (i : Int)).getLastD 0 = (xs.length : Int) - 1 := by
    obtain ⟨n, hn⟩ : ∃ n, xs.length = n + 1 := ⟨xs.length - 1, by omega⟩
    rw [hn, List.range_succ, List.map_append, List.getLastD_eq_getLast?]
    simp
  have e5 : (ascS ((List.range xs.length).map fun (i : Nat) => (i : Int))).all id = true := by
    rw [List.all_eq_true]
    intro b hb
    unfold ascS at hb
    obtain ⟨i, hi, rfl⟩ := List.mem_map.mp hb
    rw [List.length_map, List.length_range, List.mem_range] at hi
    rw [List.getD_eq_getElem?_getD, List.getD_eq_getElem?_getD, List.getElem?_map, List.getElem?_map, List.getElem?_range (by omega), List.getElem?_range (by omega)]
    exact decide_eq_true (by show (i : Int) < ((i + 1 : Nat) : Int); omega)
  have e6 : decide (t < (xs.length : Int) - 1) = false := decide_eq_false (by omega)
  rw [es, e1, e2, e3, e4, e5, e6]
  rfl
theorem isTable_pos {d : D} {g : Int} {xs : List D} (h : isTable d g = true) (hs : seqOf d = some xs) : stays g 0 (stretchF (tabFrom 0 xs) ((xs.length : Int) - 1)) = true := by
  obtain ⟨hne, h1, h2⟩ := isTable_tells h hs
  have := stretch_tab 0 xs
  rw [Int.zero_add] at this
  rw [this]
  refine stays_tab g xs 0 0 (fun x hx => ?_) h2 (fun x hx => ?_) ?_
  · obtain ⟨z, rfl, hz, _⟩ := h1 x (List.mem_of_head? hx)
    exact hz
  · obtain ⟨z, rfl, _, hz⟩ := h1 x hx
    exact hz
  · obtain ⟨x, r, rfl⟩ := List.exists_cons_of_ne_nil hne
    obtain ⟨z, _, hz, hz2⟩ := h1 x List.mem_cons_self
    omega
def F_table (C CE : Addr) : FT := fun args st Ret Exc => ∃ dv dg, args = [.dat (.adr C), .dat dv, .dat dg] ∧ (∃ n, tyOf dv = some n) ∧ (∀ xs, seqOf dv = some xs → xs.length ≤ 1000 ∧ ∀ x ∈ xs, ∃ t, tyOf x = some t) ∧ (∃ n, tyOf dg = some n) ∧
  (isNum dg = false → Exc (.ref CE) [("word", .str "target")] st) ∧
  (∀ g, dg = .int g → 0 ≤ g → (isTable dv g = false → Exc (.ref CE) [("word", .str "values")] st) ∧
    (isTable dv g = true → ∀ xs, seqOf dv = some xs → Ret (.dat (psgD C ((xs.length : Int) - 1) g (normalF (rowsFrom 0 xs)))) st))
theorem ok_table {f C CE : Addr} {fd : FuncData} (B : Bl mg) {fI : Addr} (TE : PySem.LowX_ip.LowTxt K mg CE fI) (C_is_number : Cal P w K mg base 1 "is_number" F_is_number) (C_is_table : Cal P w K mg base 3 "is_table" F_is_table)
    (M : Mak P w K mg base 4 "Passage" C (F_init C CE)) (Fn : Fun K "table" "Passage.table" s_table f fd) (b : Binds K fd p_table []) : FnG P w K mg base (L2.CX P w) 6 f (spD K (F_table C CE)) := by
  refine fnD Fn sc_table b (fun args st0 Ret Exc h => ?_) ?_
  · obtain ⟨dv, dg, rfl, _⟩ := h
    rfl
  intro cdv A outer s H E H0 Al args st0 Ret Exc hr xk hp hal hcl hF
  obtain ⟨dv, dg, rfl, ⟨n1, hn1⟩, hk, ⟨n2, hn2⟩, x1, x2⟩ := hF
  refine sw_cons ?_
  refine sw_if ?_
  refine tw_not ?_
  refine tw_val ?_
  refine ew_call C_is_number hr (by decide) xk ?_
  refine aw_cons ?_
  refine ew_name 2 rfl ?_
  refine aw_nil ?_
  refine ⟨dg, n2, rfl, hn2, ?_⟩
  refine ⟨_, rfl, ?_⟩
  refine ifN (fun h1 => ?_) (fun h1 => ?_)
  · refine sw_cons ?_
    refine sw_raise1 (mkErr_ip TE) hr xk ?_
    refine ew_str ?_
    exact ⟨_, rfl, kxE_of hcl (x1 h1)⟩
  · obtain ⟨g, rfl, hg⟩ := isNum_eq h1
    obtain ⟨y1, y2⟩ := x2 g rfl hg
    refine sw_nil ?_
    refine sw_cons ?_
    refine sw_if ?_
    refine tw_not ?_
    refine tw_val ?_
    refine ew_call C_is_table hr (by decide) xk ?_
    refine aw_cons ?_
    refine ew_name 1 rfl ?_
    refine aw_cons ?_
    refine ew_name 2 rfl ?_
    refine aw_nil ?_
    refine ⟨dv, n1, g, rfl, hn1, hk, ?_⟩
    refine ⟨_, rfl, ?_⟩
    refine ifN (fun h2 => ?_) (fun h2 => ?_)
    · refine sw_cons ?_
      refine sw_raise1 (mkErr_ip TE) hr xk ?_
      refine ew_str ?_
      exact ⟨_, rfl, kxE_of hcl (y1 h2)⟩
    · obtain ⟨xs, hxs⟩ : ∃ xs, seqOf dv = some xs := by
        unfold isTable at h2
        cases hs : seqOf dv with
        | none => rw [hs] at h2; cases h2
        | some xs => exact ⟨xs, rfl⟩
      have q := y2 h2 xs hxs
      obtain ⟨hlen, _⟩ := hk xs hxs
      obtain ⟨hne, hz, hasc⟩ := isTable_tells h2 hxs
      have hpos : 0 < xs.length := List.length_pos_iff.mpr hne
      have hL : ∀ st, Len st (.dat dv) = some xs.length := fun st => by cases dv <;> first | (cases hxs; rfl) | cases hxs
      refine sw_nil ?_
      refine sw_cons ?_
      refine sw_ret ?_
      refine ew_mkL 0 rfl M hr (by decide) xk ?_
      refine aw_cons ?_
      refine ew_bin ?_
      refine ew_blt bt_len B.len ?_
      refine aw_cons ?_
      refine ew_name 1 rfl ?_
      refine aw_nil ?_
      refine c_len (hL _) ?_
      refine ew_int ?_
      refine o_sub ?_
      refine aw_cons ?_
      refine ew_name 2 rfl ?_
      refine aw_cons ?_
      refine ew_lc (own := [("x", 3), ("value", 4)]) (tb := true) (is := [3, 4]) rfl sc_table.nd (blkOk_by (N := n_table) (sc := defScope s_table) (by decide +kernel)) (fun _ _ _ _ _ => pg_tup rfl (pgs_cons (pg_name (i := 3) sc_table.nd rfl (Or.inl rfl)) (pgs_cons (pg_name (i := 4) sc_table.nd rfl (Or.inl rfl)) (pgs_nil)))) (by decide) ?_
      refine lcj_pure ((tabFrom 0 xs).map pcD) (szl (by rw [List.length_map, tabFrom_length]; omega)) ?_ ?_
      · cases dv <;> first | (cases hxs; done) | cases hxs
        all_goals first | (refine iw_enum B.enumerate ?_; refine aw_cons ?_; refine ew_name 1 rfl ?_; refine aw_nil ?_; refine ⟨_, rfl, rfl, by rw [enm_length, List.length_map, tabFrom_length], fun k w' y hw hy => ?_⟩) | (refine iw_enumT B.enumerate ?_; refine aw_cons ?_; refine ew_name 1 rfl ?_; refine aw_nil ?_; refine ⟨_, rfl, rfl, by rw [enm_length, List.length_map, tabFrom_length], fun k w' y hw hy => ?_⟩)
        all_goals
          obtain ⟨x, hxk, rfl⟩ := getElem?_enm hw
          refine ⟨_, rfl, ?_⟩
          rw [List.getElem?_map, tabFrom_get 0 xs k x hxk] at hy
          have ey : y = pcD (0 + (k : Int), intOf x, false) := (Option.some.inj hy).symm
          subst ey
          obtain ⟨z, rfl, _⟩ := hz x (List.mem_of_getElem? hxk)
          intro G1 sb Hb Cb cl fp
          refine ew_tup ?_
          refine aw_cons ?_
          refine ew_name 3 rfl ?_
          refine aw_cons ?_
          refine ew_name 4 rfl ?_
          refine aw_cons ?_
          refine ew_bl ?_
          refine aw_nil ?_
          refine ⟨_, rfl, (by show 3 ≤ sizeLine; decide), ?_, rfl⟩
          rw [Int.zero_add]
          rfl
      · refine aw_nil ?_
        have est : stretchF (tabFrom 0 xs) ((xs.length : Int) - 1) = rowsFrom 0 xs := by
          have := stretch_tab 0 xs
          rwa [Int.zero_add] at this
        refine F_init_ok hcl (by omega) hg (.inl rfl) (by rw [tabFrom_length]; exact hlen) (tab_pieces hne (fun x hx => let ⟨z, e, h0, _⟩ := hz x hx; ⟨z, e, h0⟩) (Int.le_refl _)) (isTable_pos h2 hxs) ?_
        rw [est]
        exact krE_of hcl q
def F_same (C : Addr) : FT := fun args st Ret _ => ∃ n : Int, args = [.dat (.adr C), .dat (.int n)] ∧ 0 ≤ n ∧ Ret (.dat (psgD C n n [(0, 0, decide (0 < n))])) st
theorem ok_same {f C CE : Addr} {fd : FuncData} (M : Mak P w K mg base 4 "Passage" C (F_init C CE)) (Fn : Fun K "same" "Passage.same" s_same f fd) (b : Binds K fd p_same []) : FnG P w K mg base (L2.CX P w) 6 f (spD K (F_same C)) := by
  refine fnD Fn sc_same b (fun args st0 Ret Exc h => ?_) ?_
  · obtain ⟨n, rfl, _⟩ := h
    rfl
  intro cdv A outer s H E H0 Al args st0 Ret Exc hr xk hp hal hcl hF
  obtain ⟨n, rfl, hn, q⟩ := hF
  refine sw_cons ?_
  refine sw_ret ?_
  refine ew_mkL 0 rfl M hr (by decide) xk ?_
  refine aw_cons ?_
  refine ew_name 1 rfl ?_
  refine aw_cons ?_
  refine ew_name 1 rfl ?_
  refine aw_cons ?_
  refine ew_lst ?_
  refine aw_cons ?_
  refine ew_tup ?_
  refine aw_cons ?_
  refine ew_int ?_
  refine aw_cons ?_
  refine ew_int ?_
  refine aw_cons ?_
  refine ew_bl ?_
  refine aw_nil ?_
  refine ⟨_, rfl, (by show 3 ≤ sizeLine; decide), ?_⟩
  refine aw_nil ?_
  refine ⟨_, rfl, (by show 1 ≤ sizeLine; decide), ?_⟩
  refine aw_nil ?_
  have e1 : normalF (stretchF [((0 : Int), (0 : Int), true)] n) = [(0, 0, decide (0 < n))] := by
    show (nstep ([], 0, none) (0, n, 0, true)).1 = _
    unfold nstep nfin nps nsl nlow joins
    simp only [List.isEmpty_nil, Bool.not_true, Bool.false_and, Bool.false_eq_true, if_false, if_pos hn]
    by_cases h : 0 < n
    · rw [if_pos h, decide_eq_true h]
      rfl
    · rw [if_neg h, decide_eq_false h]
      rfl
  refine F_init_ok (ps := [(0, 0, true)]) hcl hn hn (.inl rfl) (by decide) ?_ ?_ ?_
  · unfold arePieces
    show (true && (true && true) && !(!decide ((0 : Int) = 0) || decide (n < 0)) && true) = true
    have e : decide (n < 0) = false := decide_eq_false (by omega)
    rw [e]
    rfl
  · show (if (0 : Int) < 0 then false else decide (lastRow (0, n, 0, true) ≤ n)) = true
    rw [if_neg (by decide)]
    refine decide_eq_true ?_
    show (0 : Int) + (n - 0) ≤ n
    omega
  · rw [e1]
    exact krE_of hcl q
def F_pcall (C : Addr) : FT := fun args st Ret _ => ∃ t g ps x, args = [.dat (psgD C t g ps), .dat (.int x)] ∧ 0 ≤ x ∧ x ≤ t ∧ ps ≠ [] ∧ ps.length ≤ 1000 ∧ Ret (.dat (.int (valAt ps x))) st
theorem ok_pcall {f C : Addr} {fd : FuncData} (T : PTxt K C) (C_is_value : Cal P w K mg base 2 "is_value" F_is_value) (C_value_at : Cal P w K mg base 1 "value_at" F_value_at) (Fn : Fun K "__call__" "Passage.__call__" s_call f fd) (b : Binds K fd p_call []) : FnG P w K mg base (L2.CX P w) 3 f (spD K (F_pcall C)) := by
  refine fnD Fn sc_call b (fun args st0 Ret Exc h => ?_) ?_
  · obtain ⟨t, g, ps, x, rfl, _⟩ := h
    rfl
  intro cdv A outer s H E H0 Al args st0 Ret Exc hr xk hp hal hcl hF
  obtain ⟨t, g, ps, x, rfl, h0, h1, hne, hlen, q⟩ := hF
  refine sw_cons ?_
  refine sw_if ?_
  refine tw_not ?_
  refine tw_val ?_
  refine ew_call C_is_value hr (by decide) xk ?_
  refine aw_cons ?_
  refine ew_name 1 rfl ?_
  refine aw_cons ?_
  refine ew_fld ?_
  refine ew_name 0 rfl ?_
  refine ⟨_, _, _, rfl, T.cls, T.no_top, fsP_top t g ps, ?_⟩
  refine aw_nil ?_
  refine ⟨_, _, _, rfl, rfl, ?_⟩
  refine ⟨_, rfl, ?_⟩
  have hv : isVal (.int x) t = true := by
    show (decide (0 ≤ x) && decide (x ≤ t)) = true
    rw [decide_eq_true h0, decide_eq_true h1]
    rfl
  refine ifF (by rw [hv]; rfl) ?_
  refine sw_nil ?_
  refine sw_cons ?_
  refine sw_ret ?_
  refine ew_call C_value_at hr (by decide) xk ?_
  refine aw_cons ?_
  refine ew_fld ?_
  refine ew_name 0 rfl ?_
  refine ⟨_, _, _, rfl, T.cls, T.no_pieces, fsP_pieces t g ps, ?_⟩
  refine aw_cons ?_
  refine ew_name 1 rfl ?_
  refine aw_nil ?_
  exact ⟨_, ps, x, rfl, .inr rfl, hne, hlen, krE_of hcl q⟩
end Kf
namespace Kf
open PySem PySem.Spec L2 StX ClX Dn
open PyProof.Rows hiding St
variable {P : Program} {w : World} {K : PySem.W.Frag} {mg : Str → Option Value} {base : Heap}
theorem krE_set {st st' : List Ob} {Ret : WK} {d : D} (hl : st.length = st'.length) (hc : Clos st') (h : Ret (.dat d) st') : KrE st Ret (.dat d) st' := ⟨st', [], by simp, Nat.le_of_eq hl, hc, trivial, h⟩
theorem fmod_rng {i m : Int} (h : 0 < m) : 0 ≤ i.fmod m ∧ i.fmod m < m := ⟨Int.fmod_nonneg_of_pos _ h, Int.fmod_lt_of_pos _ h⟩end Kf
namespace Kf
open PySem PySem.Spec L2 StX ClX Dn
open PyProof.Rows hiding St
variable {P : Program} {w : World} {K : PySem.W.Frag} {mg : Str → Option Value} {base : Heap}
theorem set_self {st : List Ob} {j : Nat} {o : Ob} (h : st[j]? = some o) : st.set j o = st := by
  obtain ⟨h1, h2⟩ := List.getElem?_eq_some_iff.mp h
  rw [← h2]
  exact List.set_getElem_self h1
theorem set_app {st g : List Ob} {j : Nat} {o : Ob} (h : j < st.length) : (st ++ g).set j o = st.set j o ++ g := List.set_append_left _ _ h
theorem cutL_from {α : Type} (xs : List α) (k : Nat) : cutL xs (some (k : Int)) none = xs.drop k := by
  unfold cutL
  rw [HT.sIx_none, HT.sIx_nat]
  by_cases h : k ≤ xs.length
  · rw [Nat.min_eq_left h, List.take_of_length_le (by rw [List.length_drop]; exact Nat.le_refl _)]
  · rw [Nat.min_eq_right (by omega), List.drop_length, List.drop_eq_nil_of_le (by omega), List.take_nil]
theorem cutL_to {α : Type} (xs : List α) (k : Nat) : cutL xs none (some (k : Int)) = xs.take k := by
  unfold cutL
  rw [HT.sIx_none, HT.sIx_nat, List.drop_zero, Nat.sub_zero]
  by_cases h : k ≤ xs.length
  · rw [Nat.min_eq_left h]
  · rw [Nat.min_eq_right (by omega), List.take_length, List.take_of_length_le (by omega)]
abbrev obW (zs : List Int) : Ob := .lst ((zs.map D.int).map W.dat)
theorem datsInt : ∀ (zs : List Int), datsOf ((zs.map D.int).map W.dat) = some (zs.map D.int)
  | [] => rfl
  | z :: zs => by
    show (datsOf ((zs.map D.int).map W.dat)).map _ = _
    rw [datsInt zs]
    rfl
theorem canLay_ints : ∀ zs : List Int, PyData.canLayAll0 (zs.map PyData.int) = true
  | [] => rfl
  | z :: zs => by
    simp only [List.map_cons, PyData.canLayAll0, PyData.canLay0, canLay_ints zs, Bool.and_self]
theorem depth_ints : ∀ zs : List Int, PyData.depthAll (zs.map PyData.int) = 0
  | [] => rfl
  | z :: zs => by
    simp only [List.map_cons, PyData.depthAll, PyData.depth, depth_ints zs, Nat.max_self]
theorem shaped_ints (zs : List Int) : SeqAt.shaped (.list (zs.map PyData.int)) = true := by
  unfold SeqAt.shaped
  simp [PyData.canLay0, PyData.depth, canLay_ints, depth_ints]
theorem toPys_ints : ∀ zs : List Int, toPys (zs.map D.int) = some (zs.map PyData.int)
  | [] => rfl
  | z :: zs => by
    show (match toPy (.int z) with | none => none | some p => (toPys (zs.map D.int)).map (p :: ·)) = _
    rw [toPys_ints zs]
    rfl
theorem toPy_ints (zs : List Int) : toPy (.lst (zs.map D.int)) = some (.list (zs.map PyData.int)) := by
  show (toPys (zs.map D.int)).map _ = _
  rw [toPys_ints]
  rfl
theorem eqv_nil (ps : List PyData) : PyData.eqv (.list ps) (.list []) = ps.isEmpty := by
  cases ps <;> rfl
theorem set_take_drop {α : Type} {xs : List α} {n : Nat} (h : n < xs.length) (x : α) : xs.take n ++ [x] ++ xs.drop (n + 1) = xs.set n x := by
  rw [List.set_eq_take_append_cons_drop, if_pos h]
  simp
end Kf
namespace Kf
open PySem PySem.Spec L2 StX ClX Dn
open PyProof.Rows hiding St
variable {P : Program} {w : World} {K : PySem.W.Frag} {mg : Str → Option Value} {base : Heap}
def TabZ (g : Int) (zs : List Int) : Prop := (∀ z ∈ zs, 0 ≤ z ∧ z ≤ g) ∧ ∀ (i : Nat) (x y : Int), zs[i]? = some x → zs[i + 1]? = some y → x ≤ y
theorem tabZ_add {g : Int} {zs : List Int} {x : Int} (h : TabZ g zs) (hx : 0 ≤ x ∧ x ≤ g) (hl : ∀ z, zs.getLast? = some z → z ≤ x) : TabZ g (zs ++ [x]) := by
  refine ⟨fun z hz => ?_, fun i a b ha hb => ?_⟩
  · rcases List.mem_append.mp hz with z1 | z1
    · exact h.1 z z1
    · rcases List.mem_singleton.mp z1 with rfl
      exact hx
  · have hi := (List.getElem?_eq_some_iff.mp hb).1
    rw [List.length_append, List.length_singleton] at hi
    by_cases h1 : i + 1 < zs.length
    · rw [List.getElem?_append_left (by omega)] at ha
      rw [List.getElem?_append_left h1] at hb
      exact h.2 i a b ha hb
    · have e : i + 1 = zs.length := by omega
      rw [List.getElem?_append_left (by omega)] at ha
      rw [e, List.getElem?_append_right (Nat.le_refl _), Nat.sub_self] at hb
      have hb : x = b := Option.some.inj hb
      subst hb
      refine hl a ?_
      rw [List.getLast?_eq_getElem?, ← e]
      exact ha
theorem tabZ_last {g : Int} {zs : List Int} (h : TabZ g zs) (hg : 0 ≤ g) (n : Nat) (hn : zs.length = n + 1) : TabZ g (zs.set n g) := by
  refine ⟨fun z hz => ?_, fun i a b ha hb => ?_⟩
  · rcases List.mem_or_eq_of_mem_set hz with z1 | rfl
    · exact h.1 z z1
    · exact ⟨hg, Int.le_refl _⟩
  · have hi := (List.getElem?_eq_some_iff.mp hb).1
    rw [List.length_set] at hi
    rw [List.getElem?_set_ne (by omega)] at ha
    by_cases h1 : i + 1 = n
    · rw [h1, List.getElem?_set_self (by omega)] at hb
      cases hb
      exact (h.1 a (List.mem_of_getElem? ha)).2
    · rw [List.getElem?_set_ne (by omega)] at hb
      exact h.2 i a b ha hb
theorem tabZ_zero {g : Int} {zs : List Int} (h : TabZ g zs) (hg : 0 ≤ g) : TabZ g (0 :: zs.drop 1) := by
  refine ⟨fun z hz => ?_, fun i a b ha hb => ?_⟩
  · rcases List.mem_cons.mp hz with rfl | hz
    · exact ⟨Int.le_refl _, hg⟩
    · exact h.1 z (List.mem_of_mem_drop hz)
  · cases i with
    | zero =>
      cases ha
      rw [List.getElem?_cons_succ] at hb
      exact (h.1 b (List.mem_of_mem_drop (List.mem_of_getElem? hb))).1
    | succ i =>
      rw [List.getElem?_cons_succ, List.getElem?_drop] at ha hb
      exact h.2 (1 + i) a b ha (by rw [← hb]; congr 1)end Kf
namespace Kf
open PySem PySem.Spec L2 StX ClX Dn
open PyProof.Rows hiding St
variable {P : Program} {w : World} {K : PySem.W.Frag} {mg : Str → Option Value} {base : Heap}
theorem isTable_tabZ {g : Int} {zs : List Int} (h : TabZ g zs) (hne : zs ≠ []) {d : D} (hd : seqOf d = some (zs.map D.int)) : isTable d g = true := by
  unfold isTable
  rw [hd]
  have e1 : (zs.map D.int).isEmpty = false := by
    cases zs with
    | nil => exact absurd rfl hne
    | cons z r => rfl
  have e2 : ((zs.map D.int).map (isVal · g)).all id = true := by
    rw [List.all_eq_true]
    intro b hb
    rw [List.map_map] at hb
    obtain ⟨z, hz, rfl⟩ := List.mem_map.mp hb
    have := h.1 z hz
    show (decide (0 ≤ z) && decide (z ≤ g)) = true
    rw [decide_eq_true this.1, decide_eq_true this.2]
    rfl
  have e3 : (ascB (zs.map D.int)).all id = true := by
    rw [List.all_eq_true]
    intro b hb
    unfold ascB at hb
    obtain ⟨i, hi, rfl⟩ := List.mem_map.mp hb
    rw [List.length_map, List.mem_range] at hi
    have h1 : zs[i]? = some zs[i] := List.getElem?_eq_getElem (by omega)
    have h2 : zs[i + 1]? = some zs[i + 1] := List.getElem?_eq_getElem (by omega)
    rw [List.getD_eq_getElem?_getD, List.getD_eq_getElem?_getD, List.getElem?_map, List.getElem?_map, h1, h2]
    exact decide_eq_true (h.2 i _ _ h1 h2)
  simp only [e1, e2, e3]
  rfl
def fallsB (zs : List Int) (n : Nat) : List Bool := (List.range n).map fun i => decide (zs.getD (i + 1) 0 < zs.getD i 0)
def fallsL (zs : List Int) (n : Nat) : List Int := (((fallsB zs n).zip ((List.range n).map fun (i : Nat) => (i : Int))).filter (·.1)).map (·.2)
theorem zip_map2 {α β γ : Type} (f : β → γ) : ∀ (bs : List α) (ys : List β), bs.zip (ys.map f) = (bs.zip ys).map fun p => (p.1, f p.2)
  | [], _ => by simp
  | _ :: _, [] => by simp
  | b :: bs, y :: ys => by simp [zip_map2 f bs ys]
theorem fallsL_map (zs : List Int) (n : Nat) : (((fallsB zs n).zip ((List.range n).map fun (i : Nat) => D.int (i : Int))).filter (·.1)).map (·.2) = (fallsL zs n).map D.int := by
  have e : ((List.range n).map fun (i : Nat) => D.int (i : Int)) = ((List.range n).map fun (i : Nat) => (i : Int)).map D.int := by
    rw [List.map_map]
    rfl
  unfold fallsL
  rw [e, zip_map2, List.filter_map, List.map_map, List.map_map]
  rfl
theorem fallsL_nil {zs : List Int} {n : Nat} (h : (fallsL zs n).isEmpty = true) : ∀ i, i < n → zs.getD i 0 ≤ zs.getD (i + 1) 0 := by
  intro i hi
  rw [List.isEmpty_iff] at h
  unfold fallsL at h
  rw [List.map_eq_nil_iff, List.filter_eq_nil_iff] at h
  have h1 : (fallsB zs n)[i]? = some (decide (zs.getD (i + 1) 0 < zs.getD i 0)) := by
    unfold fallsB
    rw [List.getElem?_map, List.getElem?_range hi]
    rfl
  have h2 : ((List.range n).map fun (i : Nat) => (i : Int))[i]? = some (i : Int) := by
    rw [List.getElem?_map, List.getElem?_range hi]
    rfl
  have := h (decide (zs.getD (i + 1) 0 < zs.getD i 0), (i : Int)) (by
    refine List.mem_of_getElem? (i := i) ?_
    rw [List.getElem?_zip_eq_some]
    exact ⟨h1, h2⟩)
  have h3 : ¬ zs.getD (i + 1) 0 < zs.getD i 0 := fun z => this (decide_eq_true z)
  omega
theorem fallsL_ne {zs : List Int} {n : Nat} (h : (fallsL zs n).isEmpty = false) : ∃ i, i < n ∧ zs.getD (i + 1) 0 < zs.getD i 0 := by
  cases e : fallsL zs n with
  | nil => rw [e] at h; cases h
  | cons y ys =>
    have hy : y ∈ fallsL zs n := by rw [e]; exact List.mem_cons_self
    unfold fallsL at hy
    obtain ⟨p, hp, rfl⟩ := List.mem_map.mp hy
    obtain ⟨hp1, hp2⟩ := List.mem_filter.mp hp
    have := (List.of_mem_zip (a := p.1) (b := p.2) hp1).1
    unfold fallsB at this
    obtain ⟨i, hi, e2⟩ := List.mem_map.mp this
    refine ⟨i, List.mem_range.mp hi, of_decide_eq_true ?_⟩
    rw [e2]
    exact hp2
theorem isTable_falls {g : Int} {zs : List Int} {n : Nat} (hn : zs.length = n + 1) (h0 : ∀ z ∈ zs, 0 ≤ z) : isTable (.lst (zs.map D.int)) g = !(!(fallsL zs n).isEmpty || decide (g < zs.getD n 0)) := by
  cases h1 : (fallsL zs n).isEmpty with
  | true =>
    have asc := fallsL_nil h1
    by_cases h2 : g < zs.getD n 0
    · rw [decide_eq_true h2]
      show _ = false
      cases ht : isTable (.lst (zs.map D.int)) g with
      | false => rfl
      | true =>
        obtain ⟨_, t2, _⟩ := isTable_tells ht rfl
        have hm : zs.getD n 0 ∈ zs := by
          rw [List.getD_eq_getElem?_getD, List.getElem?_eq_getElem (by omega)]
          exact List.getElem_mem _
        obtain ⟨z, e, _, h3⟩ := t2 (.int (zs.getD n 0)) (List.mem_map_of_mem hm)
        cases e
        omega
    · rw [decide_eq_false h2]
      show _ = true
      have mono : ∀ k i, i + k = n → zs.getD i 0 ≤ zs.getD n 0 := by
        intro k
        induction k with
        | zero => intro i hi; rw [show i = n by omega]; exact Int.le_refl _
        | succ k ih =>
          intro i hi
          have a1 := asc i (by omega)
          have a2 := ih (i + 1) (by omega)
          omega
      refine isTable_tabZ (zs := zs) ⟨fun z hz => ⟨h0 z hz, ?_⟩, fun i x y hx hy => ?_⟩ (fun e => by rw [e] at hn; cases hn) rfl
      · obtain ⟨i, hi, e⟩ := List.mem_iff_getElem.mp hz
        have := mono (n - i) i (by omega)
        rw [List.getD_eq_getElem?_getD, List.getElem?_eq_getElem hi, e] at this
        have : z ≤ zs.getD n 0 := this
        omega
      · have hi := (List.getElem?_eq_some_iff.mp hy).1
        have := asc i (by omega)
        rw [List.getD_eq_getElem?_getD, List.getD_eq_getElem?_getD, hx, hy] at this
        exact this
  | false =>
    show _ = false
    obtain ⟨i, hi, hlt⟩ := fallsL_ne h1
    cases ht : isTable (.lst (zs.map D.int)) g with
    | false => rfl
    | true =>
      obtain ⟨_, _, t3⟩ := isTable_tells ht rfl
      have e1 : (zs.map D.int)[i]? = some (.int (zs.getD i 0)) := by
        rw [List.getElem?_map, List.getD_eq_getElem?_getD, List.getElem?_eq_getElem (by omega)]
        rfl
      have e2 : (zs.map D.int)[i + 1]? = some (.int (zs.getD (i + 1) 0)) := by
        rw [List.getElem?_map, List.getD_eq_getElem?_getD, List.getElem?_eq_getElem (by omega)]
        rfl
      have := t3 i _ _ e1 e2
      have : zs.getD i 0 ≤ zs.getD (i + 1) 0 := this
      omega
theorem isVal_no {x : D} {g : Int} (h : isNum x = false) : isVal x g = false := by
  cases x with
  | int i =>
    have h : decide (0 ≤ i) = false := h
    show (decide (0 ≤ i) && _) = false
    rw [h]
    rfl
  | _ => rfl
theorem isTable_no {xs : List D} {n : Nat} {x : D} {g : Int} (hn : n < xs.length) (h : isNum x = false) : isTable (.lst (xs.set n x)) g = false := by
  cases ht : isTable (.lst (xs.set n x)) g with
  | false => rfl
  | true =>
    obtain ⟨_, t2, _⟩ := isTable_tells ht rfl
    obtain ⟨z, e, h0, _⟩ := t2 x (List.mem_of_getElem? (List.getElem?_set_self hn))
    subst e
    have h : decide (0 ≤ z) = false := h
    rw [decide_eq_true h0] at h
    cases h
theorem ty_ints (zs : List Int) : ∀ x ∈ zs.map D.int, ∃ t, tyOf x = some t := fun x hx => by
  obtain ⟨z, _, rfl⟩ := List.mem_map.mp hx
  exact ⟨_, rfl⟩
theorem ty_set {xs : List D} (h : ∀ x ∈ xs, ∃ t, tyOf x = some t) {y : D} (hy : ∃ t, tyOf y = some t) (n : Nat) : ∀ x ∈ xs.set n y, ∃ t, tyOf x = some t := fun x hx => by
  rcases List.mem_or_eq_of_mem_set hx with h1 | rfl
  · exact h x h1
  · exact hy
theorem valAt_same {n : Int} (h : 0 ≤ n) : valAt [(0, 0, decide (0 < n))] n = n := by
  show (if decide (0 < n) = true then 0 + (n - 0) else 0) = n
  by_cases h2 : 0 < n
  · rw [decide_eq_true h2, if_pos rfl]
    omega
  · rw [decide_eq_false h2, if_neg Bool.false_ne_true]
    omega
end Kf
namespace Kf
open PySem PySem.Spec L2 StX ClX Dn
open PyProof.Rows hiding St
variable {P : Program} {w : World} {K : PySem.W.Frag} {mg : Str → Option Value} {base : Heap}
def runR : Int → List Row → Option Int
  | l, [] => some l
  | l, r :: rs => if r.2.2.1 < l then none else runR (lastRow r) rs
theorem stays_run (g : Int) : ∀ (rs : List Row) (l : Int), stays g l rs = match runR l rs with
    | some m => decide (m ≤ g)
    | none => false
  | [], l => rfl
  | r :: rs, l => by
    unfold stays runR
    by_cases h : r.2.2.1 < l
    · rw [if_pos h, if_pos h]
    · rw [if_neg h, if_neg h]
      exact stays_run g rs (lastRow r)
theorem runR_add : ∀ (rs : List Row) (r : Row) (l : Int), runR l (rs ++ [r]) = (runR l rs).bind fun m => if r.2.2.1 < m then none else some (lastRow r)
  | [], r, l => rfl
  | q :: rs, r, l => by
    show runR l (q :: (rs ++ [r])) = _
    unfold runR
    by_cases h : q.2.2.1 < l
    · rw [if_pos h, if_pos h]
      rfl
    · rw [if_neg h, if_neg h]
      exact runR_add rs r (lastRow q)
theorem stretch_add : ∀ (ps : List Pc) (p : Pc) (t : Int), stretchF (ps ++ [p]) t = stretchF ps (p.1 - 1) ++ [(p.1, t, p.2.1, p.2.2)]
  | [], p, t => rfl
  | [q], p, t => rfl
  | q :: r :: ps, p, t => by
    have h := stretch_add (r :: ps) p t
    show (q.1, r.1 - 1, q.2.1, q.2.2) :: stretchF ((r :: ps) ++ [p]) t = (q.1, r.1 - 1, q.2.1, q.2.2) :: (stretchF (r :: ps) (p.1 - 1) ++ [(p.1, t, p.2.1, p.2.2)])
    rw [h]
def endOf (top : Int) : List Pc → Int
  | [] => top
  | q :: _ => q.1 - 1
theorem stretch_cons (p : Pc) (r : List Pc) (t : Int) : stretchF (p :: r) t = (p.1, endOf t r, p.2.1, p.2.2) :: stretchF r t := by
  cases r <;> rfl
def StOk (top : Int) (ys : List Int) : Prop := ys.head? = some 0 ∧ ys.Pairwise (· < ·) ∧ ∀ y ∈ ys, 0 ≤ y ∧ y ≤ top
theorem stOk_get {top : Int} {ys : List Int} (h : StOk top ys) {i : Nat} {x y : Int} (hx : ys[i]? = some x) (hy : ys[i + 1]? = some y) : x < y := by
  obtain ⟨h1, e1⟩ := List.getElem?_eq_some_iff.mp hx
  obtain ⟨h2, e2⟩ := List.getElem?_eq_some_iff.mp hy
  rw [← e1, ← e2]
  exact List.pairwise_iff_getElem.mp h.2.1 i (i + 1) h1 h2 (Nat.lt_succ_self i)
theorem stOk_of {top : Int} {zs ys : List Int} (hz : 0 ∈ zs) (hb : ∀ z ∈ zs, 0 ≤ z ∧ z ≤ top) (hn : zs.Nodup) (hp : ys.Perm zs) (hs : ys.Pairwise (· ≤ ·)) : StOk top ys := by
  have hb' : ∀ y ∈ ys, 0 ≤ y ∧ y ≤ top := fun y hy => hb y (hp.mem_iff.mp hy)
  have h0 : (0 : Int) ∈ ys := hp.mem_iff.mpr hz
  refine ⟨?_, ?_, hb'⟩
  · cases ys with
    | nil => cases h0
    | cons y r =>
      rcases List.mem_cons.mp h0 with e | h0
      · rw [← e]
        rfl
      · have h1 := (List.pairwise_cons.mp hs).1 0 h0
        have h2 := (hb' y List.mem_cons_self).1
        have : y = 0 := by omega
        rw [this]
        rfl
  · have hn' : ys.Nodup := hp.nodup_iff.mpr hn
    exact (List.pairwise_and_iff.mpr ⟨hs, hn'⟩).imp fun h => by
      obtain ⟨h1, h2⟩ := h
      have h2 : _ ≠ _ := h2
      omega
def PsOk (top g : Int) (ps : List Pc) : Prop := ps ≠ [] ∧ arePieces (.lst (ps.map pcD)) top = true ∧ stays g 0 (stretchF ps top) = true
theorem arePieces_of {top : Int} {ps : List Pc} (h : StOk top (ps.map (·.1))) (h1 : ∀ p ∈ ps, 0 ≤ p.2.1) : arePieces (.lst (ps.map pcD)) top = true := by
  obtain ⟨hd, hpw, hb⟩ := h
  have hne : ps ≠ [] := fun e => by rw [e] at hd; cases hd
  have es : (ps.map pcD).map startOf = ps.map (·.1) := by
    rw [List.map_map]
    rfl
  have e1 : (ps.map pcD).isEmpty = false := by
    cases ps with
    | nil => exact absurd rfl hne
    | cons x r => rfl
  have e2 : ((ps.map pcD).map isPieceD).all id = true := by
    rw [List.all_eq_true]
    intro b hb'
    rw [List.map_map] at hb'
    obtain ⟨p, hp', rfl⟩ := List.mem_map.mp hb'
    show (decide (0 ≤ p.1) && decide (0 ≤ p.2.1)) = true
    rw [decide_eq_true (hb p.1 (List.mem_map_of_mem hp')).1, decide_eq_true (h1 p hp')]
    rfl
  have e3 : decide ((ps.map (·.1)).headD 0 = 0) = true := by
    refine decide_eq_true ?_
    cases hps : ps.map (·.1) with
    | nil => rfl
    | cons x r =>
      rw [hps] at hd
      have : x = 0 := Option.some.inj hd
      rw [this]
      rfl
  have e4 : decide (top < (ps.map (·.1)).getLastD 0) = false := by
    refine decide_eq_false ?_
    have hne' : ps.map (·.1) ≠ [] := by simpa using hne
    rw [List.getLastD_eq_getLast?, List.getLast?_eq_some_getLast hne']
    have := (hb _ (List.getLast_mem hne')).2
    show ¬ top < (ps.map (·.1)).getLast hne'
    omega
  have e5 : (ascS (ps.map (·.1))).all id = true := by
    rw [List.all_eq_true]
    intro b hb'
    unfold ascS at hb'
    obtain ⟨i, hi, rfl⟩ := List.mem_map.mp hb'
    rw [List.mem_range] at hi
    have g1 : (ps.map (·.1))[i]? = some (ps.map (·.1))[i] := List.getElem?_eq_getElem (by omega)
    have g2 : (ps.map (·.1))[i + 1]? = some (ps.map (·.1))[i + 1] := List.getElem?_eq_getElem (by omega)
    rw [List.getD_eq_getElem?_getD, List.getD_eq_getElem?_getD, g1, g2]
    exact decide_eq_true (stOk_get ⟨hd, hpw, hb⟩ g1 g2)
  unfold arePieces
  show (!(ps.map pcD).isEmpty && ((ps.map pcD).map isPieceD).all id && !(!decide (((ps.map pcD).map startOf).headD 0 = 0) || decide (top < ((ps.map pcD).map startOf).getLastD 0)) && (ascS ((ps.map pcD).map startOf)).all id) = true
  rw [es, e1, e2, e3, e4, e5]
  rfl
theorem pw_of_next : ∀ (ys : List Int), (∀ (i : Nat) (x y : Int), ys[i]? = some x → ys[i + 1]? = some y → x < y) → ys.Pairwise (· < ·)
  | [], _ => List.Pairwise.nil
  | [x], _ => List.pairwise_singleton _ _
  | x :: y :: r, h => by
    have ih := pw_of_next (y :: r) fun i a b ha hb => h (i + 1) a b (by simpa using ha) (by simpa using hb)
    refine List.pairwise_cons.mpr ⟨fun z hz => ?_, ih⟩
    have hxy := h 0 x y rfl rfl
    rcases List.mem_cons.mp hz with rfl | hz
    · exact hxy
    · have := (List.pairwise_cons.mp ih).1 z hz
      omega
theorem arePieces_tells {top : Int} {ps : List Pc} (h : arePieces (.lst (ps.map pcD)) top = true) : StOk top (ps.map (·.1)) ∧ ∀ p ∈ ps, 0 ≤ p.1 ∧ 0 ≤ p.2.1 := by
  have h : (!(ps.map pcD).isEmpty && ((ps.map pcD).map isPieceD).all id && !(!decide (((ps.map pcD).map startOf).headD 0 = 0) || decide (top < ((ps.map pcD).map startOf).getLastD 0)) && (ascS ((ps.map pcD).map startOf)).all id) = true := h
  have es : (ps.map pcD).map startOf = ps.map (·.1) := by
    rw [List.map_map]
    rfl
  rw [es] at h
  simp only [Bool.and_eq_true] at h
  obtain ⟨⟨⟨h1, h2⟩, h3⟩, h4⟩ := h
  have hne : ps ≠ [] := fun e => by rw [e] at h1; cases h1
  have hne' : ps.map (·.1) ≠ [] := by simpa using hne
  have hp : ∀ p ∈ ps, 0 ≤ p.1 ∧ 0 ≤ p.2.1 := fun p hp => by
    have := List.all_eq_true.mp h2 (isPieceD (pcD p)) (List.mem_map_of_mem (List.mem_map_of_mem hp))
    have : (decide (0 ≤ p.1) && decide (0 ≤ p.2.1)) = true := this
    rw [Bool.and_eq_true] at this
    exact ⟨of_decide_eq_true this.1, of_decide_eq_true this.2⟩
  rw [Bool.not_eq_true', Bool.or_eq_false_iff] at h3
  obtain ⟨h3, h5⟩ := h3
  have h3 : (ps.map (·.1)).headD 0 = 0 := of_decide_eq_true (by simpa using h3)
  have hpw := pw_of_next (ps.map (·.1)) fun i x y hx hy => by
    have hi := (List.getElem?_eq_some_iff.mp hy).1
    have := List.all_eq_true.mp h4 (decide ((ps.map (·.1)).getD i 0 < (ps.map (·.1)).getD (i + 1) 0)) (by
      unfold ascS
      exact List.mem_map_of_mem (List.mem_range.mpr (by omega)))
    rw [List.getD_eq_getElem?_getD, List.getD_eq_getElem?_getD, hx, hy] at this
    exact of_decide_eq_true this
  have hlast : (ps.map (·.1)).getLast hne' ≤ top := by
    have := of_decide_eq_false h5
    rw [List.getLastD_eq_getLast?, List.getLast?_eq_some_getLast hne'] at this
    have : ¬ top < (ps.map (·.1)).getLast hne' := this
    omega
  refine ⟨⟨?_, hpw, fun y hy => ?_⟩, hp⟩
  · cases hc : ps.map (·.1) with
    | nil => exact absurd hc hne'
    | cons x r =>
      rw [hc] at h3
      have h3 : x = 0 := h3
      rw [h3]
      rfl
  · obtain ⟨p, hp1, rfl⟩ := List.mem_map.mp hy
    refine ⟨(hp p hp1).1, ?_⟩
    obtain ⟨i, hi, e⟩ := List.mem_iff_getElem.mp hy
    rw [List.getLast_eq_getElem] at hlast
    by_cases hl : i = (ps.map (·.1)).length - 1
    · subst hl
      rw [← e]
      exact hlast
    · have := List.pairwise_iff_getElem.mp hpw i ((ps.map (·.1)).length - 1) hi (by omega) (by omega)
      omega
def endAt (ys : List Int) (top : Int) (i : Nat) : Int := match ys[i]? with
  | some y => y - 1
  | none => top
theorem inV_int {z : Int} : ∀ {zs : List Int}, inV (.int z) (zs.map V.int) = decide (z ∈ zs)
  | [] => by simp [inV]
  | y :: zs => by
    have h := @inV_int z zs
    have e : eqV (.int y) (.int z) = decide (y = z) := by
      show (y == z) = decide (y = z)
      by_cases q : y = z <;> simp [q]
    unfold inV at h ⊢
    rw [List.map_cons, List.any_cons, h, e]
    by_cases h1 : y = z
    · subst h1
      simp
    · have h2 : ¬ z = y := fun q => h1 q.symm
      simp [h1, h2]
theorem scVs_ints : ∀ zs : List Int, scVs (zs.map D.int) = some (zs.map V.int)
  | [] => rfl
  | z :: zs => by
    show (match scV (.int z) with | none => none | some x => (scVs (zs.map D.int)).map (x :: ·)) = _
    rw [scVs_ints zs]
    rfl
end Kf
namespace Kf
open PySem PySem.Spec L2 StX ClX Dn
open PyProof.Rows hiding St
variable {P : Program} {w : World} {K : PySem.W.Frag} {mg : Str → Option Value} {base : Heap}
def atStep (x : Int) (f : Int) (p : Pc) : Int := if p.1 ≤ x then (if p.2.2 = true then p.2.1 + x - p.1 else p.2.1) else f
def atF (ps : List Pc) (x : Int) : Int := ps.foldl (atStep x) 0
end Kf
namespace Kf
open PySem PySem.Spec L2 StX ClX Dn
open PyProof.Rows hiding St
variable {P : Program} {w : World} {K : PySem.W.Frag} {mg : Str → Option Value} {base : Heap}
def pval (p : Pc) (x : Int) : Int := if p.2.2 = true then p.2.1 + (x - p.1) else p.2.1
theorem atF_snoc (ps : List Pc) (p : Pc) (x : Int) : atF (ps ++ [p]) x = if p.1 ≤ x then pval p x else atF ps x := by
  unfold atF
  rw [List.foldl_append]
  show atStep x (atF ps x) p = _
  unfold atStep pval
  by_cases h : p.1 ≤ x
  · rw [if_pos h, if_pos h]
    split
    · omega
    · rfl
  · rw [if_neg h, if_neg h]
    rfl
theorem bend_snoc (qs : List Pc) (q : Pc) (b : Bool) : bend (qs ++ [q]) b = qs ++ [(q.1, q.2.1, b)] := by
  unfold bend
  rw [List.getLast?_append]
  show (qs ++ [q]).set ((qs ++ [q]).length - 1) (q.1, q.2.1, b) = _
  rw [List.length_append, List.length_singleton, Nat.add_sub_cancel, List.set_append_right _ _ (Nat.le_refl _), Nat.sub_self]
  rfl
def NI (F : Int → Int) (s : NS) (e : Int) : Prop :=
  (e = 0 ∧ s.1 = []) ∨ (0 < e ∧ ∃ qs q, s.1 = qs ++ [q] ∧ q.1 ≤ e - 1 ∧ 0 ≤ q.1 ∧ s.2.1 = F (e - 1) ∧ (∀ x, 0 ≤ x → x < e → atF s.1 x = F x) ∧ (s.2.2 = none ∧ q.1 = e - 1 ∨ ∃ b, s.2.2 = some b ∧ q.2.2 = b ∧ q.1 < e - 1))
theorem last_row (r : Row) : lastRow r = onRow r r.2.1 := rfl
theorem ni_step {F : Int → Int} {s : NS} {e hi v : Int} {ri : Bool} (h : NI F s e) (he : 0 ≤ e) (hh : e ≤ hi) (hF : ∀ x, e ≤ x → x ≤ hi → F x = onRow (e, hi, v, ri) x) : NI F (nstep s (e, hi, v, ri)) (hi + 1) := by
  obtain ⟨ps, last, sl⟩ := s
  have hlast : lastRow (e, hi, v, ri) = F (hi + 1 - 1) := by
    rw [Int.add_sub_cancel, hF hi hh (Int.le_refl _)]
    rfl
  have hFe : F e = v := by
    rw [hF e (Int.le_refl _) hh]
    show (if ri = true then v + (e - e) else v) = v
    split <;> omega
  have put : ∀ (qs : List Pc) (lo : Int), e ≤ lo → lo ≤ hi → (∀ x, 0 ≤ x → x < lo → atF qs x = F x) → NI F (qs ++ [(lo, onRow (e, hi, v, ri) lo, (if lo < hi then some ri else none) == some true)], lastRow (e, hi, v, ri), if lo < hi then some ri else none) (hi + 1) := by
    intro qs lo h1 h2 h3
    refine .inr ⟨by omega, qs, _, rfl, by show lo ≤ hi + 1 - 1; omega, by show 0 ≤ lo; omega, hlast, fun x hx0 hx1 => ?_, ?_⟩
    · rw [atF_snoc]
      by_cases hx : lo ≤ x
      · rw [if_pos (show (lo, onRow (e, hi, v, ri) lo, (if lo < hi then some ri else none) == some true).1 ≤ x from hx), hF x (by omega) (by omega)]
        show (if ((if lo < hi then some ri else none) == some true) = true then onRow (e, hi, v, ri) lo + (x - lo) else onRow (e, hi, v, ri) lo) = onRow (e, hi, v, ri) x
        show _ = (if ri = true then v + (x - e) else v)
        show (if ((if lo < hi then some ri else none) == some true) = true then (if ri = true then v + (lo - e) else v) + (x - lo) else (if ri = true then v + (lo - e) else v)) = (if ri = true then v + (x - e) else v)
        by_cases hl : lo < hi
        · rw [if_pos hl]
          cases ri with
          | true => simp; omega
          | false => simp
        · have : x = lo := by omega
          subst this
          rw [if_neg hl]
          cases ri <;> simp
      · rw [if_neg (show ¬ (lo, onRow (e, hi, v, ri) lo, (if lo < hi then some ri else none) == some true).1 ≤ x from hx)]
        exact h3 x hx0 (by omega)
    · by_cases hl : lo < hi
      · right
        refine ⟨ri, by show (if lo < hi then some ri else none) = some ri; rw [if_pos hl], ?_, by show lo < hi + 1 - 1; omega⟩
        show ((if lo < hi then some ri else none) == some true) = ri
        rw [if_pos hl]
        cases ri <;> rfl
      · left
        refine ⟨by show (if lo < hi then some ri else none) = none; rw [if_neg hl], by show lo = hi + 1 - 1; omega⟩
  by_cases hj : joins ps last sl v = true
  · -- the row goes on where the last piece ends
    have hj' := hj
    unfold joins at hj'
    rw [Bool.and_eq_true, Bool.and_eq_true, Bool.or_eq_true, Bool.or_eq_true] at hj'
    obtain ⟨⟨hne, hd⟩, hs⟩ := hj'
    rcases h with ⟨_, h⟩ | ⟨h0, qs, q, hps, hq, hq0, hl, hat, hsl⟩
    · have h : ps = [] := h
      rw [h] at hne
      cases hne
    have hps : ps = qs ++ [q] := hps
    have hl : last = F (e - 1) := hl
    have hsl : sl = none ∧ q.1 = e - 1 ∨ ∃ b, sl = some b ∧ q.2.2 = b ∧ q.1 < e - 1 := hsl
    have hd : v - last = 0 ∨ v - last = 1 := by
      rcases hd with z | z
      · exact .inl (of_decide_eq_true z).symm
      · exact .inr (of_decide_eq_true z).symm
    generalize eb : decide (v - last = 1) = b at *
    have hqe : F (e - 1) = pval q (e - 1) := by
      have h1 := hat (e - 1) (by omega) (by omega)
      have h1 : atF ps (e - 1) = F (e - 1) := h1
      rw [hps, atF_snoc, if_pos hq] at h1
      exact h1.symm
    have hbent : ∀ x, q.1 ≤ x → x < e → pval (q.1, q.2.1, b) x = F x := by
      intro x hx1 hx2
      rcases hsl with ⟨_, hqs⟩ | ⟨b', hb', hq2, _⟩
      · have hx : x = q.1 := by omega
        subst hx
        have h1 := hat q.1 hq0 hx2
        have h1 : atF ps q.1 = F q.1 := h1
        rw [hps, atF_snoc, if_pos (Int.le_refl _)] at h1
        rw [← h1]
        unfold pval
        show (if b = true then q.2.1 + (q.1 - q.1) else q.2.1) = _
        split <;> split <;> omega
      · have hbb : b' = b := by
          rcases hs with z | z
          · rw [hb'] at z
            cases z
          · rw [hb'] at z
            exact (Option.some.inj (eq_of_beq z))
        have h1 := hat x (by omega) hx2
        have h1 : atF ps x = F x := h1
        rw [hps, atF_snoc, if_pos hx1] at h1
        rw [← h1]
        unfold pval
        rw [hq2, hbb]
    have hge : ∀ x, e ≤ x → pval (q.1, q.2.1, b) x = if b = true then v + (x - e) else v := by
      intro x hx
      have h1 := hbent (e - 1) hq (by omega)
      have h1 : (if b = true then q.2.1 + (e - 1 - q.1) else q.2.1) = F (e - 1) := h1
      show (if b = true then q.2.1 + (x - q.1) else q.2.1) = _
      cases hb : b with
      | true =>
        rw [hb] at h1 eb
        have := of_decide_eq_true eb
        rw [if_pos rfl] at h1 ⊢
        rw [if_pos rfl]
        omega
      | false =>
        rw [hb] at h1 eb
        have := of_decide_eq_false eb
        rw [if_neg Bool.false_ne_true] at h1 ⊢
        rw [if_neg Bool.false_ne_true]
        omega
    have hlow : ∀ x, 0 ≤ x → x < e → atF (qs ++ [(q.1, q.2.1, b)]) x = F x := by
      intro x hx0 hx1
      rw [atF_snoc]
      by_cases hx : q.1 ≤ x
      · rw [if_pos (show (q.1, q.2.1, b).1 ≤ x from hx)]
        exact hbent x hx hx1
      · rw [if_neg (show ¬ (q.1, q.2.1, b).1 ≤ x from hx)]
        have h1 := hat x hx0 hx1
        have h1 : atF ps x = F x := h1
        rw [hps, atF_snoc, if_neg hx] at h1
        exact h1
    show NI F (nfin (nps (joins ps last sl v) (ps, last, sl) (e, hi, v, ri)) (nsl (joins ps last sl v) (ps, last, sl) (e, hi, v, ri)) (nlow (joins ps last sl v) (ps, last, sl) (e, hi, v, ri)) (e, hi, v, ri)) (hi + 1)
    rw [hj]
    have e1 : nps true (ps, last, sl) (e, hi, v, ri) = qs ++ [(q.1, q.2.1, b)] := by
      show bend ps (decide (v - last = 1)) = _
      rw [eb, hps, bend_snoc]
    have e2 : nsl true (ps, last, sl) (e, hi, v, ri) = some b := by
      show some (decide (v - last = 1)) = _
      rw [eb]
    have e3 : nlow true (ps, last, sl) (e, hi, v, ri) = if b = ri then hi + 1 else e + 1 := by
      show (if decide (v - last = 1) = ri then hi + 1 else e + 1) = _
      rw [eb]
    rw [e1, e2, e3]
    by_cases hbr : b = ri
    · rw [if_pos hbr]
      unfold nfin
      rw [if_neg (show ¬ hi + 1 ≤ (e, hi, v, ri).2.1 by show ¬ hi + 1 ≤ hi; omega)]
      refine .inr ⟨by omega, qs, _, rfl, by show q.1 ≤ hi + 1 - 1; omega, hq0, hlast, fun x hx0 hx1 => ?_, .inr ⟨b, rfl, rfl, by show q.1 < hi + 1 - 1; omega⟩⟩
      by_cases hx : x < e
      · exact hlow x hx0 hx
      · show atF (qs ++ [(q.1, q.2.1, b)]) x = F x
        rw [atF_snoc, if_pos (show (q.1, q.2.1, b).1 ≤ x by show q.1 ≤ x; omega), hge x (by omega), hF x (by omega) (by omega), hbr]
        rfl
    · rw [if_neg hbr]
      have hle : ∀ x, 0 ≤ x → x < e + 1 → atF (qs ++ [(q.1, q.2.1, b)]) x = F x := by
        intro x hx0 hx1
        by_cases hx : x < e
        · exact hlow x hx0 hx
        · have : x = e := by omega
          subst this
          rw [atF_snoc, if_pos (show (q.1, q.2.1, b).1 ≤ x by show q.1 ≤ x; omega), hge x (Int.le_refl _), hFe]
          split <;> omega
      unfold nfin
      by_cases hlo : e + 1 ≤ hi
      · rw [if_pos (show e + 1 ≤ (e, hi, v, ri).2.1 from hlo)]
        exact put _ (e + 1) (by omega) hlo hle
      · rw [if_neg (show ¬ e + 1 ≤ (e, hi, v, ri).2.1 from hlo)]
        have : hi = e := by omega
        subst this
        exact .inr ⟨by omega, qs, _, rfl, by show q.1 ≤ hi + 1 - 1; omega, hq0, hlast, fun x hx0 hx1 => hle x hx0 hx1, .inr ⟨b, rfl, rfl, by show q.1 < hi + 1 - 1; omega⟩⟩
  · have hj : joins ps last sl v = false := by simpa using hj
    show NI F (nfin (nps (joins ps last sl v) (ps, last, sl) (e, hi, v, ri)) (nsl (joins ps last sl v) (ps, last, sl) (e, hi, v, ri)) (nlow (joins ps last sl v) (ps, last, sl) (e, hi, v, ri)) (e, hi, v, ri)) (hi + 1)
    rw [hj]
    show NI F (nfin ps sl e (e, hi, v, ri)) (hi + 1)
    unfold nfin
    rw [if_pos (show e ≤ (e, hi, v, ri).2.1 from hh)]
    refine put ps e (Int.le_refl _) hh fun x hx0 hx1 => ?_
    rcases h with ⟨h1, h2⟩ | ⟨_, qs, q, _, _, _, _, hat, _⟩
    · omega
    · exact hat x hx0 hx1
end Kf
namespace Kf
open PySem PySem.Spec L2 StX ClX Dn
open PyProof.Rows hiding St
variable {P : Program} {w : World} {K : PySem.W.Frag} {mg : Str → Option Value} {base : Heap}
theorem foldl_skip (x : Int) : ∀ (r : List Pc) (f : Int), (∀ p ∈ r, x < p.1) → r.foldl (atStep x) f = f
  | [], f, _ => rfl
  | p :: r, f, h => by
    have h1 := h p List.mem_cons_self
    show r.foldl (atStep x) (atStep x f p) = f
    have : atStep x f p = f := by
      unfold atStep
      rw [if_neg (by omega)]
    rw [this]
    exact foldl_skip x r f fun q hq => h q (List.mem_cons_of_mem _ hq)
theorem atF_mid (qs : List Pc) (p : Pc) (r : List Pc) (x : Int) (h1 : p.1 ≤ x) (h2 : ∀ q ∈ r, x < q.1) : atF (qs ++ p :: r) x = pval p x := by
  have : atF (qs ++ p :: r) x = r.foldl (atStep x) (atF (qs ++ [p]) x) := by
    unfold atF
    rw [show qs ++ p :: r = (qs ++ [p]) ++ r by simp, List.foldl_append]
  rw [this, foldl_skip x r _ h2, atF_snoc, if_pos h1]
theorem ni_run (top : Int) : ∀ (r qs : List Pc) (s : NS) (e : Int), StOk top ((qs ++ r).map (·.1)) → (∀ p, r.head? = some p → e = p.1) → r ≠ [] → NI (atF (qs ++ r)) s e → NI (atF (qs ++ r)) ((stretchF r top).foldl nstep s) (top + 1)
  | [], _, _, _, _, _, hr, _ => absurd rfl hr
  | p :: r, qs, s, e, hst, he, _, h => by
    have hpe : e = p.1 := he p rfl
    subst hpe
    have hmem : p.1 ∈ (qs ++ p :: r).map (·.1) := List.mem_map_of_mem (by simp)
    have hb := hst.2.2 p.1 hmem
    have hgt : ∀ q ∈ r, p.1 < q.1 := by
      have hpw := hst.2.1
      rw [List.map_append, List.map_cons, List.pairwise_append] at hpw
      exact fun q hq => (List.pairwise_cons.mp hpw.2.1).1 q.1 (List.mem_map_of_mem hq)
    have hpwr : (r.map (·.1)).Pairwise (· < ·) := by
      have hpw := hst.2.1
      rw [List.map_append, List.map_cons, List.pairwise_append] at hpw
      exact (List.pairwise_cons.mp hpw.2.1).2
    have hend : p.1 ≤ endOf top r := by
      cases r with
      | nil => exact hb.2
      | cons q r =>
        have := hgt q List.mem_cons_self
        show p.1 ≤ q.1 - 1
        omega
    have hlt : ∀ x, x ≤ endOf top r → ∀ q ∈ r, x < q.1 := by
      intro x hx q hq
      cases r with
      | nil => cases hq
      | cons q0 r =>
        have hx : x ≤ q0.1 - 1 := hx
        rcases List.mem_cons.mp hq with rfl | hq
        · omega
        · rw [List.map_cons] at hpwr
          have := (List.pairwise_cons.mp hpwr).1 q.1 (List.mem_map_of_mem hq)
          omega
    have step := ni_step (hi := endOf top r) (v := p.2.1) (ri := p.2.2) h hb.1 hend fun x hx1 hx2 => by
      rw [atF_mid qs p r x hx1 (hlt x hx2)]
      rfl
    rw [stretch_cons, List.foldl_cons]
    cases hr : r with
    | nil =>
      rw [hr] at step
      exact step
    | cons q r2 =>
      have e1 : qs ++ p :: q :: r2 = (qs ++ [p]) ++ q :: r2 := by simp
      rw [hr] at hst step
      rw [e1] at hst step ⊢
      have e2 : endOf top (q :: r2) + 1 = q.1 := by
        show q.1 - 1 + 1 = q.1
        omega
      rw [e2] at step
      exact ni_run top (q :: r2) (qs ++ [p]) _ q.1 hst (fun p' hp' => by cases hp'; rfl) (by simp) step
theorem normal_at {top : Int} {ps : List Pc} (hst : StOk top (ps.map (·.1))) {x : Int} (h0 : 0 ≤ x) (h1 : x ≤ top) : atF (normalF (stretchF ps top)) x = atF ps x := by
  have hne : ps ≠ [] := fun e => by
    have := hst.1
    rw [e] at this
    cases this
  have h := ni_run top ps [] ([], 0, none) 0 (by simpa using hst) (fun p hp => by
    have := hst.1
    rw [List.head?_map, hp] at this
    exact (Option.some.inj this).symm) hne (.inl ⟨rfl, rfl⟩)
  rw [List.nil_append] at h
  rcases h with ⟨e, _⟩ | ⟨_, qs, q, _, _, _, _, hat, _⟩
  · omega
  · exact hat x h0 (by omega)
end Kf
namespace Kf
open PySem PySem.Spec L2 StX ClX Dn
open PyProof.Rows hiding St
variable {P : Program} {w : World} {K : PySem.W.Frag} {mg : Str → Option Value} {base : Heap}
theorem pieceAt_spec (ps : List Pc) (x : Int) (hpw : ∀ i j : Nat, i < j → j < ps.length → (ps.getD i (0, 0, false)).1 < (ps.getD j (0, 0, false)).1) : ∀ (n first last : Nat), first ≤ last → last < ps.length → last - first ≤ n → (ps.getD first (0, 0, false)).1 ≤ x → (∀ j, last < j → j < ps.length → x < (ps.getD j (0, 0, false)).1) →
    pieceAt ps x n first last < ps.length ∧ (ps.getD (pieceAt ps x n first last) (0, 0, false)).1 ≤ x ∧ ∀ j, pieceAt ps x n first last < j → j < ps.length → x < (ps.getD j (0, 0, false)).1
  | 0, first, last, h1, h2, h3, h4, h5 => by
    have : first = last := by omega
    subst this
    exact ⟨h2, h4, h5⟩
  | n + 1, first, last, h1, h2, h3, h4, h5 => by
    unfold pieceAt
    by_cases hl : first < last
    · rw [if_pos hl]
      by_cases hm : (ps.getD ((first + last + 1) / 2) (0, 0, false)).1 ≤ x
      · rw [if_pos hm]
        exact pieceAt_spec ps x hpw n _ last (by omega) h2 (by omega) hm h5
      · rw [if_neg hm]
        refine pieceAt_spec ps x hpw n first _ (by omega) (by omega) (by omega) h4 fun j hj1 hj2 => ?_
        by_cases he : j = (first + last + 1) / 2
        · subst he
          omega
        · have := hpw ((first + last + 1) / 2) j (by omega) hj2
          omega
    · rw [if_neg hl]
      have : first = last := by omega
      subst this
      exact ⟨h2, h4, h5⟩
theorem valAt_at {ps : List Pc} {x : Int} (hpw : (ps.map (·.1)).Pairwise (· < ·)) (h0 : ∃ y, (ps.map (·.1)).head? = some y ∧ y ≤ x) : valAt ps x = atF ps x := by
  obtain ⟨y, hy, hyx⟩ := h0
  have hl : 0 < ps.length := by
    cases ps with
    | nil => cases hy
    | cons p r => exact Nat.succ_pos _
  have hget : ∀ i, i < ps.length → (ps.map (·.1))[i]? = some (ps.getD i (0, 0, false)).1 := fun i hi => by
    rw [List.getElem?_map, List.getD_eq_getElem?_getD, List.getElem?_eq_getElem hi]
    rfl
  have hpw' : ∀ i j : Nat, i < j → j < ps.length → (ps.getD i (0, 0, false)).1 < (ps.getD j (0, 0, false)).1 := fun i j hij hj => by
    have h1 := List.pairwise_iff_getElem.mp hpw i j (by rw [List.length_map]; omega) (by rw [List.length_map]; exact hj) hij
    have g1 := hget i (by omega)
    have g2 := hget j hj
    rw [List.getElem?_eq_getElem (by rw [List.length_map]; omega)] at g1
    rw [List.getElem?_eq_getElem (by rw [List.length_map]; exact hj)] at g2
    rw [← Option.some.inj g1, ← Option.some.inj g2]
    exact h1
  have h00 : (ps.getD 0 (0, 0, false)).1 ≤ x := by
    have g := hget 0 hl
    rw [List.head?_eq_getElem?, g] at hy
    rw [Option.some.inj hy]
    exact hyx
  obtain ⟨k1, k2, k3⟩ := pieceAt_spec ps x hpw' ps.length 0 (ps.length - 1) (Nat.zero_le _) (by omega) (by omega) h00 (fun j hj1 hj2 => by omega)
  generalize ek : pieceAt ps x ps.length 0 (ps.length - 1) = k at *
  have hsplit : ps = ps.take k ++ ps[k] :: ps.drop (k + 1) := by
    rw [← List.drop_eq_getElem_cons k1, List.take_append_drop]
  have hpk : ps.getD k (0, 0, false) = ps[k] := by
    rw [List.getD_eq_getElem?_getD, List.getElem?_eq_getElem k1]
    rfl
  have h1 : atF ps x = pval ps[k] x := by
    conv => lhs; rw [hsplit]
    refine atF_mid _ _ _ x (by rw [← hpk]; exact k2) fun q hq => ?_
    obtain ⟨i, hi, e⟩ := List.mem_iff_getElem.mp hq
    rw [List.length_drop] at hi
    have := k3 (k + 1 + i) (by omega) (by omega)
    rw [List.getD_eq_getElem?_getD, ← List.getElem?_drop, List.getElem?_eq_getElem (by rw [List.length_drop]; exact hi), e] at this
    exact this
  rw [h1]
  unfold valAt
  rw [ek, hpk]
  rfl
end Kf
namespace Kf
open PySem PySem.Spec L2 StX ClX Dn
open PyProof.Rows hiding St
variable {P : Program} {w : World} {K : PySem.W.Frag} {mg : Str → Option Value} {base : Heap}
def gstep (s : NS) (x v : Int) : NS := if joins s.1 s.2.1 s.2.2 v = true then (bend s.1 (decide (v - s.2.1 = 1)), v, some (decide (v - s.2.1 = 1))) else (s.1 ++ [(x, v, false)], v, none)
def gfold (F : Int → Int) : Nat → Int → NS → NS
  | 0, _, s => s
  | n + 1, x, s => gfold F n (x + 1) (gstep s x (F x))
def ramp (v e : Int) (ri : Bool) (x : Int) : Int := if ri = true then v + (x - e) else v
theorem ramp_step (v e : Int) (ri : Bool) (x : Int) : ramp v e ri x - ramp v e ri (x - 1) = if ri = true then 1 else 0 := by
  unfold ramp
  cases ri <;> simp <;> omega
theorem ramp_dec (v e : Int) (ri : Bool) (x : Int) : decide (ramp v e ri x - ramp v e ri (x - 1) = 1) = ri := by
  rw [ramp_step]
  cases ri <;> rfl
theorem joins_ramp (v e : Int) (ri : Bool) (x : Int) (qs : List Pc) (q : Pc) (sl : Option Bool) (h : sl = none ∨ sl = some ri) : joins (qs ++ [q]) (ramp v e ri (x - 1)) sl (ramp v e ri x) = true := by
  unfold joins
  rw [ramp_step]
  have h1 : (qs ++ [q]).isEmpty = false := by cases qs <;> rfl
  rw [h1]
  rcases h with rfl | rfl <;> cases ri <;> rfl
theorem gA (v e : Int) (ri : Bool) (qs : List Pc) (a b : Int) : ∀ (n : Nat) (x : Int), gfold (ramp v e ri) n x (qs ++ [(a, b, ri)], ramp v e ri (x - 1), some ri) = (qs ++ [(a, b, ri)], ramp v e ri (x - 1 + n), some ri)
  | 0, x => by
    show (_, _, _) = (_, _, _)
    rw [show x - 1 + ((0 : Nat) : Int) = x - 1 by omega]
  | n + 1, x => by
    show gfold (ramp v e ri) n (x + 1) (gstep (qs ++ [(a, b, ri)], ramp v e ri (x - 1), some ri) x (ramp v e ri x)) = _
    have hs : gstep (qs ++ [(a, b, ri)], ramp v e ri (x - 1), some ri) x (ramp v e ri x) = (qs ++ [(a, b, ri)], ramp v e ri (x + 1 - 1), some ri) := by
      unfold gstep
      rw [if_pos (joins_ramp v e ri x qs (a, b, ri) (some ri) (.inr rfl))]
      show (bend (qs ++ [(a, b, ri)]) (decide (ramp v e ri x - ramp v e ri (x - 1) = 1)), ramp v e ri x, some (decide (ramp v e ri x - ramp v e ri (x - 1) = 1))) = _
      rw [ramp_dec, bend_snoc, show x + 1 - 1 = x by omega]
    rw [hs, gA v e ri qs a b n (x + 1), show x + 1 - 1 + (n : Int) = x - 1 + ((n + 1 : Nat) : Int) by omega]
theorem gB (v e : Int) (ri : Bool) (qs : List Pc) (lo : Int) (n : Nat) : gfold (ramp v e ri) n (lo + 1) (qs ++ [(lo, ramp v e ri lo, false)], ramp v e ri lo, none) = (qs ++ [(lo, ramp v e ri lo, (if lo < lo + (n : Int) then some ri else none) == some true)], ramp v e ri (lo + n), if lo < lo + (n : Int) then some ri else none) := by
  cases n with
  | zero =>
    rw [if_neg (by omega), show lo + ((0 : Nat) : Int) = lo by omega]
    rfl
  | succ n =>
    rw [if_pos (by omega)]
    show gfold (ramp v e ri) n (lo + 1 + 1) (gstep (qs ++ [(lo, ramp v e ri lo, false)], ramp v e ri lo, none) (lo + 1) (ramp v e ri (lo + 1))) = _
    have hs : gstep (qs ++ [(lo, ramp v e ri lo, false)], ramp v e ri lo, none) (lo + 1) (ramp v e ri (lo + 1)) = (qs ++ [(lo, ramp v e ri lo, ri)], ramp v e ri (lo + 1 + 1 - 1), some ri) := by
      have hj := joins_ramp v e ri (lo + 1) qs (lo, ramp v e ri lo, false) none (.inl rfl)
      have hd := ramp_dec v e ri (lo + 1)
      rw [Int.add_sub_cancel] at hj hd
      unfold gstep
      rw [if_pos hj]
      show (bend (qs ++ [(lo, ramp v e ri lo, false)]) (decide (ramp v e ri (lo + 1) - ramp v e ri lo = 1)), ramp v e ri (lo + 1), some (decide (ramp v e ri (lo + 1) - ramp v e ri lo = 1))) = _
      rw [hd, bend_snoc, Int.add_sub_cancel]
    rw [hs, gA v e ri qs lo (ramp v e ri lo) n (lo + 1 + 1), show lo + 1 + 1 - 1 + (n : Int) = lo + ((n + 1 : Nat) : Int) by omega]
    cases ri <;> rfl
theorem nstep_g (s : NS) (e v : Int) (ri : Bool) (n : Nat) : nstep s (e, e + n, v, ri) = gfold (ramp v e ri) (n + 1) e s := by
  obtain ⟨ps, last, sl⟩ := s
  have hv : ramp v e ri e = v := by unfold ramp; cases ri <;> simp
  show nfin (nps (joins ps last sl v) (ps, last, sl) (e, e + n, v, ri)) (nsl (joins ps last sl v) (ps, last, sl) (e, e + n, v, ri)) (nlow (joins ps last sl v) (ps, last, sl) (e, e + n, v, ri)) (e, e + n, v, ri) = gfold (ramp v e ri) n (e + 1) (gstep (ps, last, sl) e (ramp v e ri e))
  rw [hv]
  cases hj : joins ps last sl v with
  | false =>
    have hs : gstep (ps, last, sl) e v = (ps ++ [(e, ramp v e ri e, false)], ramp v e ri e, none) := by
      unfold gstep
      rw [if_neg (by rw [hj]; exact Bool.false_ne_true), hv]
    rw [hs, gB]
    show nfin ps sl e (e, e + n, v, ri) = _
    unfold nfin
    rw [if_pos (show e ≤ e + (n : Int) by omega)]
    rfl
  | true =>
    have hs : gstep (ps, last, sl) e v = (bend ps (decide (v - last = 1)), v, some (decide (v - last = 1))) := by
      unfold gstep
      rw [if_pos hj]
    rw [hs]
    have hne : ps ≠ [] := by
      intro h
      rw [h] at hj
      cases hj
    obtain ⟨qs, q, rfl⟩ : ∃ qs q, ps = qs ++ [q] := ⟨ps.dropLast, ps.getLast hne, (List.dropLast_concat_getLast hne).symm⟩
    show nfin (bend (qs ++ [q]) (decide (v - last = 1))) (some (decide (v - last = 1))) (if decide (v - last = 1) = ri then e + n + 1 else e + 1) (e, e + n, v, ri) = _
    rw [bend_snoc]
    generalize decide (v - last = 1) = b
    by_cases hb : b = ri
    · subst hb
      rw [if_pos rfl]
      have h1 := gA v e b qs q.1 q.2.1 n (e + 1)
      rw [Int.add_sub_cancel, hv] at h1
      rw [h1]
      unfold nfin
      rw [if_neg (show ¬ e + (n : Int) + 1 ≤ e + (n : Int) by omega)]
      rfl
    · rw [if_neg hb]
      cases n with
      | zero =>
        unfold nfin
        rw [if_neg (show ¬ e + 1 ≤ e + ((0 : Nat) : Int) by omega)]
        show (_, lastRow (e, e + ((0 : Nat) : Int), v, ri), _) = (_, v, _)
        have : lastRow (e, e + ((0 : Nat) : Int), v, ri) = v := by
          show (if ri = true then v + (e + ((0 : Nat) : Int) - e) else v) = v
          split <;> omega
        rw [this]
      | succ m =>
        have hnj : joins (qs ++ [(q.1, q.2.1, b)]) v (some b) (ramp v e ri (e + 1)) = false := by
          have hd := ramp_dec v e ri (e + 1)
          rw [Int.add_sub_cancel, hv] at hd
          unfold joins
          rw [hd]
          have : ((some b : Option Bool) == none || some b == some ri) = false := by cases b <;> cases ri <;> first | rfl | exact absurd rfl hb
          rw [this, Bool.and_false]
        have hs2 : gstep (qs ++ [(q.1, q.2.1, b)], v, some b) (e + 1) (ramp v e ri (e + 1)) = ((qs ++ [(q.1, q.2.1, b)]) ++ [(e + 1, ramp v e ri (e + 1), false)], ramp v e ri (e + 1), none) := by
          unfold gstep
          rw [if_neg (by rw [hnj]; exact Bool.false_ne_true)]
        show _ = gfold (ramp v e ri) m (e + 1 + 1) (gstep (qs ++ [(q.1, q.2.1, b)], v, some b) (e + 1) (ramp v e ri (e + 1)))
        rw [hs2, gB]
        unfold nfin
        rw [if_pos (show e + 1 ≤ e + ((m + 1 : Nat) : Int) by omega)]
        have ee : e + ((m + 1 : Nat) : Int) = e + 1 + (m : Int) := by omega
        rw [ee]
        rfl
theorem gfold_congr {F G : Int → Int} : ∀ (n : Nat) (x : Int) (s : NS), (∀ y, x ≤ y → y < x + n → F y = G y) → gfold F n x s = gfold G n x s
  | 0, _, _, _ => rfl
  | n + 1, x, s, h => by
    show gfold F n (x + 1) (gstep s x (F x)) = gfold G n (x + 1) (gstep s x (G x))
    rw [h x (Int.le_refl _) (by omega)]
    exact gfold_congr n (x + 1) _ fun y h1 h2 => h y (by omega) (by omega)
theorem gfold_add {F : Int → Int} : ∀ (n m : Nat) (x : Int) (s : NS), gfold F (n + m) x s = gfold F m (x + n) (gfold F n x s)
  | 0, m, x, s => by
    show gfold F (0 + m) x s = gfold F m (x + ((0 : Nat) : Int)) s
    rw [Nat.zero_add, show x + ((0 : Nat) : Int) = x by omega]
  | n + 1, m, x, s => by
    rw [show n + 1 + m = (n + m) + 1 by omega]
    show gfold F (n + m) (x + 1) (gstep s x (F x)) = gfold F m (x + ((n + 1 : Nat) : Int)) (gfold F n (x + 1) (gstep s x (F x)))
    rw [gfold_add n m (x + 1), show x + 1 + (n : Int) = x + ((n + 1 : Nat) : Int) by omega]
theorem nfold_g (top : Int) : ∀ (r qs : List Pc) (s : NS) (e : Int), StOk top ((qs ++ r).map (·.1)) → (∀ p, r.head? = some p → e = p.1) → r ≠ [] → (stretchF r top).foldl nstep s = gfold (atF (qs ++ r)) (top + 1 - e).toNat e s
  | [], _, _, _, _, _, hr => absurd rfl hr
  | p :: r, qs, s, e, hst, he, _ => by
    have hpe : e = p.1 := he p rfl
    subst hpe
    have hmem : p.1 ∈ (qs ++ p :: r).map (·.1) := List.mem_map_of_mem (by simp)
    have hb := hst.2.2 p.1 hmem
    have hpw := hst.2.1
    rw [List.map_append, List.map_cons, List.pairwise_append] at hpw
    have hgt : ∀ q ∈ r, p.1 < q.1 := fun q hq => (List.pairwise_cons.mp hpw.2.1).1 q.1 (List.mem_map_of_mem hq)
    have hpwr : (r.map (·.1)).Pairwise (· < ·) := (List.pairwise_cons.mp hpw.2.1).2
    have hend : p.1 ≤ endOf top r ∧ endOf top r ≤ top := by
      cases r with
      | nil => exact ⟨hb.2, Int.le_refl _⟩
      | cons q r =>
        have h1 := hgt q List.mem_cons_self
        have h2 := hst.2.2 q.1 (List.mem_map_of_mem (by simp))
        show p.1 ≤ q.1 - 1 ∧ q.1 - 1 ≤ top
        omega
    have hlt : ∀ x, x ≤ endOf top r → ∀ q ∈ r, x < q.1 := by
      intro x hx q hq
      cases r with
      | nil => cases hq
      | cons q0 r =>
        have hx : x ≤ q0.1 - 1 := hx
        rcases List.mem_cons.mp hq with rfl | hq
        · omega
        · rw [List.map_cons] at hpwr
          have := (List.pairwise_cons.mp hpwr).1 q.1 (List.mem_map_of_mem hq)
          omega
    obtain ⟨n, hn⟩ : ∃ n : Nat, endOf top r = p.1 + n := ⟨(endOf top r - p.1).toNat, by omega⟩
    rw [stretch_cons, List.foldl_cons, hn, nstep_g]
    have hc : gfold (ramp p.2.1 p.1 p.2.2) (n + 1) p.1 s = gfold (atF (qs ++ p :: r)) (n + 1) p.1 s := by
      refine gfold_congr (n + 1) p.1 s fun y h1 h2 => ?_
      rw [atF_mid qs p r y h1 (hlt y (by omega))]
      rfl
    rw [hc]
    cases hr : r with
    | nil =>
      rw [hr] at hn
      have hn : top = p.1 + n := hn
      rw [show (top + 1 - p.1).toNat = n + 1 by omega]
      rfl
    | cons q r2 =>
      have e1 : qs ++ p :: q :: r2 = (qs ++ [p]) ++ q :: r2 := by simp
      rw [hr] at hst hn
      rw [e1] at hst ⊢
      have hn : q.1 - 1 = p.1 + n := hn
      have hq := hst.2.2 q.1 (List.mem_map_of_mem (by simp))
      rw [nfold_g top (q :: r2) (qs ++ [p]) _ q.1 hst (fun p' hp' => by cases hp'; rfl) (by simp)]
      have hadd := gfold_add (F := atF ((qs ++ [p]) ++ q :: r2)) (n + 1) (top + 1 - q.1).toNat p.1 s
      rw [show p.1 + ((n + 1 : Nat) : Int) = q.1 by omega] at hadd
      rw [← hadd, show (top + 1 - p.1).toNat = (n + 1) + (top + 1 - q.1).toNat by omega]
theorem normal_g {top : Int} {ps : List Pc} (hst : StOk top (ps.map (·.1))) : normalF (stretchF ps top) = (gfold (atF ps) (top + 1).toNat 0 ([], 0, none)).1 := by
  have hne : ps ≠ [] := fun e => by
    have := hst.1
    rw [e] at this
    cases this
  have h := nfold_g top ps [] ([], 0, none) 0 (by simpa using hst) (fun p hp => by
    have := hst.1
    rw [List.head?_map, hp] at this
    exact (Option.some.inj this).symm) hne
  rw [List.nil_append] at h
  show ((stretchF ps top).foldl nstep ([], 0, none)).1 = _
  rw [h, show top + 1 - 0 = top + 1 by omega]
theorem normal_eq {top : Int} {ps qs : List Pc} (h1 : StOk top (ps.map (·.1))) (h2 : StOk top (qs.map (·.1))) (h : ∀ x, 0 ≤ x → x ≤ top → atF ps x = atF qs x) : normalF (stretchF ps top) = normalF (stretchF qs top) := by
  rw [normal_g h1, normal_g h2, gfold_congr _ _ _ fun y ha hb => h y ha (by omega)]
end Kf
namespace Kf
open PySem PySem.Spec L2 StX ClX Dn
open PyProof.Rows hiding St
variable {P : Program} {w : World} {K : PySem.W.Frag} {mg : Str → Option Value} {base : Heap}
theorem bend_starts (ps : List Pc) (b : Bool) : (bend ps b).map (·.1) = ps.map (·.1) := by
  cases h : ps.reverse with
  | nil =>
    have : ps = [] := by simpa using h
    subst this
    rfl
  | cons q r =>
    have : ps = r.reverse ++ [q] := by
      have := congrArg List.reverse h
      simpa using this
    subst this
    rw [bend_snoc, List.map_append, List.map_append]
    rfl
theorem gfold_starts (F : Int → Int) : ∀ (n : Nat) (x : Int) (s : NS), 0 ≤ x → (x = 0 ∧ s.1 = [] ∨ StOk (x - 1) (s.1.map (·.1))) → (x + n = 0 ∧ (gfold F n x s).1 = [] ∨ StOk (x + n - 1) ((gfold F n x s).1.map (·.1)))
  | 0, x, s, _, h => by
    rw [show x + ((0 : Nat) : Int) = x by omega]
    exact h
  | n + 1, x, s, hx, h => by
    have h1 : StOk (x + 1 - 1) ((gstep s x (F x)).1.map (·.1)) := by
      rw [Int.add_sub_cancel]
      unfold gstep
      split
      · rename_i hj
        show StOk x ((bend s.1 (decide (F x - s.2.1 = 1))).map (·.1))
        rw [bend_starts]
        rcases h with ⟨_, h2⟩ | h2
        · rw [h2] at hj
          cases hj
        · exact ⟨h2.1, h2.2.1, fun y hy => ⟨(h2.2.2 y hy).1, by have := (h2.2.2 y hy).2; omega⟩⟩
      · show StOk x ((s.1 ++ [(x, F x, false)]).map (·.1))
        rw [List.map_append]
        rcases h with ⟨h2, h3⟩ | h2
        · rw [h3, h2]
          exact ⟨rfl, List.pairwise_singleton _ _, fun y hy => by
            have : y = 0 := List.mem_singleton.mp hy
            omega⟩
        · obtain ⟨k1, k2, k3⟩ := h2
          refine ⟨?_, List.pairwise_append.mpr ⟨k2, List.pairwise_singleton _ _, fun a ha b hb => ?_⟩, fun y hy => ?_⟩
          · rw [List.head?_append, k1]
            rfl
          · have : b = x := List.mem_singleton.mp hb
            have := (k3 a ha).2
            omega
          · rcases List.mem_append.mp hy with h4 | h4
            · have := k3 y h4
              omega
            · have : y = x := List.mem_singleton.mp h4
              omega
    have := gfold_starts F n (x + 1) _ (by omega) (.inr h1)
    rw [show x + 1 + (n : Int) = x + ((n + 1 : Nat) : Int) by omega] at this
    exact this
theorem normal_starts {top : Int} {ps : List Pc} (ht : 0 ≤ top) (hst : StOk top (ps.map (·.1))) : StOk top ((normalF (stretchF ps top)).map (·.1)) := by
  rw [normal_g hst]
  rcases gfold_starts (atF ps) (top + 1).toNat 0 ([], 0, none) (Int.le_refl _) (.inl ⟨rfl, rfl⟩) with ⟨h, _⟩ | h
  · omega
  · rw [show 0 + ((top + 1).toNat : Int) - 1 = top by omega] at h
    exact h
theorem normal_val {top : Int} {ps : List Pc} (hst : StOk top (ps.map (·.1))) {x : Int} (h0 : 0 ≤ x) (h1 : x ≤ top) : valAt (normalF (stretchF ps top)) x = atF ps x := by
  have h := normal_starts (by omega) hst
  rw [valAt_at h.2.1 ⟨0, h.1, h0⟩, normal_at hst h0 h1]
theorem normal_idem {top : Int} {ps : List Pc} (ht : 0 ≤ top) (hst : StOk top (ps.map (·.1))) : normalF (stretchF (normalF (stretchF ps top)) top) = normalF (stretchF ps top) :=
  normal_eq (normal_starts ht hst) hst fun x h0 h1 => normal_at hst h0 h1
theorem normal_inj {top : Int} {ps qs : List Pc} (h1 : StOk top (ps.map (·.1))) (h2 : StOk top (qs.map (·.1))) (h : normalF (stretchF ps top) = normalF (stretchF qs top)) {x : Int} (h3 : 0 ≤ x) (h4 : x ≤ top) : atF ps x = atF qs x := by
  rw [← normal_at h1 h3 h4, ← normal_at h2 h3 h4, h]
end Kf
namespace Kf
open PySem PySem.Spec L2 StX ClX Dn
open PyProof.Rows hiding St
variable {P : Program} {w : World} {K : PySem.W.Frag} {mg : Str → Option Value} {base : Heap}
def Mono (F : Int → Int) (top l e : Int) : Prop := l ≤ F e ∧ ∀ x, e ≤ x → x < top → F x ≤ F (x + 1)
theorem run_mono (top : Int) : ∀ (r qs : List Pc) (l e : Int), StOk top ((qs ++ r).map (·.1)) → (∀ p, r.head? = some p → e = p.1) → r ≠ [] →
    (Mono (atF (qs ++ r)) top l e → runR l (stretchF r top) = some (atF (qs ++ r) top)) ∧ (¬ Mono (atF (qs ++ r)) top l e → runR l (stretchF r top) = none)
  | [], _, _, _, _, _, hr => absurd rfl hr
  | p :: r, qs, l, e, hst, he, _ => by
    have hpe : e = p.1 := he p rfl
    subst hpe
    have hmem : p.1 ∈ (qs ++ p :: r).map (·.1) := List.mem_map_of_mem (by simp)
    have hb := hst.2.2 p.1 hmem
    have hpw := hst.2.1
    rw [List.map_append, List.map_cons, List.pairwise_append] at hpw
    have hgt : ∀ q ∈ r, p.1 < q.1 := fun q hq => (List.pairwise_cons.mp hpw.2.1).1 q.1 (List.mem_map_of_mem hq)
    have hpwr : (r.map (·.1)).Pairwise (· < ·) := (List.pairwise_cons.mp hpw.2.1).2
    have hend : p.1 ≤ endOf top r ∧ endOf top r ≤ top := by
      cases r with
      | nil => exact ⟨hb.2, Int.le_refl _⟩
      | cons q r =>
        have h1 := hgt q List.mem_cons_self
        have h2 := hst.2.2 q.1 (List.mem_map_of_mem (by simp))
        show p.1 ≤ q.1 - 1 ∧ q.1 - 1 ≤ top
        omega
    have hlt : ∀ x, x ≤ endOf top r → ∀ q ∈ r, x < q.1 := by
      intro x hx q hq
      cases r with
      | nil => cases hq
      | cons q0 r =>
        have hx : x ≤ q0.1 - 1 := hx
        rcases List.mem_cons.mp hq with rfl | hq
        · omega
        · rw [List.map_cons] at hpwr
          have := (List.pairwise_cons.mp hpwr).1 q.1 (List.mem_map_of_mem hq)
          omega
    have hF : ∀ x, p.1 ≤ x → x ≤ endOf top r → atF (qs ++ p :: r) x = pval p x := fun x h1 h2 => atF_mid qs p r x h1 (hlt x h2)
    have hF0 : atF (qs ++ p :: r) p.1 = p.2.1 := by
      rw [hF p.1 (Int.le_refl _) hend.1]
      unfold pval
      split <;> omega
    have hFe : lastRow (p.1, endOf top r, p.2.1, p.2.2) = atF (qs ++ p :: r) (endOf top r) := by
      rw [hF _ hend.1 (Int.le_refl _)]
      rfl
    have hin : ∀ x, p.1 ≤ x → x < endOf top r → atF (qs ++ p :: r) x ≤ atF (qs ++ p :: r) (x + 1) := fun x h1 h2 => by
      rw [hF x h1 (by omega), hF (x + 1) (by omega) (by omega)]
      unfold pval
      split <;> omega
    have hrun : runR l (stretchF (p :: r) top) = if p.2.1 < l then none else runR (atF (qs ++ p :: r) (endOf top r)) (stretchF r top) := by
      rw [stretch_cons]
      show (if p.2.1 < l then none else runR (lastRow (p.1, endOf top r, p.2.1, p.2.2)) (stretchF r top)) = _
      rw [hFe]
    rw [hrun]
    cases hr : r with
    | nil =>
      subst hr
      have e1 : endOf top [] = top := rfl
      rw [e1] at hin ⊢
      refine ⟨fun hm => ?_, fun hm => ?_⟩
      · have := hm.1
        rw [hF0] at this
        rw [if_neg (by omega)]
        rfl
      · by_cases hl : p.2.1 < l
        · rw [if_pos hl]
        · exact absurd ⟨by rw [hF0]; omega, hin⟩ hm
    | cons q r2 =>
      subst hr
      have e1 : qs ++ p :: q :: r2 = (qs ++ [p]) ++ q :: r2 := by simp
      have e2 : endOf top (q :: r2) = q.1 - 1 := rfl
      have hq := hst.2.2 q.1 (List.mem_map_of_mem (by simp))
      rw [e2] at hin hend ⊢
      have ih := run_mono top (q :: r2) (qs ++ [p]) (atF (qs ++ p :: q :: r2) (q.1 - 1)) q.1 (by rw [← e1]; exact hst) (fun p' hp' => by cases hp'; rfl) (by simp)
      rw [← e1] at ih
      refine ⟨fun hm => ?_, fun hm => ?_⟩
      · have h1 := hm.1
        rw [hF0] at h1
        rw [if_neg (by omega)]
        refine ih.1 ⟨?_, fun x h1 h2 => hm.2 x (by omega) h2⟩
        have := hm.2 (q.1 - 1) hend.1 (by omega)
        rw [show q.1 - 1 + 1 = q.1 by omega] at this
        exact this
      · by_cases hl : p.2.1 < l
        · rw [if_pos hl]
        · rw [if_neg hl]
          refine ih.2 fun hm2 => hm ⟨by rw [hF0]; omega, fun x h1 h2 => ?_⟩
          by_cases h3 : x < q.1 - 1
          · exact hin x h1 h3
          · by_cases h4 : x = q.1 - 1
            · subst h4
              rw [show q.1 - 1 + 1 = q.1 by omega]
              exact hm2.1
            · exact hm2.2 x (by omega) h2
theorem stays_iff {top g : Int} {ps : List Pc} (hst : StOk top (ps.map (·.1))) : stays g 0 (stretchF ps top) = true ↔ Mono (atF ps) top 0 0 ∧ atF ps top ≤ g := by
  have hne : ps ≠ [] := fun e => by
    have := hst.1
    rw [e] at this
    cases this
  have h := run_mono top ps [] 0 0 (by simpa using hst) (fun p hp => by
    have := hst.1
    rw [List.head?_map, hp] at this
    exact (Option.some.inj this).symm) hne
  rw [List.nil_append] at h
  rw [stays_run]
  by_cases hm : Mono (atF ps) top 0 0
  · rw [h.1 hm]
    exact ⟨fun z => ⟨hm, of_decide_eq_true z⟩, fun z => decide_eq_true z.2⟩
  · rw [h.2 hm]
    exact ⟨fun z => (by cases z), fun z => absurd z.1 hm⟩
end Kf
namespace Kf
open PySem PySem.Spec L2 StX ClX Dn
open PyProof.Rows hiding St
variable {P : Program} {w : World} {K : PySem.W.Frag} {mg : Str → Option Value} {base : Heap}
theorem mono_nn {F : Int → Int} {top : Int} (h : Mono F top 0 0) : ∀ n : Nat, (n : Int) ≤ top → 0 ≤ F n
  | 0, _ => h.1
  | n + 1, hn => by
    have h1 := mono_nn h n (by omega)
    have h2 := h.2 n (by omega) (by omega)
    have : ((n + 1 : Nat) : Int) = (n : Int) + 1 := by omega
    rw [this]
    omega
theorem normal_ok {top g : Int} {ps : List Pc} (ht : 0 ≤ top) (h : PsOk top g ps) : PsOk top g (normalF (stretchF ps top)) := by
  obtain ⟨_, h1, h2⟩ := h
  obtain ⟨hst, _⟩ := arePieces_tells h1
  obtain ⟨hm, hg⟩ := (stays_iff hst).mp h2
  have hN := normal_starts ht hst
  have hat : ∀ x, 0 ≤ x → x ≤ top → atF (normalF (stretchF ps top)) x = atF ps x := fun x a b => normal_at hst a b
  generalize normalF (stretchF ps top) = N at *
  have hne : N ≠ [] := fun e => by
    have := hN.1
    rw [e] at this
    cases this
  refine ⟨hne, arePieces_of hN fun p hp => ?_, (stays_iff hN).mpr ⟨⟨?_, fun x a b => ?_⟩, ?_⟩⟩
  · have hb := hN.2.2 p.1 (List.mem_map_of_mem hp)
    obtain ⟨a, b, hab⟩ := List.append_of_mem hp
    have hgt : ∀ q ∈ b, p.1 < q.1 := by
      have hpw := hN.2.1
      rw [hab, List.map_append, List.map_cons, List.pairwise_append] at hpw
      exact fun q hq => (List.pairwise_cons.mp hpw.2.1).1 q.1 (List.mem_map_of_mem hq)
    have e1 : atF N p.1 = p.2.1 := by
      rw [hab, atF_mid a p b p.1 (Int.le_refl _) hgt]
      unfold pval
      split <;> omega
    rw [← e1, hat p.1 hb.1 hb.2]
    have := mono_nn hm p.1.toNat (by omega)
    rw [show ((p.1.toNat : Nat) : Int) = p.1 by omega] at this
    exact this
  · rw [hat 0 (Int.le_refl _) ht]
    exact hm.1
  · rw [hat x a (by omega), hat (x + 1) (by omega) (by omega)]
    exact hm.2 x a b
  · rw [hat top ht (Int.le_refl _)]
    exact hg
end Kf
namespace Kf
open PySem PySem.Spec L2 StX ClX Dn
open PyProof.Rows hiding St
variable {P : Program} {w : World} {K : PySem.W.Frag} {mg : Str → Option Value} {base : Heap}
def Cov (F : Int → Int) : List Row → Int → Int → Prop
  | [], lo, hi => lo = hi + 1
  | r :: rs, lo, hi => r.1 = lo ∧ lo ≤ r.2.1 ∧ (∀ x, lo ≤ x → x ≤ r.2.1 → onRow r x = F x) ∧ Cov F rs (r.2.1 + 1) hi
theorem cov_le {F : Int → Int} : ∀ {rs : List Row} {lo hi : Int}, Cov F rs lo hi → lo ≤ hi + 1
  | [], lo, hi, h => by
    have h : lo = hi + 1 := h
    omega
  | r :: rs, lo, hi, h => by
    have := cov_le h.2.2.2
    have := h.2.1
    omega
theorem cov_get {F : Int → Int} : ∀ {rs : List Row} {lo hi : Int} {i : Nat} {r : Row}, Cov F rs lo hi → rs[i]? = some r → lo ≤ r.1 ∧ r.1 ≤ r.2.1 ∧ r.2.1 ≤ hi ∧ ∀ x, r.1 ≤ x → x ≤ r.2.1 → onRow r x = F x
  | r :: rs, lo, hi, 0, r', h, e => by
    cases e
    obtain ⟨h1, h2, h3, h4⟩ := h
    subst h1
    have := cov_le h4
    exact ⟨Int.le_refl _, h2, by omega, h3⟩
  | r :: rs, lo, hi, i + 1, r', h, e => by
    obtain ⟨h1, h2, h3, h4⟩ := h
    obtain ⟨a, b, c, d⟩ := cov_get h4 (by simpa using e)
    exact ⟨by omega, b, c, d⟩
theorem cov_next {F : Int → Int} : ∀ {rs : List Row} {lo hi : Int} {i : Nat} {r q : Row}, Cov F rs lo hi → rs[i]? = some r → rs[i + 1]? = some q → q.1 = r.2.1 + 1
  | r :: q :: rs, lo, hi, 0, r', q', h, e, e2 => by
    cases e
    cases e2
    exact h.2.2.2.1
  | [r], lo, hi, 0, r', q', h, e, e2 => by simp at e2
  | r :: rs, lo, hi, i + 1, r', q', h, e, e2 => cov_next h.2.2.2 (by simpa using e) (by simpa using e2)
theorem cov_last {F : Int → Int} : ∀ {rs : List Row} {lo hi : Int} {i : Nat} {r : Row}, Cov F rs lo hi → rs[i]? = some r → rs[i + 1]? = none → r.2.1 = hi
  | [r], lo, hi, 0, r', h, e, e2 => by
    cases e
    have h : r.2.1 + 1 = hi + 1 := h.2.2.2
    omega
  | r :: q :: rs, lo, hi, 0, r', h, e, e2 => by simp at e2
  | r :: rs, lo, hi, i + 1, r', h, e, e2 => cov_last h.2.2.2 (by simpa using e) (by simpa using e2)
theorem cov_first {F : Int → Int} {rs : List Row} {lo hi : Int} {r : Row} (h : Cov F rs lo hi) (e : rs[0]? = some r) : r.1 = lo := by
  cases rs with
  | nil => simp at e
  | cons q rs => cases e; exact h.1
theorem cov_ne {F : Int → Int} {rs : List Row} {lo hi : Int} (h : Cov F rs lo hi) (hl : lo ≤ hi) : 0 < rs.length := by
  cases rs with
  | nil =>
    have h : lo = hi + 1 := h
    omega
  | cons r rs => simp
theorem cov_app {F : Int → Int} : ∀ {rs qs : List Row} {lo mid hi : Int}, Cov F rs lo mid → Cov F qs (mid + 1) hi → Cov F (rs ++ qs) lo hi
  | [], qs, lo, mid, hi, h, h2 => by
    have h : lo = mid + 1 := h
    rw [h]
    exact h2
  | r :: rs, qs, lo, mid, hi, h, h2 => ⟨h.1, h.2.1, h.2.2.1, cov_app h.2.2.2 h2⟩
theorem cov_one {F : Int → Int} {r : Row} (h : r.1 ≤ r.2.1) (hF : ∀ x, r.1 ≤ x → x ≤ r.2.1 → onRow r x = F x) : Cov F [r] r.1 r.2.1 := ⟨rfl, h, hF, rfl⟩
theorem cov_snoc {F : Int → Int} {rs : List Row} {r : Row} {lo a : Int} (h : Cov F rs lo (a - 1)) (e : r.1 = a) (hl : r.1 ≤ r.2.1) (hF : ∀ x, r.1 ≤ x → x ≤ r.2.1 → onRow r x = F x) : Cov F (rs ++ [r]) lo r.2.1 := by
  refine cov_app h ?_
  rw [show a - 1 + 1 = r.1 by omega]
  exact cov_one hl hF
theorem cov_congr {F G : Int → Int} : ∀ {rs : List Row} {lo hi : Int}, Cov F rs lo hi → (∀ x, lo ≤ x → x ≤ hi → F x = G x) → Cov G rs lo hi
  | [], _, _, h, _ => h
  | r :: rs, lo, hi, h, e => by
    obtain ⟨h1, h2, h3, h4⟩ := h
    have := cov_le h4
    exact ⟨h1, h2, fun x a b => (h3 x a b).trans (e x a (by omega)), cov_congr h4 fun x a b => e x (by omega) b⟩
theorem cov_uniq {F G : Int → Int} : ∀ {rs : List Row} {lo hi : Int}, Cov F rs lo hi → Cov G rs lo hi → ∀ x, lo ≤ x → x ≤ hi → F x = G x
  | [], lo, hi, h, _, x, a, b => by
    have h : lo = hi + 1 := h
    omega
  | r :: rs, lo, hi, h, g, x, a, b => by
    by_cases hx : x ≤ r.2.1
    · exact (h.2.2.1 x a hx).symm.trans (g.2.2.1 x a hx)
    · exact cov_uniq h.2.2.2 g.2.2.2 x (by omega) b
theorem cov_run (top : Int) : ∀ (r qs : List Pc) (e : Int), StOk top ((qs ++ r).map (·.1)) → (∀ p, r.head? = some p → e = p.1) → r ≠ [] → Cov (atF (qs ++ r)) (stretchF r top) e top
  | [], _, _, _, _, hr => absurd rfl hr
  | p :: r, qs, e, hst, he, _ => by
    have hpe : e = p.1 := he p rfl
    subst hpe
    have hmem : p.1 ∈ (qs ++ p :: r).map (·.1) := List.mem_map_of_mem (by simp)
    have hb := hst.2.2 p.1 hmem
    have hgt : ∀ q ∈ r, p.1 < q.1 := by
      have hpw := hst.2.1
      rw [List.map_append, List.map_cons, List.pairwise_append] at hpw
      exact fun q hq => (List.pairwise_cons.mp hpw.2.1).1 q.1 (List.mem_map_of_mem hq)
    have hpwr : (r.map (·.1)).Pairwise (· < ·) := by
      have hpw := hst.2.1
      rw [List.map_append, List.map_cons, List.pairwise_append] at hpw
      exact (List.pairwise_cons.mp hpw.2.1).2
    have hend : p.1 ≤ endOf top r := by
      cases r with
      | nil => exact hb.2
      | cons q r =>
        have := hgt q List.mem_cons_self
        show p.1 ≤ q.1 - 1
        omega
    have hlt : ∀ x, x ≤ endOf top r → ∀ q ∈ r, x < q.1 := by
      intro x hx q hq
      cases r with
      | nil => cases hq
      | cons q0 r =>
        have hx : x ≤ q0.1 - 1 := hx
        rcases List.mem_cons.mp hq with rfl | hq
        · omega
        · rw [List.map_cons] at hpwr
          have := (List.pairwise_cons.mp hpwr).1 q.1 (List.mem_map_of_mem hq)
          omega
    rw [stretch_cons]
    refine ⟨rfl, hend, fun x hx1 hx2 => ?_, ?_⟩
    · rw [atF_mid qs p r x hx1 (hlt x hx2)]
      rfl
    · cases hr : r with
      | nil => rfl
      | cons q r2 =>
        have e1 : qs ++ p :: q :: r2 = (qs ++ [p]) ++ q :: r2 := by simp
        rw [hr] at hst
        rw [e1] at hst ⊢
        have e2 : endOf top (q :: r2) + 1 = q.1 := by
          show q.1 - 1 + 1 = q.1
          omega
        show Cov _ _ (endOf top (q :: r2) + 1) _
        rw [e2]
        exact cov_run top (q :: r2) (qs ++ [p]) q.1 hst (fun p' hp' => by cases hp'; rfl) (by simp)
theorem rows_cov {top : Int} {ps : List Pc} (hst : StOk top (ps.map (·.1))) : Cov (atF ps) (stretchF ps top) 0 top := by
  have hne : ps ≠ [] := fun e => by
    have := hst.1
    rw [e] at this
    cases this
  exact cov_run top ps [] 0 (by simpa using hst) (fun p hp => by
    have := hst.1
    rw [List.head?_map, hp] at this
    exact (Option.some.inj this).symm) hne
def pcs (rs : List Row) : List Pc := rs.map fun r => (r.1, r.2.2.1, r.2.2.2)
theorem pcs_stretch {F : Int → Int} : ∀ {rs : List Row} {lo hi : Int}, Cov F rs lo hi → stretchF (pcs rs) hi = rs
  | [], _, _, _ => rfl
  | [r], lo, hi, h => by
    have h2 : r.2.1 + 1 = hi + 1 := h.2.2.2
    have h2 : hi = r.2.1 := by omega
    subst h2
    rfl
  | r :: q :: rs, lo, hi, h => by
    have ih := pcs_stretch h.2.2.2
    have h2 : q.1 = r.2.1 + 1 := h.2.2.2.1
    show (r.1, q.1 - 1, r.2.2.1, r.2.2.2) :: stretchF (pcs (q :: rs)) hi = _
    rw [ih, h2, show r.2.1 + 1 - 1 = r.2.1 by omega]
theorem pcs_starts {F : Int → Int} : ∀ {rs : List Row} {lo hi : Int}, Cov F rs lo hi → ((pcs rs).map (·.1)).Pairwise (· < ·) ∧ ∀ y ∈ (pcs rs).map (·.1), lo ≤ y ∧ y ≤ hi
  | [], _, _, _ => ⟨List.Pairwise.nil, fun y hy => by cases hy⟩
  | r :: rs, lo, hi, h => by
    obtain ⟨h1, h2, h3, h4⟩ := h
    obtain ⟨a, b⟩ := pcs_starts h4
    have := cov_le h4
    refine ⟨List.pairwise_cons.mpr ⟨fun y hy => ?_, a⟩, fun y hy => ?_⟩
    · have := b y hy
      show r.1 < y
      omega
    · rcases List.mem_cons.mp hy with rfl | hy
      · show lo ≤ r.1 ∧ r.1 ≤ hi
        omega
      · have := b y hy
        omega
theorem pcs_ok {F : Int → Int} {rs : List Row} {top : Int} (ht : 0 ≤ top) (h : Cov F rs 0 top) : StOk top ((pcs rs).map (·.1)) := by
  obtain ⟨a, b⟩ := pcs_starts h
  refine ⟨?_, a, b⟩
  cases rs with
  | nil =>
    have h : (0 : Int) = top + 1 := h
    omega
  | cons r rs =>
    show some r.1 = some 0
    rw [h.1]
theorem pcs_at {F : Int → Int} {rs : List Row} {top : Int} (ht : 0 ≤ top) (h : Cov F rs 0 top) : ∀ x, 0 ≤ x → x ≤ top → atF (pcs rs) x = F x := by
  have h1 := rows_cov (pcs_ok ht h)
  rw [pcs_stretch h] at h1
  exact cov_uniq h1 h
def nf (F : Int → Int) (t : Int) : List Pc := (gfold F (t + 1).toNat 0 ([], 0, none)).1
theorem nf_congr {F G : Int → Int} {t : Int} (h : ∀ x, 0 ≤ x → x ≤ t → F x = G x) : nf F t = nf G t := by
  unfold nf
  rw [gfold_congr _ _ _ fun y ha hb => h y ha (by omega)]
theorem normal_nf {F : Int → Int} {rs : List Row} {top : Int} (ht : 0 ≤ top) (h : Cov F rs 0 top) : normalF rs = nf F top := by
  have h1 := normal_g (pcs_ok ht h)
  rw [pcs_stretch h] at h1
  rw [h1]
  exact nf_congr (pcs_at ht h)
structure Good (F : Int → Int) (t g : Int) : Prop where
  t0 : 0 ≤ t
  g0 : 0 ≤ g
  lo : 0 ≤ F 0
  up : ∀ x, 0 ≤ x → x < t → F x ≤ F (x + 1)
  hi : F t ≤ g
theorem Good.leN {F : Int → Int} {t g : Int} (h : Good F t g) {x : Int} (hx : 0 ≤ x) : ∀ n : Nat, x + n ≤ t → F x ≤ F (x + n)
  | 0, _ => by
    rw [show x + ((0 : Nat) : Int) = x by omega]
    exact Int.le_refl _
  | n + 1, hn => by
    have h1 := h.leN hx n (by omega)
    have h2 := h.up (x + n) (by omega) (by omega)
    rw [show x + ((n + 1 : Nat) : Int) = x + n + 1 by omega]
    omega
theorem Good.le {F : Int → Int} {t g : Int} (h : Good F t g) {x y : Int} (hx : 0 ≤ x) (hxy : x ≤ y) (hy : y ≤ t) : F x ≤ F y := by
  have := h.leN hx (y - x).toNat (by omega)
  rw [show x + ((y - x).toNat : Int) = y by omega] at this
  exact this
theorem Good.nn {F : Int → Int} {t g : Int} (h : Good F t g) {x : Int} (hx : 0 ≤ x) (ht : x ≤ t) : 0 ≤ F x := by
  have h1 := h.le (Int.le_refl 0) hx ht
  have h2 := h.lo
  omega
theorem Good.ub {F : Int → Int} {t g : Int} (h : Good F t g) {x : Int} (hx : 0 ≤ x) (ht : x ≤ t) : F x ≤ g := by
  have h1 := h.le hx ht (Int.le_refl t)
  have h2 := h.hi
  omega
def IsP (C : Addr) (t g : Int) (F : Int → Int) (N : Nat) (d : D) : Prop := d = psgD C t g (nf F t) ∧ StOk t ((nf F t).map (·.1)) ∧ (∀ x, 0 ≤ x → x ≤ t → atF (nf F t) x = F x) ∧ Good F t g ∧ (nf F t).length ≤ N
theorem IsP.mono {C : Addr} {t g : Int} {F : Int → Int} {N M : Nat} {d : D} (h : IsP C t g F N d) (hn : N ≤ M) : IsP C t g F M d := ⟨h.1, h.2.1, h.2.2.1, h.2.2.2.1, Nat.le_trans h.2.2.2.2 hn⟩
theorem IsP.rows {C : Addr} {t g : Int} {F : Int → Int} {N : Nat} {d : D} (h : IsP C t g F N d) : Cov F (stretchF (nf F t) t) 0 t := cov_congr (rows_cov h.2.1) h.2.2.1
theorem isP_of {C : Addr} {t g : Int} {F : Int → Int} {N : Nat} {rs : List Row} (hg : Good F t g) (h : Cov F rs 0 t) (hl : rs.length ≤ N) : IsP C t g F N (psgD C t g (normalF rs)) := by
  have e := normal_nf hg.t0 h
  have hst := pcs_ok hg.t0 h
  refine ⟨by rw [e], ?_, fun x h0 h1 => ?_, hg, ?_⟩
  · have := normal_starts hg.t0 hst
    rw [pcs_stretch h, e] at this
    exact this
  · have := normal_at hst h0 h1
    rw [pcs_stretch h, e] at this
    rw [this]
    exact pcs_at hg.t0 h x h0 h1
  · rw [← e]
    have := nrun_length rs ([], 0, none)
    unfold normalF nrun
    simp at this
    omega
theorem isP_eq {C : Addr} {t g : Int} {F G : Int → Int} {N M : Nat} {d e : D} (h1 : IsP C t g F N d) (h2 : IsP C t g G M e) : nf F t = nf G t ↔ ∀ x, 0 ≤ x → x ≤ t → F x = G x := by
  refine ⟨fun h x a b => ?_, nf_congr⟩
  rw [← h1.2.2.1 x a b, ← h2.2.2.1 x a b, h]
theorem init_wants {F : Int → Int} {t g : Int} {rs : List Row} (hg : Good F t g) (h : Cov F rs 0 t) : arePieces (.lst ((pcs rs).map pcD)) t = true ∧ stays g 0 (stretchF (pcs rs) t) = true := by
  have hst := pcs_ok hg.t0 h
  have hat := pcs_at hg.t0 h
  have hc := pcs_starts h
  refine ⟨arePieces_of hst fun p hp => ?_, (stays_iff hst).mpr ⟨⟨?_, fun x h0 h1 => ?_⟩, ?_⟩⟩
  · obtain ⟨r, hr, rfl⟩ := List.mem_map.mp hp
    obtain ⟨i, hi⟩ := List.getElem?_of_mem hr
    obtain ⟨a, b, c, d⟩ := cov_get h hi
    have e := d r.1 (Int.le_refl _) b
    have e2 : onRow r r.1 = r.2.2.1 := by
      unfold onRow
      split <;> omega
    show 0 ≤ r.2.2.1
    rw [← e2, e]
    exact hg.nn a (by omega)
  · rw [hat 0 (Int.le_refl _) hg.t0]
    exact hg.lo
  · rw [hat x h0 (by omega), hat (x + 1) (by omega) (by omega)]
    exact hg.up x h0 h1
  · rw [hat t hg.t0 (Int.le_refl _)]
    exact hg.hi
end Kf
namespace Kf
open PySem PySem.Spec L2 StX ClX Dn
open PyProof.Rows hiding St
variable {P : Program} {w : World} {K : PySem.W.Frag} {mg : Str → Option Value} {base : Heap}
def lesF (a b : Int) : Int := if a < b then a else b
def F_lesser : FT := fun args st Ret _ => ∃ a b, args = [.dat (.int a), .dat (.int b)] ∧ Ret (.dat (.int (lesF a b))) st
theorem ok_lesser {f : Addr} {fd : FuncData} (Fn : Fun K "lesser" "lesser" s_lesser f fd) (b : Binds K fd p_lesser []) : FnG P w K mg base (L2.CX P w) 1 f (spD K F_lesser) := by
  refine fnD Fn sc_lesser b (fun args st0 Ret Exc h => ?_) ?_
  · obtain ⟨a, c, rfl, _⟩ := h
    rfl
  intro cdv A outer s H E H0 Al args st0 Ret Exc hr xk hp hal hcl hF
  obtain ⟨a, c, rfl, q⟩ := hF
  have q2 := krE_of hcl q
  refine sw_cons ?_
  refine sw_ret ?_
  refine ew_if ?_
  refine tw_cmp (nomark _) ?_
  refine ew_name 0 rfl ?_
  refine ew_name 1 rfl ?_
  refine o_lt ?_
  refine ⟨_, rfl, ?_⟩
  unfold lesF at q2
  refine ifD (fun h => ?_) (fun h => ?_)
  · refine ew_name 0 rfl ?_
    rw [if_pos h] at q2
    exact q2
  · refine ew_name 1 rfl ?_
    rw [if_neg h] at q2
    exact q2
def cutR (r : Row) (lo hi : Int) : Row := (lo, hi, onRow r lo, r.2.2.2)
theorem cut_on (r : Row) (lo hi x : Int) : onRow (cutR r lo hi) x = onRow r x := by
  unfold cutR onRow
  show (if r.2.2.2 = true then (if r.2.2.2 = true then r.2.2.1 + (lo - r.1) else r.2.2.1) + (x - lo) else (if r.2.2.2 = true then r.2.2.1 + (lo - r.1) else r.2.2.1)) = _
  split <;> omega
def F_cut : FT := fun args st Ret _ => ∃ r lo hi, args = [.dat (rowD r), .dat (.int lo), .dat (.int hi)] ∧ Ret (.dat (rowD (cutR r lo hi))) st
theorem ok_cut {f : Addr} {fd : FuncData} (C_value_on : Cal P w K mg base 1 "value_on" F_value_on) (Fn : Fun K "cut" "cut" s_cut f fd) (b : Binds K fd p_cut []) : FnG P w K mg base (L2.CX P w) 2 f (spD K F_cut) := by
  refine fnD Fn sc_cut b (fun args st0 Ret Exc h => ?_) ?_
  · obtain ⟨r, lo, hi, rfl, _⟩ := h
    rfl
  intro cdv A outer s H E H0 Al args st0 Ret Exc hr xk hp hal hcl hF
  obtain ⟨r, lo, hi, rfl, q⟩ := hF
  have q2 := krE_of hcl q
  refine sw_cons ?_
  refine sw_ret ?_
  refine ew_tup ?_
  refine aw_cons ?_
  refine ew_name 1 rfl ?_
  refine aw_cons ?_
  refine ew_name 2 rfl ?_
  refine aw_cons ?_
  refine ew_call C_value_on hr (by decide) xk ?_
  refine aw_cons ?_
  refine ew_name 0 rfl ?_
  refine aw_cons ?_
  refine ew_name 1 rfl ?_
  refine aw_nil ?_
  refine ⟨_, _, rfl, ?_⟩
  refine aw_cons ?_
  refine ew_ix ?_
  refine ew_name 0 rfl ?_
  refine ew_int ?_
  refine ⟨_, _, rfl, itm_tup (j := 3) rfl rfl, ?_⟩
  refine aw_nil ?_
  exact ⟨_, rfl, (by show 4 ≤ sizeLine; decide), q2⟩
abbrev pairD (a b : Row) : D := .tup [rowD a, rowD b]
def levF (r o : Row) : Row × Row := if r.2.2.2 = true then (o, r) else (r, o)
def F_level_first : FT := fun args st Ret _ => ∃ r o, args = [.dat (rowD r), .dat (rowD o)] ∧ Ret (.dat (pairD (levF r o).1 (levF r o).2)) st
theorem ok_level_first {f : Addr} {fd : FuncData} (Fn : Fun K "level_first" "level_first" s_level_first f fd) (b : Binds K fd p_level_first []) : FnG P w K mg base (L2.CX P w) 1 f (spD K F_level_first) := by
  refine fnD Fn sc_level_first b (fun args st0 Ret Exc h => ?_) ?_
  · obtain ⟨r, o, rfl, _⟩ := h
    rfl
  intro cdv A outer s H E H0 Al args st0 Ret Exc hr xk hp hal hcl hF
  obtain ⟨r, o, rfl, q⟩ := hF
  have q2 := krE_of hcl q
  refine sw_cons ?_
  refine sw_ret ?_
  refine ew_if ?_
  refine tw_val ?_
  refine ew_ix ?_
  refine ew_name 0 rfl ?_
  refine ew_int ?_
  refine ⟨_, _, rfl, itm_tup (j := 3) rfl rfl, ?_⟩
  refine ⟨_, rfl, ?_⟩
  unfold levF at q2
  refine ifB (fun h => ?_) (fun h => ?_)
  · refine ew_tup ?_
    refine aw_cons ?_
    refine ew_name 1 rfl ?_
    refine aw_cons ?_
    refine ew_name 0 rfl ?_
    refine aw_nil ?_
    refine ⟨_, rfl, (by show 2 ≤ sizeLine; decide), ?_⟩
    rw [if_pos h] at q2
    exact q2
  · refine ew_tup ?_
    refine aw_cons ?_
    refine ew_name 0 rfl ?_
    refine aw_cons ?_
    refine ew_name 1 rfl ?_
    refine aw_nil ?_
    refine ⟨_, rfl, (by show 2 ≤ sizeLine; decide), ?_⟩
    rw [if_neg (by rw [h]; exact Bool.false_ne_true)] at q2
    exact q2
def crossF (l r : Row) : Int := r.1 + l.2.2.1 - r.2.2.1
def F_crossing : FT := fun args st Ret _ => ∃ l r, args = [.dat (rowD l), .dat (rowD r)] ∧ Ret (.dat (.int (crossF l r))) st
theorem ok_crossing {f : Addr} {fd : FuncData} (Fn : Fun K "crossing" "crossing" s_crossing f fd) (b : Binds K fd p_crossing []) : FnG P w K mg base (L2.CX P w) 1 f (spD K F_crossing) := by
  refine fnD Fn sc_crossing b (fun args st0 Ret Exc h => ?_) ?_
  · obtain ⟨l, r, rfl, _⟩ := h
    rfl
  intro cdv A outer s H E H0 Al args st0 Ret Exc hr xk hp hal hcl hF
  obtain ⟨l, r, rfl, q⟩ := hF
  have q2 := krE_of hcl q
  refine sw_cons ?_
  refine sw_ret ?_
  refine ew_bin ?_
  refine ew_bin ?_
  refine ew_ix ?_
  refine ew_name 1 rfl ?_
  refine ew_int ?_
  refine ⟨_, _, rfl, itm_tup (j := 0) rfl rfl, ?_⟩
  refine ew_ix ?_
  refine ew_name 0 rfl ?_
  refine ew_int ?_
  refine ⟨_, _, rfl, itm_tup (j := 2) rfl rfl, ?_⟩
  refine o_add ?_
  refine ew_ix ?_
  refine ew_name 1 rfl ?_
  refine ew_int ?_
  refine ⟨_, _, rfl, itm_tup (j := 2) rfl rfl, ?_⟩
  refine o_sub ?_
  exact q2
def folF (a b : Row) (x : Int) : List Row := if x ≤ a.1 then [b] else if a.2.1 ≤ x then [a] else [cutR a a.1 x, cutR b (x + 1) a.2.1]
def F_followed : FT := fun args st Ret _ => ∃ a b x, args = [.dat (rowD a), .dat (rowD b), .dat (.int x)] ∧ Ret (.dat (.lst ((folF a b x).map rowD))) st
theorem ok_followed {f : Addr} {fd : FuncData} (C_cut : Cal P w K mg base 2 "cut" F_cut) (Fn : Fun K "followed" "followed" s_followed f fd) (b : Binds K fd p_followed []) : FnG P w K mg base (L2.CX P w) 3 f (spD K F_followed) := by
  refine fnD Fn sc_followed b (fun args st0 Ret Exc h => ?_) ?_
  · obtain ⟨a, c, x, rfl, _⟩ := h
    rfl
  intro cdv A outer s H E H0 Al args st0 Ret Exc hr xk hp hal hcl hF
  obtain ⟨a, c, x, rfl, q⟩ := hF
  have q2 := krE_of hcl q
  refine sw_cons ?_
  refine sw_par 3 4 rfl ?_ sc_followed.nd
  refine aw_cons ?_
  refine ew_ix ?_
  refine ew_name 0 rfl ?_
  refine ew_int ?_
  refine ⟨_, _, rfl, itm_tup (j := 0) rfl rfl, ?_⟩
  refine aw_cons ?_
  refine ew_ix ?_
  refine ew_name 0 rfl ?_
  refine ew_int ?_
  refine ⟨_, _, rfl, itm_tup (j := 1) rfl rfl, ?_⟩
  refine aw_nil ?_
  refine ⟨_, _, rfl, ?_⟩
  refine sw_cons ?_
  refine sw_if ?_
  refine tw_cmp (nomark _) ?_
  refine ew_name 2 rfl ?_
  refine ew_name 3 rfl ?_
  refine o_le ?_
  refine ⟨_, rfl, ?_⟩
  unfold folF at q2
  refine ifD (fun h => ?_) (fun h => ?_)
  · rw [if_pos h] at q2
    refine sw_cons ?_
    refine sw_ret ?_
    refine ew_lst ?_
    refine aw_cons ?_
    refine ew_name 1 rfl ?_
    refine aw_nil ?_
    exact ⟨_, rfl, (by show 1 ≤ sizeLine; decide), q2⟩
  · rw [if_neg h] at q2
    refine sw_nil ?_
    refine sw_cons ?_
    refine sw_if ?_
    refine tw_cmp (nomark _) ?_
    refine ew_name 2 rfl ?_
    refine ew_name 4 rfl ?_
    refine o_ge ?_
    refine ⟨_, rfl, ?_⟩
    refine ifD (fun h => ?_) (fun h => ?_)
    · rw [if_pos h] at q2
      refine sw_cons ?_
      refine sw_ret ?_
      refine ew_lst ?_
      refine aw_cons ?_
      refine ew_name 0 rfl ?_
      refine aw_nil ?_
      exact ⟨_, rfl, (by show 1 ≤ sizeLine; decide), q2⟩
    · rw [if_neg h] at q2
      refine sw_nil ?_
      refine sw_cons ?_
      refine sw_ret ?_
      refine ew_lst ?_
      refine aw_cons ?_
      refine ew_call C_cut hr (by decide) xk ?_
      refine aw_cons ?_
      refine ew_name 0 rfl ?_
      refine aw_cons ?_
      refine ew_name 3 rfl ?_
      refine aw_cons ?_
      refine ew_name 2 rfl ?_
      refine aw_nil ?_
      refine ⟨_, _, _, rfl, ?_⟩
      refine aw_cons ?_
      refine ew_call C_cut hr (by decide) xk ?_
      refine aw_cons ?_
      refine ew_name 1 rfl ?_
      refine aw_cons ?_
      refine ew_bin ?_
      refine ew_name 2 rfl ?_
      refine ew_int ?_
      refine o_add ?_
      refine aw_cons ?_
      refine ew_name 4 rfl ?_
      refine aw_nil ?_
      refine ⟨_, _, _, rfl, ?_⟩
      refine aw_nil ?_
      exact ⟨_, rfl, (by show 2 ≤ sizeLine; decide), q2⟩
def gpF (r o : Row) : List Row := if r.2.2.2 = o.2.2.2 then [if o.2.2.1 ≤ r.2.2.1 then r else o] else folF (levF r o).1 (levF r o).2 (crossF (levF r o).1 (levF r o).2)
def F_greater_parts : FT := fun args st Ret _ => ∃ r o, args = [.dat (rowD r), .dat (rowD o)] ∧ Ret (.dat (.lst ((gpF r o).map rowD))) st
theorem ok_greater_parts {f : Addr} {fd : FuncData} (C_level_first : Cal P w K mg base 1 "level_first" F_level_first) (C_crossing : Cal P w K mg base 1 "crossing" F_crossing) (C_followed : Cal P w K mg base 3 "followed" F_followed) (Fn : Fun K "greater_parts" "greater_parts" s_greater_parts f fd) (b : Binds K fd p_greater_parts []) : FnG P w K mg base (L2.CX P w) 4 f (spD K F_greater_parts) := by
  refine fnD Fn sc_greater_parts b (fun args st0 Ret Exc h => ?_) ?_
  · obtain ⟨r, o, rfl, _⟩ := h
    rfl
  intro cdv A outer s H E H0 Al args st0 Ret Exc hr xk hp hal hcl hF
  obtain ⟨r, o, rfl, q⟩ := hF
  have q2 := krE_of hcl q
  refine sw_cons ?_
  refine sw_if ?_
  refine tw_cmp (nomark _) ?_
  refine ew_ix ?_
  refine ew_name 0 rfl ?_
  refine ew_int ?_
  refine ⟨_, _, rfl, itm_tup (j := 3) rfl rfl, ?_⟩
  refine ew_ix ?_
  refine ew_name 1 rfl ?_
  refine ew_int ?_
  refine ⟨_, _, rfl, itm_tup (j := 3) rfl rfl, ?_⟩
  refine o_eqB ?_
  refine ⟨_, rfl, ?_⟩
  unfold gpF at q2
  refine ifD (fun h => ?_) (fun h => ?_)
  · rw [if_pos h] at q2
    refine sw_cons ?_
    refine sw_ret ?_
    refine ew_lst ?_
    refine aw_cons ?_
    refine ew_if ?_
    refine tw_cmp (nomark _) ?_
    refine ew_ix ?_
    refine ew_name 0 rfl ?_
    refine ew_int ?_
    refine ⟨_, _, rfl, itm_tup (j := 2) rfl rfl, ?_⟩
    refine ew_ix ?_
    refine ew_name 1 rfl ?_
    refine ew_int ?_
    refine ⟨_, _, rfl, itm_tup (j := 2) rfl rfl, ?_⟩
    refine o_ge ?_
    refine ⟨_, rfl, ?_⟩
    refine ifD (fun h => ?_) (fun h => ?_)
    · rw [if_pos h] at q2
      refine ew_name 0 rfl ?_
      refine aw_nil ?_
      exact ⟨_, rfl, (by show 1 ≤ sizeLine; decide), q2⟩
    · rw [if_neg h] at q2
      refine ew_name 1 rfl ?_
      refine aw_nil ?_
      exact ⟨_, rfl, (by show 1 ≤ sizeLine; decide), q2⟩
  · rw [if_neg h] at q2
    refine sw_nil ?_
    refine sw_cons ?_
    refine sw_asg ?_
    refine ew_call C_level_first hr (by decide) xk ?_
    refine aw_cons ?_
    refine ew_name 0 rfl ?_
    refine aw_cons ?_
    refine ew_name 1 rfl ?_
    refine aw_nil ?_
    refine ⟨_, _, rfl, ?_⟩
    refine gw_tup rfl ?_
    refine gs_cons ?_
    refine gw_name 2 ?_ sc_greater_parts.nd
    refine gs_cons ?_
    refine gw_name 3 ?_ sc_greater_parts.nd
    refine gs_nil ?_
    refine sw_cons ?_
    refine sw_ret ?_
    refine ew_call C_followed hr (by decide) xk ?_
    refine aw_cons ?_
    refine ew_name 2 rfl ?_
    refine aw_cons ?_
    refine ew_name 3 rfl ?_
    refine aw_cons ?_
    refine ew_call C_crossing hr (by decide) xk ?_
    refine aw_cons ?_
    refine ew_name 2 rfl ?_
    refine aw_cons ?_
    refine ew_name 3 rfl ?_
    refine aw_nil ?_
    refine ⟨_, _, rfl, ?_⟩
    refine aw_nil ?_
    exact ⟨_, _, _, rfl, q2⟩
def lpF (r o : Row) : List Row := if r.2.2.2 = o.2.2.2 then [if r.2.2.1 ≤ o.2.2.1 then r else o] else folF (levF r o).2 (levF r o).1 (crossF (levF r o).1 (levF r o).2)
def F_lesser_parts : FT := fun args st Ret _ => ∃ r o, args = [.dat (rowD r), .dat (rowD o)] ∧ Ret (.dat (.lst ((lpF r o).map rowD))) st
theorem ok_lesser_parts {f : Addr} {fd : FuncData} (C_level_first : Cal P w K mg base 1 "level_first" F_level_first) (C_crossing : Cal P w K mg base 1 "crossing" F_crossing) (C_followed : Cal P w K mg base 3 "followed" F_followed) (Fn : Fun K "lesser_parts" "lesser_parts" s_lesser_parts f fd) (b : Binds K fd p_lesser_parts []) : FnG P w K mg base (L2.CX P w) 4 f (spD K F_lesser_parts) := by
  refine fnD Fn sc_lesser_parts b (fun args st0 Ret Exc h => ?_) ?_
  · obtain ⟨r, o, rfl, _⟩ := h
    rfl
  intro cdv A outer s H E H0 Al args st0 Ret Exc hr xk hp hal hcl hF
  obtain ⟨r, o, rfl, q⟩ := hF
  have q2 := krE_of hcl q
  refine sw_cons ?_
  refine sw_if ?_
  refine tw_cmp (nomark _) ?_
  refine ew_ix ?_
  refine ew_name 0 rfl ?_
  refine ew_int ?_
  refine ⟨_, _, rfl, itm_tup (j := 3) rfl rfl, ?_⟩
  refine ew_ix ?_
  refine ew_name 1 rfl ?_
  refine ew_int ?_
  refine ⟨_, _, rfl, itm_tup (j := 3) rfl rfl, ?_⟩
  refine o_eqB ?_
  refine ⟨_, rfl, ?_⟩
  unfold lpF at q2
  refine ifD (fun h => ?_) (fun h => ?_)
  · rw [if_pos h] at q2
    refine sw_cons ?_
    refine sw_ret ?_
    refine ew_lst ?_
    refine aw_cons ?_
    refine ew_if ?_
    refine tw_cmp (nomark _) ?_
    refine ew_ix ?_
    refine ew_name 0 rfl ?_
    refine ew_int ?_
    refine ⟨_, _, rfl, itm_tup (j := 2) rfl rfl, ?_⟩
    refine ew_ix ?_
    refine ew_name 1 rfl ?_
    refine ew_int ?_
    refine ⟨_, _, rfl, itm_tup (j := 2) rfl rfl, ?_⟩
    refine o_le ?_
    refine ⟨_, rfl, ?_⟩
    refine ifD (fun h => ?_) (fun h => ?_)
    · rw [if_pos h] at q2
      refine ew_name 0 rfl ?_
      refine aw_nil ?_
      exact ⟨_, rfl, (by show 1 ≤ sizeLine; decide), q2⟩
    · rw [if_neg h] at q2
      refine ew_name 1 rfl ?_
      refine aw_nil ?_
      exact ⟨_, rfl, (by show 1 ≤ sizeLine; decide), q2⟩
  · rw [if_neg h] at q2
    refine sw_nil ?_
    refine sw_cons ?_
    refine sw_asg ?_
    refine ew_call C_level_first hr (by decide) xk ?_
    refine aw_cons ?_
    refine ew_name 0 rfl ?_
    refine aw_cons ?_
    refine ew_name 1 rfl ?_
    refine aw_nil ?_
    refine ⟨_, _, rfl, ?_⟩
    refine gw_tup rfl ?_
    refine gs_cons ?_
    refine gw_name 2 ?_ sc_lesser_parts.nd
    refine gs_cons ?_
    refine gw_name 3 ?_ sc_lesser_parts.nd
    refine gs_nil ?_
    refine sw_cons ?_
    refine sw_ret ?_
    refine ew_call C_followed hr (by decide) xk ?_
    refine aw_cons ?_
    refine ew_name 3 rfl ?_
    refine aw_cons ?_
    refine ew_name 2 rfl ?_
    refine aw_cons ?_
    refine ew_call C_crossing hr (by decide) xk ?_
    refine aw_cons ?_
    refine ew_name 2 rfl ?_
    refine aw_cons ?_
    refine ew_name 3 rfl ?_
    refine aw_nil ?_
    refine ⟨_, _, rfl, ?_⟩
    refine aw_nil ?_
    exact ⟨_, _, _, rfl, q2⟩
end Kf
namespace Kf
open PySem PySem.Spec L2 StX ClX Dn
open PyProof.Rows hiding St
variable {P : Program} {w : World} {K : PySem.W.Frag} {mg : Str → Option Value} {base : Heap}
def mx (a b : Int) : Int := if a < b then b else a
def mn (a b : Int) : Int := if b < a then b else a
def Tells (r : Row) (F : Int → Int) : Prop := ∀ x, r.1 ≤ x → x ≤ r.2.1 → onRow r x = F x
theorem fol_cov {F : Int → Int} {a b : Row} {x : Int} (e1 : a.1 = b.1) (e2 : a.2.1 = b.2.1) (hl : a.1 ≤ a.2.1) (hA : ∀ y, a.1 ≤ y → y ≤ a.2.1 → y ≤ x → onRow a y = F y) (hB : ∀ y, a.1 ≤ y → y ≤ a.2.1 → x ≤ y → onRow b y = F y) :
    Cov F (folF a b x) a.1 a.2.1 ∧ (folF a b x).length ≤ 2 := by
  unfold folF
  split
  · rename_i h
    refine ⟨?_, by show 1 ≤ 2; decide⟩
    rw [e1, e2]
    refine cov_one (by omega) fun y h1 h2 => hB y (by omega) (by omega) (by omega)
  · rename_i h
    split
    · rename_i h'
      exact ⟨cov_one hl fun y h1 h2 => hA y h1 h2 (by omega), by show 1 ≤ 2; decide⟩
    · rename_i h'
      refine ⟨⟨rfl, (by show a.1 ≤ x; omega), fun y h1 h2 => ?_, (by show x + 1 = x + 1; rfl), (by show x + 1 ≤ a.2.1; omega), fun y h1 h2 => ?_, rfl⟩, by show 2 ≤ 2; decide⟩
      · rw [cut_on]
        have h2 : y ≤ x := h2
        exact hA y h1 (by omega) h2
      · rw [cut_on]
        have h1 : x + 1 ≤ y := h1
        have h2 : y ≤ a.2.1 := h2
        exact hB y (by omega) h2 (by omega)
theorem onRow_t {r : Row} (h : r.2.2.2 = true) (x : Int) : onRow r x = r.2.2.1 + (x - r.1) := by unfold onRow; rw [if_pos h]
theorem onRow_f {r : Row} (h : r.2.2.2 = false) (x : Int) : onRow r x = r.2.2.1 := by unfold onRow; rw [h, if_neg Bool.false_ne_true]
theorem levF_kinds {r o : Row} (h : ¬ r.2.2.2 = o.2.2.2) : (levF r o).1.2.2.2 = false ∧ (levF r o).2.2.2.2 = true := by
  unfold levF
  cases hr : r.2.2.2 with
  | true =>
    rw [if_pos rfl]
    refine ⟨?_, hr⟩
    cases ho : o.2.2.2 with
    | true => rw [hr, ho] at h; exact absurd rfl h
    | false => rfl
  | false =>
    rw [if_neg Bool.false_ne_true]
    refine ⟨hr, ?_⟩
    cases ho : o.2.2.2 with
    | false => rw [hr, ho] at h; exact absurd rfl h
    | true => rfl
theorem gp_cov {F G : Int → Int} {r o : Row} (e1 : r.1 = o.1) (e2 : r.2.1 = o.2.1) (hl : r.1 ≤ r.2.1) (hF : Tells r F) (hG : Tells o G) : Cov (fun x => mx (F x) (G x)) (gpF r o) r.1 r.2.1 ∧ (gpF r o).length ≤ 2 := by
  unfold gpF
  by_cases h : r.2.2.2 = o.2.2.2
  · rw [if_pos h]
    refine ⟨?_, by show 1 ≤ 2; decide⟩
    have same : ∀ x, onRow r x - onRow o x = r.2.2.1 - o.2.2.1 := fun x => by
      unfold onRow
      rw [h]
      split <;> omega
    split
    · refine cov_one hl fun x h1 h2 => ?_
      have a := hF x h1 h2
      have b := hG x (by omega) (by omega)
      have c := same x
      show _ = mx (F x) (G x)
      unfold mx
      rw [← a, ← b]
      split <;> omega
    · rw [e1, e2]
      refine cov_one (by omega) fun x h1 h2 => ?_
      have a := hF x (by omega) (by omega)
      have b := hG x h1 h2
      have c := same x
      show _ = mx (F x) (G x)
      unfold mx
      rw [← a, ← b]
      split <;> omega
  · rw [if_neg h]
    obtain ⟨kl, kr⟩ := levF_kinds h
    have hm : (levF r o).1.1 = r.1 ∧ (levF r o).1.2.1 = r.2.1 ∧ (levF r o).2.1 = r.1 ∧ (levF r o).2.2.1 = r.2.1 ∧ ∀ x, r.1 ≤ x → x ≤ r.2.1 → mx (F x) (G x) = mx (onRow (levF r o).1 x) (onRow (levF r o).2 x) := by
      unfold levF
      split
      · refine ⟨e1.symm, e2.symm, rfl, rfl, fun x h1 h2 => ?_⟩
        rw [hF x h1 h2, hG x (by omega) (by omega)]
        unfold mx
        split <;> split <;> omega
      · refine ⟨rfl, rfl, e1.symm, e2.symm, fun x h1 h2 => ?_⟩
        rw [hF x h1 h2, hG x (by omega) (by omega)]
    generalize (levF r o).1 = l at *
    generalize (levF r o).2 = s at *
    obtain ⟨m1, m2, m3, m4, m5⟩ := hm
    rw [← m1, ← m2]
    refine fol_cov (by omega) (by omega) (by omega) (fun y h1 h2 h3 => ?_) (fun y h1 h2 h3 => ?_)
    · show _ = mx (F y) (G y)
      rw [m5 y (by omega) (by omega), onRow_f kl, onRow_t kr]
      unfold crossF at h3
      unfold mx
      split <;> omega
    · show _ = mx (F y) (G y)
      rw [m5 y (by omega) (by omega), onRow_f kl, onRow_t kr]
      unfold crossF at h3
      unfold mx
      split <;> omega
theorem lp_cov {F G : Int → Int} {r o : Row} (e1 : r.1 = o.1) (e2 : r.2.1 = o.2.1) (hl : r.1 ≤ r.2.1) (hF : Tells r F) (hG : Tells o G) : Cov (fun x => mn (F x) (G x)) (lpF r o) r.1 r.2.1 ∧ (lpF r o).length ≤ 2 := by
  unfold lpF
  by_cases h : r.2.2.2 = o.2.2.2
  · rw [if_pos h]
    refine ⟨?_, by show 1 ≤ 2; decide⟩
    have same : ∀ x, onRow r x - onRow o x = r.2.2.1 - o.2.2.1 := fun x => by
      unfold onRow
      rw [h]
      split <;> omega
    split
    · refine cov_one hl fun x h1 h2 => ?_
      have a := hF x h1 h2
      have b := hG x (by omega) (by omega)
      have c := same x
      show _ = mn (F x) (G x)
      unfold mn
      rw [← a, ← b]
      split <;> omega
    · rw [e1, e2]
      refine cov_one (by omega) fun x h1 h2 => ?_
      have a := hF x (by omega) (by omega)
      have b := hG x h1 h2
      have c := same x
      show _ = mn (F x) (G x)
      unfold mn
      rw [← a, ← b]
      split <;> omega
  · rw [if_neg h]
    obtain ⟨kl, kr⟩ := levF_kinds h
    have hm : (levF r o).1.1 = r.1 ∧ (levF r o).1.2.1 = r.2.1 ∧ (levF r o).2.1 = r.1 ∧ (levF r o).2.2.1 = r.2.1 ∧ ∀ x, r.1 ≤ x → x ≤ r.2.1 → mn (F x) (G x) = mn (onRow (levF r o).1 x) (onRow (levF r o).2 x) := by
      unfold levF
      split
      · refine ⟨e1.symm, e2.symm, rfl, rfl, fun x h1 h2 => ?_⟩
        rw [hF x h1 h2, hG x (by omega) (by omega)]
        unfold mn
        split <;> split <;> omega
      · refine ⟨rfl, rfl, e1.symm, e2.symm, fun x h1 h2 => ?_⟩
        rw [hF x h1 h2, hG x (by omega) (by omega)]
    generalize (levF r o).1 = l at *
    generalize (levF r o).2 = s at *
    obtain ⟨m1, m2, m3, m4, m5⟩ := hm
    rw [← m3, ← m4]
    refine fol_cov (by omega) (by omega) (by omega) (fun y h1 h2 h3 => ?_) (fun y h1 h2 h3 => ?_)
    · show _ = mn (F y) (G y)
      rw [m5 y (by omega) (by omega), onRow_f kl, onRow_t kr]
      unfold crossF at h3
      unfold mn
      split <;> omega
    · show _ = mn (F y) (G y)
      rw [m5 y (by omega) (by omega), onRow_f kl, onRow_t kr]
      unfold crossF at h3
      unfold mn
      split <;> omega
def AlOk (F G : Int → Int) : List (Row × Row) → Int → Int → Prop
  | [], lo, hi => lo = hi + 1
  | p :: ps, lo, hi => p.1.1 = lo ∧ p.2.1 = lo ∧ p.2.2.1 = p.1.2.1 ∧ lo ≤ p.1.2.1 ∧ Tells p.1 F ∧ Tells p.2 G ∧ AlOk F G ps (p.1.2.1 + 1) hi
theorem al_app {F G : Int → Int} : ∀ {ps qs : List (Row × Row)} {lo mid hi : Int}, AlOk F G ps lo mid → AlOk F G qs (mid + 1) hi → AlOk F G (ps ++ qs) lo hi
  | [], qs, lo, mid, hi, h, h2 => by
    have h : lo = mid + 1 := h
    rw [h]
    exact h2
  | p :: ps, qs, lo, mid, hi, h, h2 => ⟨h.1, h.2.1, h.2.2.1, h.2.2.2.1, h.2.2.2.2.1, h.2.2.2.2.2.1, al_app h.2.2.2.2.2.2 h2⟩
theorem al_snoc {F G : Int → Int} {ps : List (Row × Row)} {a b : Row} {lo m hi : Int} (h : AlOk F G ps lo (m - 1)) (e1 : a.1 = m) (e2 : b.1 = m) (e3 : a.2.1 = hi) (e4 : b.2.1 = hi) (hl : m ≤ hi) (hF : Tells a F) (hG : Tells b G) : AlOk F G (ps ++ [(a, b)]) lo hi := by
  refine al_app h ?_
  rw [show m - 1 + 1 = m by omega]
  refine ⟨e1, e2, by show b.2.1 = a.2.1; omega, by show m ≤ a.2.1; omega, hF, hG, ?_⟩
  show a.2.1 + 1 = hi + 1
  omega
theorem al_le {F G : Int → Int} : ∀ {ps : List (Row × Row)} {lo hi : Int}, AlOk F G ps lo hi → lo ≤ hi + 1
  | [], lo, hi, h => by
    have h : lo = hi + 1 := h
    omega
  | p :: ps, lo, hi, h => by
    have := al_le h.2.2.2.2.2.2
    have := h.2.2.2.1
    omega
theorem al_parts {F G M : Int → Int} {pf : Row → Row → List Row} (hp : ∀ r o, r.1 = o.1 → r.2.1 = o.2.1 → r.1 ≤ r.2.1 → Tells r F → Tells o G → Cov M (pf r o) r.1 r.2.1 ∧ (pf r o).length ≤ 2) :
    ∀ {ps : List (Row × Row)} {lo hi : Int}, AlOk F G ps lo hi → Cov M (ps.flatMap fun p => pf p.1 p.2) lo hi ∧ (ps.flatMap fun p => pf p.1 p.2).length ≤ 2 * ps.length
  | [], lo, hi, h => ⟨h, by simp⟩
  | p :: ps, lo, hi, h => by
    obtain ⟨h1, h2, h3, h4, h5, h6, h7⟩ := h
    obtain ⟨a, b⟩ := hp p.1 p.2 (by omega) h3.symm (by omega) h5 h6
    obtain ⟨c, d⟩ := al_parts hp h7
    rw [List.flatMap_cons]
    refine ⟨?_, by rw [List.length_append, List.length_cons]; omega⟩
    rw [h1] at a
    exact cov_app a c
theorem row_diff {r o : Row} (e : r.1 = o.1) (x : Int) (h1 : r.1 ≤ x) (h2 : x ≤ r.2.1) (e2 : o.2.1 = r.2.1) (a : r.2.2.1 ≤ o.2.2.1) (b : onRow r r.2.1 ≤ onRow o o.2.1) : onRow r x ≤ onRow o x := by
  unfold onRow at *
  split <;> split <;> simp_all <;> omega
theorem al_below {F G : Int → Int} : ∀ {ps : List (Row × Row)} {lo hi : Int}, AlOk F G ps lo hi → ((∀ p ∈ ps, p.1.2.2.1 ≤ p.2.2.2.1 ∧ lastRow p.1 ≤ lastRow p.2) ↔ ∀ x, lo ≤ x → x ≤ hi → F x ≤ G x)
  | [], lo, hi, h => by
    have h : lo = hi + 1 := h
    exact ⟨fun _ x a b => by omega, fun _ p hp => by cases hp⟩
  | p :: ps, lo, hi, h => by
    obtain ⟨h1, h2, h3, h4, h5, h6, h7⟩ := h
    have ih := al_below h7
    have hle := al_le h7
    have f1 : onRow p.1 p.1.1 = p.1.2.2.1 := by unfold onRow; split <;> omega
    have f2 : onRow p.2 p.2.1 = p.2.2.2.1 := by unfold onRow; split <;> omega
    constructor
    · intro hp x a b
      by_cases hx : x ≤ p.1.2.1
      · obtain ⟨c, d⟩ := hp p List.mem_cons_self
        rw [← h5 x (by omega) hx, ← h6 x (by omega) (by omega)]
        exact row_diff (by omega) x (by omega) hx h3 c d
      · exact ih.mp (fun q hq => hp q (List.mem_cons_of_mem _ hq)) x (by omega) b
    · intro hx q hq
      rcases List.mem_cons.mp hq with rfl | hq
      · have a := hx q.1.1 (by omega) (by omega)
        have b := hx q.1.2.1 (by omega) (by omega)
        rw [← h5 _ (by omega) (by omega), ← h6 _ (by omega) (by omega)] at a b
        refine ⟨?_, ?_⟩
        · rw [f1, show q.1.1 = q.2.1 by omega, f2] at a
          exact a
        · unfold lastRow
          rw [h3]
          exact b
      · exact ih.mpr (fun x a b => hx x (by omega) b) q hq
end Kf
namespace Kf
open PySem PySem.Spec L2 StX ClX Dn
open PyProof.Rows hiding St
variable {P : Program} {w : World} {K : PySem.W.Frag} {mg : Str → Option Value} {base : Heap}
structure AS (F G : Int → Int) (rs os : List Row) (t : Int) (a b : Nat) (lo : Int) (ps : List (Row × Row)) : Prop where
  al : AlOk F G ps 0 (lo - 1)
  len : ps.length ≤ a + b
  ha : a ≤ rs.length
  hb : b ≤ os.length
  at_ : (a = rs.length ∧ lo = t + 1) ∨ ∃ r o, rs[a]? = some r ∧ os[b]? = some o ∧ r.1 ≤ lo ∧ lo ≤ r.2.1 ∧ o.1 ≤ lo ∧ lo ≤ o.2.1
theorem as_zero {F G : Int → Int} {rs os : List Row} {t : Int} (ht : 0 ≤ t) (hF : Cov F rs 0 t) (hG : Cov G os 0 t) : AS F G rs os t 0 0 0 [] := by
  have h1 := cov_ne hF ht
  have h2 := cov_ne hG ht
  have e1 := List.getElem?_eq_getElem h1
  have e2 := List.getElem?_eq_getElem h2
  have a := cov_first hF e1
  have b := cov_first hG e2
  have c := cov_get hF e1
  have d := cov_get hG e2
  exact ⟨by show (0 : Int) = 0 - 1 + 1; rfl, by simp, Nat.zero_le _, Nat.zero_le _, .inr ⟨_, _, e1, e2, by omega, by omega, by omega, by omega⟩⟩
theorem as_step {F G : Int → Int} {rs os : List Row} {t : Int} {a b : Nat} {lo : Int} {ps : List (Row × Row)} (hF : Cov F rs 0 t) (hG : Cov G os 0 t) (h : AS F G rs os t a b lo ps) {r o : Row} (hr : rs[a]? = some r) (ho : os[b]? = some o) (h1 : r.1 ≤ lo) (h2 : lo ≤ r.2.1) (h3 : o.1 ≤ lo) (h4 : lo ≤ o.2.1)
    {a' b' : Nat} {hi : Int} (ehi : hi = lesF r.2.1 o.2.1) (ea : (r.2.1 = hi ∧ a' = a + 1) ∨ (r.2.1 ≠ hi ∧ a' = a)) (eb : (o.2.1 = hi ∧ b' = b + 1) ∨ (o.2.1 ≠ hi ∧ b' = b)) : AS F G rs os t a' b' (hi + 1) (ps ++ [(cutR r lo hi, cutR o lo hi)]) ∧ a + b < a' + b' ∧ lo ≤ hi := by
  have cr := cov_get hF hr
  have co := cov_get hG ho
  have ha := (List.getElem?_eq_some_iff.mp hr).1
  have hb := (List.getElem?_eq_some_iff.mp ho).1
  have hh : (hi = r.2.1 ∧ r.2.1 < o.2.1) ∨ (hi = o.2.1 ∧ o.2.1 ≤ r.2.1) := by
    rw [ehi]
    unfold lesF
    split <;> omega
  have hlt : a + b < a' + b' := by omega
  have hlo : lo ≤ hi := by omega
  refine ⟨⟨?_, ?_, by omega, by omega, ?_⟩, hlt, hlo⟩
  · rw [show hi + 1 - 1 = hi by omega]
    refine al_snoc h.al rfl rfl rfl rfl hlo (fun x x1 x2 => ?_) (fun x x1 x2 => ?_)
    · have x1 : lo ≤ x := x1
      have x2 : x ≤ hi := x2
      rw [cut_on]
      exact cr.2.2.2 x (by omega) (by omega)
    · have x1 : lo ≤ x := x1
      have x2 : x ≤ hi := x2
      rw [cut_on]
      exact co.2.2.2 x (by omega) (by omega)
  · have := h.len
    rw [List.length_append, List.length_singleton]
    omega
  · by_cases hn : a' = rs.length
    · left
      refine ⟨hn, ?_⟩
      rcases ea with ⟨e, rfl⟩ | ⟨e, rfl⟩
      · have := cov_last hF hr (by rw [List.getElem?_eq_none]; omega)
        omega
      · omega
    · right
      have ha' : a' < rs.length := by omega
      have e1 := List.getElem?_eq_getElem ha'
      have c1 := cov_get hF e1
      have hb' : b' < os.length := by
        rcases eb with ⟨e, rfl⟩ | ⟨e, rfl⟩
        · by_cases hbn : b + 1 < os.length
          · exact hbn
          · have l1 := cov_last hG ho (by rw [List.getElem?_eq_none]; omega)
            rcases ea with ⟨e3, rfl⟩ | ⟨e3, rfl⟩
            · have := cov_next hF hr e1
              omega
            · omega
        · omega
      have e2 := List.getElem?_eq_getElem hb'
      have c2 := cov_get hG e2
      refine ⟨_, _, e1, e2, ?_⟩
      have A : rs[a'].1 ≤ hi + 1 ∧ hi + 1 ≤ rs[a'].2.1 := by
        rcases ea with ⟨e3, rfl⟩ | ⟨e3, rfl⟩
        · have := cov_next hF hr e1
          omega
        · have : rs[a'] = r := Option.some.inj (e1.symm.trans hr)
          rw [this]
          omega
      have B : os[b'].1 ≤ hi + 1 ∧ hi + 1 ≤ os[b'].2.1 := by
        rcases eb with ⟨e3, rfl⟩ | ⟨e3, rfl⟩
        · have := cov_next hG ho e2
          omega
        · have : os[b'] = o := Option.some.inj (e2.symm.trans ho)
          rw [this]
          omega
      omega
abbrev prD (p : Row × Row) : D := pairD p.1 p.2
def F_aligned : FT := fun args st Ret _ => ∃ (rs os : List Row) (F G : Int → Int) (t : Int), args = [.dat (.lst (rs.map rowD)), .dat (.lst (os.map rowD))] ∧ Cov F rs 0 t ∧ Cov G os 0 t ∧ 0 ≤ t ∧ rs.length + os.length ≤ 1000 ∧
  ∀ ps, AlOk F G ps 0 t → ps.length ≤ rs.length + os.length → Ret (.dat (.lst (ps.map prD))) st
theorem itm_map {α : Type} {g : α → D} {st : List Ob} {xs : List α} {j : Nat} {x : α} (h : xs[j]? = some x) : Itm st (.dat (.lst (xs.map g))) (j : Int) = some (.dat (g x)) := itm_lst rfl (by rw [List.getElem?_map, h]; rfl)
theorem ok_aligned {f : Addr} {fd : FuncData} (B : Bl mg) (C_lesser : Cal P w K mg base 1 "lesser" F_lesser) (C_cut : Cal P w K mg base 2 "cut" F_cut) (Fn : Fun K "aligned" "aligned" s_aligned f fd) (b : Binds K fd p_aligned []) : FnG P w K mg base (L2.CX P w) 3 f (spD K F_aligned) := by
  refine fnD Fn sc_aligned b (fun args st0 Ret Exc h => ?_) ?_
  · obtain ⟨rs, os, F, G, t, rfl, _⟩ := h
    rfl
  intro cdv A outer s H E H0 Al args st0 Ret Exc hr xk hp hal hcl hF
  obtain ⟨rs, os, F, G, t, rfl, cF, cG, ht, hlen, q⟩ := hF
  refine sw_cons ?_
  refine sw_set 2 ?_ sc_aligned.nd
  refine ew_lstM ?_
  refine aw_nil ?_
  refine ⟨by decide, ?_⟩
  refine sw_cons ?_
  refine sw_set 3 ?_ sc_aligned.nd
  refine ew_int ?_
  refine sw_cons ?_
  refine sw_set 4 ?_ sc_aligned.nd
  refine ew_int ?_
  refine sw_cons ?_
  refine sw_set 5 ?_ sc_aligned.nd
  refine ew_int ?_
  refine sw_cons ?_
  refine sw_while hp (fun m sl st => ∃ (a b : Nat) (lo : Int) (ps : List (Row × Row)) (oh : Option W), AS F G rs os t a b lo ps ∧ m = rs.length + os.length - (a + b) ∧ st = st0 ++ [.lst ((ps.map prD).map W.dat)] ∧
    sl = [some (.dat (.lst (rs.map rowD))), some (.dat (.lst (os.map rowD))), some (.ptr st0.length), some (.dat (.int (a : Int))), some (.dat (.int (b : Int))), some (.dat (.int lo)), oh]) (rs.length + os.length) ?_ (fun m sl st hI => ?_)
  · exact ⟨0, 0, 0, [], none, as_zero ht cF cG, rfl, rfl, rfl⟩
  · obtain ⟨a, b', lo, ps, oh, hS, rfl, rfl, rfl⟩ := hI
    refine tw_cmp (nomark _) ?_
    refine ew_name 3 rfl ?_
    refine ew_blt bt_len B.len ?_
    refine aw_cons ?_
    refine ew_name 0 rfl ?_
    refine aw_nil ?_
    refine c_len rfl ?_
    refine o_lt ?_
    refine ⟨_, rfl, ?_⟩
    refine ifD (fun h => ?_) (fun h => ?_)
    · rw [List.length_map] at h
      rcases hS.at_ with ⟨e, _⟩ | ⟨r, o, er, eo, h1, h2, h3, h4⟩
      · omega
      have step := fun {a' b'' : Nat} => as_step (a' := a') (b' := b'') cF cG hS er eo h1 h2 h3 h4 (hi := lesF r.2.1 o.2.1) rfl
      have hpl := hS.len
      have ha2 := hS.ha
      have hb2 := hS.hb
      refine sw_cons ?_
      refine sw_set 6 ?_ sc_aligned.nd
      refine ew_call C_lesser hr (by decide) xk ?_
      refine aw_cons ?_
      refine ew_ix ?_
      refine ew_ix ?_
      refine ew_name 0 rfl ?_
      refine ew_name 3 rfl ?_
      refine ⟨_, _, rfl, itm_map er, ?_⟩
      refine ew_int ?_
      refine ⟨_, _, rfl, itm_tup (j := 1) rfl rfl, ?_⟩
      refine aw_cons ?_
      refine ew_ix ?_
      refine ew_ix ?_
      refine ew_name 1 rfl ?_
      refine ew_name 4 rfl ?_
      refine ⟨_, _, rfl, itm_map eo, ?_⟩
      refine ew_int ?_
      refine ⟨_, _, rfl, itm_tup (j := 1) rfl rfl, ?_⟩
      refine aw_nil ?_
      refine ⟨_, _, rfl, ?_⟩
      refine sw_cons ?_
      refine sw_expr ?_
      refine ew_append ?_
      refine ew_name 2 rfl ?_
      refine ⟨_, _, rfl, at_end, ?_⟩
      refine ew_tup ?_
      refine aw_cons ?_
      refine ew_call C_cut hr (by decide) xk ?_
      refine aw_cons ?_
      refine ew_ix ?_
      refine ew_name 0 rfl ?_
      refine ew_name 3 rfl ?_
      refine ⟨_, _, rfl, itm_map er, ?_⟩
      refine aw_cons ?_
      refine ew_name 5 rfl ?_
      refine aw_cons ?_
      refine ew_name 6 rfl ?_
      refine aw_nil ?_
      refine ⟨_, _, _, rfl, ?_⟩
      refine aw_cons ?_
      refine ew_call C_cut hr (by decide) xk ?_
      refine aw_cons ?_
      refine ew_ix ?_
      refine ew_name 1 rfl ?_
      refine ew_name 4 rfl ?_
      refine ⟨_, _, rfl, itm_map eo, ?_⟩
      refine aw_cons ?_
      refine ew_name 5 rfl ?_
      refine aw_cons ?_
      refine ew_name 6 rfl ?_
      refine aw_nil ?_
      refine ⟨_, _, _, rfl, ?_⟩
      refine aw_nil ?_
      refine ⟨_, rfl, (by show 2 ≤ sizeLine; decide), ?_⟩
      refine ⟨_, at_end, szl (by rw [List.length_map, List.length_map]; omega), ?_⟩
      have em : (ps.map prD).map W.dat ++ [W.dat (prD (cutR r lo (lesF r.2.1 o.2.1), cutR o lo (lesF r.2.1 o.2.1)))] = ((ps ++ [(cutR r lo (lesF r.2.1 o.2.1), cutR o lo (lesF r.2.1 o.2.1))]).map prD).map W.dat := by
        rw [List.map_append, List.map_append]
        rfl
      rw [set_end]
      show SW _ _ _ _ (st0 ++ [.lst ((ps.map prD).map W.dat ++ [W.dat (prD (cutR r lo (lesF r.2.1 o.2.1), cutR o lo (lesF r.2.1 o.2.1)))])]) _
      rw [em]
      generalize ehi : lesF r.2.1 o.2.1 = hi at *
      refine sw_cut (fun sl st => ∃ a' : Nat, ((r.2.1 = hi ∧ a' = a + 1) ∨ (r.2.1 ≠ hi ∧ a' = a)) ∧ st = st0 ++ [.lst (((ps ++ [(cutR r lo hi, cutR o lo hi)]).map prD).map W.dat)] ∧
        sl = [some (.dat (.lst (rs.map rowD))), some (.dat (.lst (os.map rowD))), some (.ptr st0.length), some (.dat (.int (a' : Int))), some (.dat (.int (b' : Int))), some (.dat (.int lo)), some (.dat (.int hi))]) ?_ ?_
      · refine sw_if ?_
        refine tw_cmp (nomark _) ?_
        refine ew_ix ?_
        refine ew_ix ?_
        refine ew_name 0 rfl ?_
        refine ew_name 3 rfl ?_
        refine ⟨_, _, rfl, itm_map er, ?_⟩
        refine ew_int ?_
        refine ⟨_, _, rfl, itm_tup (j := 1) rfl rfl, ?_⟩
        refine ew_name 6 rfl ?_
        refine o_eqI ?_
        refine ⟨_, rfl, ?_⟩
        refine ifD (fun h5 => ?_) (fun h5 => ?_)
        · refine sw_cons ?_
          refine sw_aug 3 rfl ?_ sc_aligned.nd
          refine ew_int ?_
          refine o_iadd ?_
          refine sw_nil ?_
          exact ⟨a + 1, .inl ⟨h5, rfl⟩, rfl, rfl⟩
        · refine sw_nil ?_
          exact ⟨a, .inr ⟨h5, rfl⟩, rfl, rfl⟩
      rintro sl st ⟨a', ha', rfl, rfl⟩
      refine sw_cut (fun sl st => ∃ c' : Nat, ((o.2.1 = hi ∧ c' = b' + 1) ∨ (o.2.1 ≠ hi ∧ c' = b')) ∧ st = st0 ++ [.lst (((ps ++ [(cutR r lo hi, cutR o lo hi)]).map prD).map W.dat)] ∧
        sl = [some (.dat (.lst (rs.map rowD))), some (.dat (.lst (os.map rowD))), some (.ptr st0.length), some (.dat (.int (a' : Int))), some (.dat (.int (c' : Int))), some (.dat (.int lo)), some (.dat (.int hi))]) ?_ ?_
      · refine sw_if ?_
        refine tw_cmp (nomark _) ?_
        refine ew_ix ?_
        refine ew_ix ?_
        refine ew_name 1 rfl ?_
        refine ew_name 4 rfl ?_
        refine ⟨_, _, rfl, itm_map eo, ?_⟩
        refine ew_int ?_
        refine ⟨_, _, rfl, itm_tup (j := 1) rfl rfl, ?_⟩
        refine ew_name 6 rfl ?_
        refine o_eqI ?_
        refine ⟨_, rfl, ?_⟩
        refine ifD (fun h5 => ?_) (fun h5 => ?_)
        · refine sw_cons ?_
          refine sw_aug 4 rfl ?_ sc_aligned.nd
          refine ew_int ?_
          refine o_iadd ?_
          refine sw_nil ?_
          exact ⟨b' + 1, .inl ⟨h5, rfl⟩, rfl, rfl⟩
        · refine sw_nil ?_
          exact ⟨b', .inr ⟨h5, rfl⟩, rfl, rfl⟩
      rintro sl st ⟨c', hc', rfl, rfl⟩
      obtain ⟨hS', hlt, _⟩ := step ha' hc'
      have ha3 := hS'.ha
      have hb3 := hS'.hb
      refine sw_cons ?_
      refine sw_set 5 ?_ sc_aligned.nd
      refine ew_bin ?_
      refine ew_name 6 rfl ?_
      refine ew_int ?_
      refine o_add ?_
      refine sw_nil ?_
      exact ⟨_, by omega, a', c', hi + 1, _, _, hS', rfl, rfl, rfl⟩
    · rw [List.length_map] at h
      have hpl := hS.len
      have ha2 := hS.ha
      have hb2 := hS.hb
      rcases hS.at_ with ⟨e, e2⟩ | ⟨r, o, er, _⟩
      · refine sw_cons ?_
        refine sw_ret ?_
        refine ew_frz (j := st0.length) (xs := ps.map prD) ?_
        refine ew_name 2 rfl ?_
        refine ⟨⟨rfl, at_end, by show Al.length ≤ st0.length; omega⟩, ?_⟩
        rw [set_end]
        refine ⟨st0, [.gone], rfl, Nat.le_refl _, hcl, trivial, q ps ?_ (by omega)⟩
        have := hS.al
        rw [e2, show t + 1 - 1 = t by omega] at this
        exact this
      · have := (List.getElem?_eq_some_iff.mp er).1
        omega
end Kf
namespace Kf
open PySem PySem.Spec L2 StX ClX Dn
open PyProof.Rows hiding St
variable {P : Program} {w : World} {K : PySem.W.Frag} {mg : Str → Option Value} {base : Heap}
theorem fol_len (a b : Row) (x : Int) : (folF a b x).length ≤ 2 := by
  unfold folF
  split
  · show 1 ≤ 2; decide
  · split
    · show 1 ≤ 2; decide
    · show 2 ≤ 2; decide
theorem gp_len (r o : Row) : (gpF r o).length ≤ 2 := by
  unfold gpF
  split
  · show 1 ≤ 2; decide
  · exact fol_len _ _ _
theorem lp_len (r o : Row) : (lpF r o).length ≤ 2 := by
  unfold lpF
  split
  · show 1 ≤ 2; decide
  · exact fol_len _ _ _
theorem flat_len {pf : Row → Row → List Row} (h : ∀ r o, (pf r o).length ≤ 2) : ∀ ps : List (Row × Row), (ps.flatMap fun p => pf p.1 p.2).length ≤ 2 * ps.length
  | [] => by simp
  | p :: ps => by
    have h1 := flat_len h ps
    have h2 := h p.1 p.2
    rw [List.flatMap_cons, List.length_append, List.length_cons]
    omega
def F_greater_results : FT := fun args st Ret _ => ∃ (rs os : List Row) (F G : Int → Int) (t : Int), args = [.dat (.lst (rs.map rowD)), .dat (.lst (os.map rowD))] ∧ Cov F rs 0 t ∧ Cov G os 0 t ∧ 0 ≤ t ∧ rs.length + os.length ≤ 1000 ∧
  ∀ qs, Cov (fun x => mx (F x) (G x)) qs 0 t → qs.length ≤ 2 * (rs.length + os.length) → Ret (.dat (.lst (qs.map rowD))) st
theorem ok_greater_results {f : Addr} {fd : FuncData} (C_aligned : Cal P w K mg base 3 "aligned" F_aligned) (C_greater_parts : Cal P w K mg base 4 "greater_parts" F_greater_parts) (Fn : Fun K "greater_results" "greater_results" s_greater_results f fd) (b : Binds K fd p_greater_results []) : FnG P w K mg base (L2.CX P w) 5 f (spD K F_greater_results) := by
  refine fnD Fn sc_greater_results b (fun args st0 Ret Exc h => ?_) ?_
  · obtain ⟨rs, os, F, G, t, rfl, _⟩ := h
    rfl
  intro cdv A outer s H E H0 Al args st0 Ret Exc hr xk hp hal hcl hF
  obtain ⟨rs, os, F, G, t, rfl, cF, cG, ht, hlen, q⟩ := hF
  refine sw_cons ?_
  refine sw_ret ?_
  refine ew_lc2 (own := [("row", 3), ("other", 4), ("part", 2)]) (tb := true) (is := [3, 4]) (tb1 := false) (is1 := [2]) (vs1 := [2]) rfl sc_greater_results.nd (blkOk_by (N := n_greater_results) (sc := defScope s_greater_results) (by decide +kernel)) (fun _ _ _ _ _ => pg_tup rfl (pgs_cons (pg_name (i := 3) sc_greater_results.nd rfl (Or.inl rfl)) (pgs_cons (pg_name (i := 4) sc_greater_results.nd rfl (Or.inl rfl)) (pgs_nil)))) (fun _ _ _ _ _ => pg_name (i := 2) sc_greater_results.nd rfl (Or.inl rfl)) (by decide) (by decide) (by decide) ?_
  refine iw_list ?_
  refine ew_call C_aligned hr (by decide) xk ?_
  refine aw_cons ?_
  refine ew_name 0 rfl ?_
  refine aw_cons ?_
  refine ew_name 1 rfl ?_
  refine aw_nil ?_
  refine ⟨rs, os, F, G, t, rfl, cF, cG, ht, hlen, fun ps hps hpl => ?_⟩
  refine ⟨_, rfl, ?_⟩
  obtain ⟨hcov, _⟩ := al_parts (pf := gpF) (M := fun x => mx (F x) (G x)) (fun r o e1 e2 hl hF hG => gp_cov e1 e2 hl hF hG) hps
  have hfl := flat_len gp_len
  refine ⟨fun i acc st => st = st0 ∧ acc = ((ps.take i).flatMap fun p => gpF p.1 p.2).map rowD, ⟨rfl, rfl⟩, fun i w acc st hw hI => ?_, fun acc st hI => ?_⟩
  · obtain ⟨rfl, rfl⟩ := hI
    obtain ⟨d, hd, rfl⟩ := getElem?_mapW hw
    rw [List.getElem?_map] at hd
    obtain ⟨p, hp0, rfl⟩ := Option.map_eq_some_iff.mp hd
    refine ⟨_, rfl, fun G1 sb Hb Cb cl fp => ?_⟩
    refine iw_list ?_
    refine ew_call C_greater_parts hr (by decide) xok_false ?_
    refine aw_cons ?_
    refine ew_name 3 rfl ?_
    refine aw_cons ?_
    refine ew_name 4 rfl ?_
    refine aw_nil ?_
    refine ⟨p.1, p.2, rfl, ?_⟩
    refine ⟨_, rfl, ?_⟩
    have hsn : (ps.take (i + 1)).flatMap (fun p => gpF p.1 p.2) = (ps.take i).flatMap (fun p => gpF p.1 p.2) ++ gpF p.1 p.2 := by
      rw [take_succ_of hp0, List.flatMap_append]
      simp
    have hz : ((ps.take i).flatMap fun p => gpF p.1 p.2).length ≤ 2000 := by
      have := hfl (ps.take i)
      rw [List.length_take] at this
      omega
    have hz2 := gp_len p.1 p.2
    refine ⟨fun j acc st' => st' = st ∧ acc = ((ps.take i).flatMap fun p => gpF p.1 p.2).map rowD ++ ((gpF p.1 p.2).take j).map rowD, ⟨rfl, by simp⟩, fun j w1 acc1 st3 hw1 hI1 => ?_, fun acc1 st3 hI1 => ?_⟩
    · obtain ⟨rfl, rfl⟩ := hI1
      obtain ⟨d1, hd1, rfl⟩ := getElem?_mapW hw1
      rw [List.getElem?_map] at hd1
      obtain ⟨r1, hr1, rfl⟩ := Option.map_eq_some_iff.mp hd1
      refine ⟨_, rfl, fun G2 sb2 Hb2 Cb2 cl2 fp2 => ?_⟩
      refine ew_name 2 rfl ?_
      refine ⟨_, rfl, szl (by rw [List.length_append, List.length_map, List.length_map, List.length_take]; omega), rfl, ?_⟩
      rw [take_succ_of hr1, List.map_append, List.append_assoc]
      rfl
    · obtain ⟨rfl, rfl⟩ := hI1
      refine ⟨rfl, ?_⟩
      rw [List.length_map, List.length_map, List.take_length, hsn, List.map_append]
  · obtain ⟨rfl, rfl⟩ := hI
    rw [List.length_map, List.length_map, List.take_length]
    refine krE_of hcl (q _ hcov ?_)
    have := hfl ps
    omega
def F_lesser_results : FT := fun args st Ret _ => ∃ (rs os : List Row) (F G : Int → Int) (t : Int), args = [.dat (.lst (rs.map rowD)), .dat (.lst (os.map rowD))] ∧ Cov F rs 0 t ∧ Cov G os 0 t ∧ 0 ≤ t ∧ rs.length + os.length ≤ 1000 ∧
  ∀ qs, Cov (fun x => mn (F x) (G x)) qs 0 t → qs.length ≤ 2 * (rs.length + os.length) → Ret (.dat (.lst (qs.map rowD))) st
theorem ok_lesser_results {f : Addr} {fd : FuncData} (C_aligned : Cal P w K mg base 3 "aligned" F_aligned) (C_lesser_parts : Cal P w K mg base 4 "lesser_parts" F_lesser_parts) (Fn : Fun K "lesser_results" "lesser_results" s_lesser_results f fd) (b : Binds K fd p_lesser_results []) : FnG P w K mg base (L2.CX P w) 5 f (spD K F_lesser_results) := by
  refine fnD Fn sc_lesser_results b (fun args st0 Ret Exc h => ?_) ?_
  · obtain ⟨rs, os, F, G, t, rfl, _⟩ := h
    rfl
  intro cdv A outer s H E H0 Al args st0 Ret Exc hr xk hp hal hcl hF
  obtain ⟨rs, os, F, G, t, rfl, cF, cG, ht, hlen, q⟩ := hF
  refine sw_cons ?_
  refine sw_ret ?_
  refine ew_lc2 (own := [("row", 3), ("other", 4), ("part", 2)]) (tb := true) (is := [3, 4]) (tb1 := false) (is1 := [2]) (vs1 := [2]) rfl sc_lesser_results.nd (blkOk_by (N := n_lesser_results) (sc := defScope s_lesser_results) (by decide +kernel)) (fun _ _ _ _ _ => pg_tup rfl (pgs_cons (pg_name (i := 3) sc_lesser_results.nd rfl (Or.inl rfl)) (pgs_cons (pg_name (i := 4) sc_lesser_results.nd rfl (Or.inl rfl)) (pgs_nil)))) (fun _ _ _ _ _ => pg_name (i := 2) sc_lesser_results.nd rfl (Or.inl rfl)) (by decide) (by decide) (by decide) ?_
  refine iw_list ?_
  refine ew_call C_aligned hr (by decide) xk ?_
  refine aw_cons ?_
  refine ew_name 0 rfl ?_
  refine aw_cons ?_
  refine ew_name 1 rfl ?_
  refine aw_nil ?_
  refine ⟨rs, os, F, G, t, rfl, cF, cG, ht, hlen, fun ps hps hpl => ?_⟩
  refine ⟨_, rfl, ?_⟩
  obtain ⟨hcov, _⟩ := al_parts (pf := lpF) (M := fun x => mn (F x) (G x)) (fun r o e1 e2 hl hF hG => lp_cov e1 e2 hl hF hG) hps
  have hfl := flat_len lp_len
  refine ⟨fun i acc st => st = st0 ∧ acc = ((ps.take i).flatMap fun p => lpF p.1 p.2).map rowD, ⟨rfl, rfl⟩, fun i w acc st hw hI => ?_, fun acc st hI => ?_⟩
  · obtain ⟨rfl, rfl⟩ := hI
    obtain ⟨d, hd, rfl⟩ := getElem?_mapW hw
    rw [List.getElem?_map] at hd
    obtain ⟨p, hp0, rfl⟩ := Option.map_eq_some_iff.mp hd
    refine ⟨_, rfl, fun G1 sb Hb Cb cl fp => ?_⟩
    refine iw_list ?_
    refine ew_call C_lesser_parts hr (by decide) xok_false ?_
    refine aw_cons ?_
    refine ew_name 3 rfl ?_
    refine aw_cons ?_
    refine ew_name 4 rfl ?_
    refine aw_nil ?_
    refine ⟨p.1, p.2, rfl, ?_⟩
    refine ⟨_, rfl, ?_⟩
    have hsn : (ps.take (i + 1)).flatMap (fun p => lpF p.1 p.2) = (ps.take i).flatMap (fun p => lpF p.1 p.2) ++ lpF p.1 p.2 := by
      rw [take_succ_of hp0, List.flatMap_append]
      simp
    have hz : ((ps.take i).flatMap fun p => lpF p.1 p.2).length ≤ 2000 := by
      have := hfl (ps.take i)
      rw [List.length_take] at this
      omega
    have hz2 := lp_len p.1 p.2
    refine ⟨fun j acc st' => st' = st ∧ acc = ((ps.take i).flatMap fun p => lpF p.1 p.2).map rowD ++ ((lpF p.1 p.2).take j).map rowD, ⟨rfl, by simp⟩, fun j w1 acc1 st3 hw1 hI1 => ?_, fun acc1 st3 hI1 => ?_⟩
    · obtain ⟨rfl, rfl⟩ := hI1
      obtain ⟨d1, hd1, rfl⟩ := getElem?_mapW hw1
      rw [List.getElem?_map] at hd1
      obtain ⟨r1, hr1, rfl⟩ := Option.map_eq_some_iff.mp hd1
      refine ⟨_, rfl, fun G2 sb2 Hb2 Cb2 cl2 fp2 => ?_⟩
      refine ew_name 2 rfl ?_
      refine ⟨_, rfl, szl (by rw [List.length_append, List.length_map, List.length_map, List.length_take]; omega), rfl, ?_⟩
      rw [take_succ_of hr1, List.map_append, List.append_assoc]
      rfl
    · obtain ⟨rfl, rfl⟩ := hI1
      refine ⟨rfl, ?_⟩
      rw [List.length_map, List.length_map, List.take_length, hsn, List.map_append]
  · obtain ⟨rfl, rfl⟩ := hI
    rw [List.length_map, List.length_map, List.take_length]
    refine krE_of hcl (q _ hcov ?_)
    have := hfl ps
    omega
def F_never_exceeds : FT := fun args st Ret _ => ∃ (rs os : List Row) (F G : Int → Int) (t : Int), args = [.dat (.lst (rs.map rowD)), .dat (.lst (os.map rowD))] ∧ Cov F rs 0 t ∧ Cov G os 0 t ∧ 0 ≤ t ∧ rs.length + os.length ≤ 1000 ∧
  ∀ b : Bool, (b = true ↔ ∀ x, 0 ≤ x → x ≤ t → F x ≤ G x) → Ret (.dat (.bl b)) st
def nvB (p : Row × Row) : Bool := decide (p.1.2.2.1 ≤ p.2.2.2.1) && decide (lastRow p.1 ≤ lastRow p.2)
theorem ok_never_exceeds {f : Addr} {fd : FuncData} (B : Bl mg) (C_aligned : Cal P w K mg base 3 "aligned" F_aligned) (C_last_value : Cal P w K mg base 2 "last_value" F_last_value) (Fn : Fun K "never_exceeds" "never_exceeds" s_never_exceeds f fd) (b : Binds K fd p_never_exceeds []) : FnG P w K mg base (L2.CX P w) 4 f (spD K F_never_exceeds) := by
  refine fnD Fn sc_never_exceeds b (fun args st0 Ret Exc h => ?_) ?_
  · obtain ⟨rs, os, F, G, t, rfl, _⟩ := h
    rfl
  intro cdv A outer s H E H0 Al args st0 Ret Exc hr xk hp hal hcl hF
  obtain ⟨rs, os, F, G, t, rfl, cF, cG, ht, hlen, q⟩ := hF
  refine sw_cons ?_
  refine sw_ret ?_
  refine ew_blt bt_all B.all ?_
  refine aw_cons ?_
  refine ew_lc (own := [("row", 2), ("other", 3)]) (tb := true) (is := [2, 3]) rfl sc_never_exceeds.nd (blkOk_by (N := n_never_exceeds) (sc := defScope s_never_exceeds) (by decide +kernel)) (fun _ _ _ _ _ => pg_tup rfl (pgs_cons (pg_name (i := 2) sc_never_exceeds.nd rfl (Or.inl rfl)) (pgs_cons (pg_name (i := 3) sc_never_exceeds.nd rfl (Or.inl rfl)) (pgs_nil)))) (by decide) ?_
  refine iw_list ?_
  refine ew_call C_aligned hr (by decide) xk ?_
  refine aw_cons ?_
  refine ew_name 0 rfl ?_
  refine aw_cons ?_
  refine ew_name 1 rfl ?_
  refine aw_nil ?_
  refine ⟨rs, os, F, G, t, rfl, cF, cG, ht, hlen, fun ps hps hpl => ?_⟩
  refine ⟨_, rfl, ?_⟩
  refine ⟨fun i acc st => st = st0 ∧ acc = ((ps.take i).map nvB).map D.bl, ⟨rfl, rfl⟩, fun i w acc st hw hI => ?_, fun acc st hI => ?_⟩
  · obtain ⟨rfl, rfl⟩ := hI
    obtain ⟨d, hd, rfl⟩ := getElem?_mapW hw
    rw [List.getElem?_map] at hd
    obtain ⟨p, hp0, rfl⟩ := Option.map_eq_some_iff.mp hd
    have hsn : ∀ b : Bool, nvB p = b → ((ps.take i).map nvB).map D.bl ++ [D.bl b] = ((ps.take (i + 1)).map nvB).map D.bl := fun b e => by
      rw [take_succ_of hp0, List.map_append, List.map_append, ← e]
      rfl
    have hz : (((ps.take i).map nvB).map D.bl).length < sizeLine := szl (by rw [List.length_map, List.length_map, List.length_take]; omega)
    refine ⟨_, rfl, fun G1 sb Hb Cb cl fp => ?_⟩
    refine ew_and ?_
    refine ew_cmp (nomark _) ?_
    refine ew_ix ?_
    refine ew_name 2 rfl ?_
    refine ew_int ?_
    refine ⟨_, _, rfl, itm_tup (j := 2) rfl rfl, ?_⟩
    refine ew_ix ?_
    refine ew_name 3 rfl ?_
    refine ew_int ?_
    refine ⟨_, _, rfl, itm_tup (j := 2) rfl rfl, ?_⟩
    refine o_le ?_
    refine ⟨_, rfl, ?_⟩
    refine ifD (fun h => ?_) (fun h => ?_)
    · refine ew_one ?_
      refine ew_cmp (nomark _) ?_
      refine ew_call C_last_value hr (by decide) xok_false ?_
      refine aw_cons ?_
      refine ew_name 2 rfl ?_
      refine aw_nil ?_
      refine ⟨p.1, rfl, ?_⟩
      refine ew_call C_last_value hr (by decide) xok_false ?_
      refine aw_cons ?_
      refine ew_name 3 rfl ?_
      refine aw_nil ?_
      refine ⟨p.2, rfl, ?_⟩
      refine o_le ?_
      refine ⟨_, rfl, hz, rfl, hsn _ ?_⟩
      unfold nvB
      rw [decide_eq_true h, Bool.true_and]
    · refine ⟨_, rfl, hz, rfl, hsn _ ?_⟩
      unfold nvB
      rw [decide_eq_false h, Bool.false_and]
  · obtain ⟨rfl, rfl⟩ := hI
    rw [List.length_map, List.length_map, List.take_length]
    refine aw_nil ?_
    refine c_all rfl ?_
    refine krE_of hcl (q _ ?_)
    rw [← al_below hps, List.all_eq_true]
    constructor
    · intro h p hp
      have := h (nvB p) (List.mem_map_of_mem hp)
      unfold nvB at this
      simp only [id, Bool.and_eq_true, decide_eq_true_eq] at this
      exact this
    · intro h b hb
      obtain ⟨p, hp, rfl⟩ := List.mem_map.mp hb
      obtain ⟨a, c⟩ := h p hp
      unfold nvB
      rw [decide_eq_true a, decide_eq_true c]
      rfl
end Kf
namespace Kf
open PySem PySem.Spec L2 StX ClX Dn
open PyProof.Rows hiding St
variable {P : Program} {w : World} {K : PySem.W.Frag} {mg : Str → Option Value} {base : Heap}
def endF (r o : Row) (lo v : Int) : Int := if r.2.2.2 = true then lesF r.2.1 (lo + o.2.1 - v) else r.2.1
structure CS (F G : Int → Int) (rs os : List Row) (t : Int) (i : Nat) (r : Row) (a : Nat) (lo : Int) (qs : List Row) : Prop where
  ha : a < os.length
  l1 : r.1 ≤ lo
  l2 : lo ≤ r.2.1 + 1
  low : ∀ o, os[a]? = some o → ∀ x, lo ≤ x → x ≤ t → o.1 ≤ F x
  cov : Cov (fun x => G (F x)) qs 0 (lo - 1)
  len : qs.length ≤ i + a + 1
  len2 : lo ≤ r.2.1 → qs.length ≤ i + a ∨ ∃ o, os[a]? = some o ∧ o.2.1 < F lo
theorem comp_step {F G : Int → Int} {rs os : List Row} {t m : Int} {i a : Nat} {r o : Row} {lo v : Int} {qs : List Row} (cF : Cov F rs 0 t) (cG : Cov G os 0 m) (hg : Good F t m) (hr : rs[i]? = some r) (ho : os[a]? = some o) (h1 : r.1 ≤ lo) (h2 : lo ≤ r.2.1) (hv : v = F lo) (o1 : o.1 ≤ v) (o2 : v ≤ o.2.1)
    (cov : Cov (fun x => G (F x)) qs 0 (lo - 1)) (hl : qs.length ≤ i + a) : lo ≤ endF r o lo v ∧ CS F G rs os t i r a (endF r o lo v + 1) (qs ++ [(lo, endF r o lo v, onRow o v, r.2.2.2 && o.2.2.2)]) := by
  obtain ⟨r1, r2, r3, r4⟩ := cov_get cF hr
  obtain ⟨q1, q2, q3, q4⟩ := cov_get cG ho
  have hlo := r4 lo h1 h2
  have hval : ∀ x, lo ≤ x → x ≤ r.2.1 → F x = if r.2.2.2 = true then v + (x - lo) else v := fun x x1 x2 => by
    have e1 := r4 x (by omega) x2
    rw [← e1, hv, ← hlo]
    unfold onRow
    split <;> omega
  have he : lo ≤ endF r o lo v ∧ endF r o lo v ≤ r.2.1 ∧ (r.2.2.2 = true → endF r o lo v ≤ lo + o.2.1 - v) ∧ (endF r o lo v < r.2.1 → r.2.2.2 = true ∧ endF r o lo v = lo + o.2.1 - v) := by
    unfold endF lesF
    split
    · rename_i hri
      split
      · exact ⟨by omega, by omega, fun _ => by omega, fun z => by omega⟩
      · exact ⟨by omega, by omega, fun _ => by omega, fun z => ⟨hri, rfl⟩⟩
    · rename_i hri
      exact ⟨by omega, by omega, fun z => absurd z hri, fun z => by omega⟩
  generalize endF r o lo v = e at *
  obtain ⟨e1, e2, e3, e4⟩ := he
  refine ⟨e1, by exact (List.getElem?_eq_some_iff.mp ho).1, by omega, by omega, fun o' ho' x x1 x2 => ?_, ?_, ?_, fun hle => ?_⟩
  · have : o' = o := Option.some.inj (ho'.symm.trans ho)
    subst this
    have := hg.le (x := lo) (y := x) (by omega) (by omega) x2
    omega
  · rw [show e + 1 - 1 = e by omega]
    refine cov_snoc cov rfl e1 fun x x1 x2 => ?_
    have x1 : lo ≤ x := x1
    have x2 : x ≤ e := x2
    have hx := hval x x1 (by omega)
    show onRow (lo, e, onRow o v, r.2.2.2 && o.2.2.2) x = G (F x)
    cases hri : r.2.2.2 with
    | false =>
      rw [hri, if_neg Bool.false_ne_true] at hx
      rw [hx, Bool.false_and, ← q4 v o1 o2]
      rfl
    | true =>
      rw [hri, if_pos rfl] at hx
      have := e3 hri
      rw [hx, Bool.true_and, ← q4 (v + (x - lo)) (by omega) (by omega)]
      show (if o.2.2.2 = true then onRow o v + (x - lo) else onRow o v) = onRow o (v + (x - lo))
      unfold onRow
      split <;> omega
  · rw [List.length_append, List.length_singleton]
    omega
  · right
    obtain ⟨hri, ee⟩ := e4 (by omega)
    have hx := hval (e + 1) (by omega) (by omega)
    rw [hri, if_pos rfl] at hx
    exact ⟨o, ho, by omega⟩
structure CO (F G : Int → Int) (rs os : List Row) (t : Int) (i : Nat) (a : Nat) (lo : Int) (qs : List Row) : Prop where
  ha : a < os.length
  l1 : ∀ r, rs[i]? = some r → r.1 = lo
  l2 : i = rs.length → lo = t + 1
  low : ∀ o, os[a]? = some o → ∀ x, lo ≤ x → x ≤ t → o.1 ≤ F x
  cov : Cov (fun x => G (F x)) qs 0 (lo - 1)
  len : qs.length ≤ i + a
theorem co_zero {F G : Int → Int} {rs os : List Row} {t m : Int} (cF : Cov F rs 0 t) (cG : Cov G os 0 m) (hg : Good F t m) : CO F G rs os t 0 0 0 [] := by
  have h1 := cov_ne cF hg.t0
  have h2 := cov_ne cG hg.g0
  refine ⟨h2, fun r hr => cov_first cF hr, fun e => by omega, fun o ho x x1 x2 => ?_, rfl, Nat.le_refl _⟩
  rw [cov_first cG ho]
  exact hg.nn x1 x2
theorem co_in {F G : Int → Int} {rs os : List Row} {t m : Int} {i a : Nat} {lo : Int} {r : Row} {qs : List Row} (cF : Cov F rs 0 t) (h : CO F G rs os t i a lo qs) (hr : rs[i]? = some r) : CS F G rs os t i r a r.1 qs := by
  have e := h.l1 r hr
  have := cov_get cF hr
  have h1 := h.low
  have h2 := h.cov
  rw [← e] at h1 h2
  exact ⟨h.ha, Int.le_refl _, by omega, h1, h2, by have := h.len; omega, fun _ => .inl h.len⟩
theorem co_next {F G : Int → Int} {rs os : List Row} {t m : Int} {i a : Nat} {lo : Int} {r : Row} {qs : List Row} (cF : Cov F rs 0 t) (h : CS F G rs os t i r a lo qs) (hr : rs[i]? = some r) (hn : ¬ lo ≤ r.2.1) : CO F G rs os t (i + 1) a lo qs := by
  have e : lo = r.2.1 + 1 := by have := h.l2; omega
  refine ⟨h.ha, fun q hq => ?_, fun hi => ?_, h.low, h.cov, by have := h.len; omega⟩
  · rw [e]
    exact cov_next cF hr hq
  · have := cov_last cF hr (by rw [List.getElem?_eq_none]; omega)
    omega
def F_composed : FT := fun args st Ret _ => ∃ (rs os : List Row) (F G : Int → Int) (t m : Int), args = [.dat (.lst (rs.map rowD)), .dat (.lst (os.map rowD))] ∧ Cov F rs 0 t ∧ Cov G os 0 m ∧ Good F t m ∧ rs.length + os.length ≤ 1000 ∧
  ∀ qs, Cov (fun x => G (F x)) qs 0 t → qs.length ≤ rs.length + os.length → Ret (.dat (.lst (qs.map rowD))) st
theorem ok_composed {f : Addr} {fd : FuncData} (C_lesser : Cal P w K mg base 1 "lesser" F_lesser) (C_value_on : Cal P w K mg base 1 "value_on" F_value_on) (Fn : Fun K "composed" "composed" s_composed f fd) (b : Binds K fd p_composed []) : FnG P w K mg base (L2.CX P w) 2 f (spD K F_composed) := by
  refine fnD Fn sc_composed b (fun args st0 Ret Exc h => ?_) ?_
  · obtain ⟨rs, os, F, G, t, m, rfl, _⟩ := h
    rfl
  intro cdv A outer s H E H0 Al args st0 Ret Exc hr xk hp hal hcl hF
  obtain ⟨rs, os, F, G, t, m, rfl, cF, cG, hg, hlen, q⟩ := hF
  refine sw_cons ?_
  refine sw_set 2 ?_ sc_composed.nd
  refine ew_lstM ?_
  refine aw_nil ?_
  refine ⟨by decide, ?_⟩
  refine sw_cons ?_
  refine sw_set 3 ?_ sc_composed.nd
  refine ew_int ?_
  refine sw_cons ?_
  refine sw_for hp rfl ?_
  refine iw_list ?_
  refine ew_name 0 rfl ?_
  refine ⟨_, rfl, ?_⟩
  refine ⟨fun i sl st => ∃ (a : Nat) (lo : Int) (qs : List Row) (o4 o5 o6 o7 o8 o9 o10 : Option W), CO F G rs os t i a lo qs ∧ st = st0 ++ [.lst ((qs.map rowD).map W.dat)] ∧
    sl = [some (.dat (.lst (rs.map rowD))), some (.dat (.lst (os.map rowD))), some (.ptr st0.length), some (.dat (.int (a : Int))), o4, o5, o6, o7, o8, o9, o10], ?_, fun i w sl st hw hI => ?_, fun sl st hI => ?_⟩
  · exact ⟨0, 0, [], none, none, none, none, none, none, none, co_zero cF cG hg, rfl, rfl⟩
  · obtain ⟨a, lo, qs, o4, o5, o6, o7, o8, o9, o10, hC, rfl, rfl⟩ := hI
    obtain ⟨d, hd, rfl⟩ := getElem?_mapW hw
    rw [List.getElem?_map] at hd
    obtain ⟨r, hr0, rfl⟩ := Option.map_eq_some_iff.mp hd
    have hil := (List.getElem?_eq_some_iff.mp hr0).1
    have hS := co_in (m := m) cF hC hr0
    obtain ⟨rb1, rb2, rb3, rb4⟩ := cov_get cF hr0
    refine gw_name 4 ?_ sc_composed.nd
    refine sw_cons ?_
    refine sw_asg ?_
    refine ew_name 4 rfl ?_
    refine gw_tup rfl ?_
    refine gs_cons ?_
    refine gw_name 5 ?_ sc_composed.nd
    refine gs_cons ?_
    refine gw_name 6 ?_ sc_composed.nd
    refine gs_cons ?_
    refine gw_name 7 ?_ sc_composed.nd
    refine gs_cons ?_
    refine gw_name 8 ?_ sc_composed.nd
    refine gs_nil ?_
    refine sw_cons ?_
    refine sw_while hp (fun m' sl st => ∃ (a : Nat) (lo : Int) (qs : List Row) (o9 o10 : Option W), CS F G rs os t i r a lo qs ∧ m' = (r.2.1 + 1 - lo).toNat ∧ st = st0 ++ [.lst ((qs.map rowD).map W.dat)] ∧
      sl = [some (.dat (.lst (rs.map rowD))), some (.dat (.lst (os.map rowD))), some (.ptr st0.length), some (.dat (.int (a : Int))), some (.dat (rowD r)), some (.dat (.int lo)), some (.dat (.int r.2.1)), some (.dat (.int r.2.2.1)), some (.dat (.bl r.2.2.2)), o9, o10]) (r.2.1 + 1 - r.1).toNat ?_ (fun m' sl st hI => ?_)
    · exact ⟨a, r.1, qs, o9, o10, hS, rfl, rfl, rfl⟩
    · clear hS hC
      obtain ⟨a, lo, qs, o9, o10, hS, rfl, rfl, rfl⟩ := hI
      refine tw_cmp (nomark _) ?_
      refine ew_name 5 rfl ?_
      refine ew_name 6 rfl ?_
      refine o_le ?_
      refine ⟨_, rfl, ?_⟩
      refine ifD (fun h => ?_) (fun h => ?_)
      · have hl1 := hS.l1
        have hlow := hS.low
        have hqlen := hS.len
        have haS := hS.ha
        have ev := rb4 lo hl1 h
        refine sw_cons ?_
        refine sw_set 9 ?_ sc_composed.nd
        refine ew_call C_value_on hr (by decide) xk ?_
        refine aw_cons ?_
        refine ew_name 4 rfl ?_
        refine aw_cons ?_
        refine ew_name 5 rfl ?_
        refine aw_nil ?_
        refine ⟨_, _, rfl, ?_⟩
        rw [ev]
        have hub := hg.ub (x := lo) (by omega) (by omega)
        refine sw_cut (fun sl st => ∃ (a : Nat) (o : Row), os[a]? = some o ∧ o.1 ≤ F lo ∧ F lo ≤ o.2.1 ∧ qs.length ≤ i + a ∧ st = st0 ++ [.lst ((qs.map rowD).map W.dat)] ∧
          sl = [some (.dat (.lst (rs.map rowD))), some (.dat (.lst (os.map rowD))), some (.ptr st0.length), some (.dat (.int (a : Int))), some (.dat (rowD r)), some (.dat (.int lo)), some (.dat (.int r.2.1)), some (.dat (.int r.2.2.1)), some (.dat (.bl r.2.2.2)), some (.dat (.int (F lo))), o10]) ?_ ?_
        · refine sw_while hp (fun m2 sl st => ∃ (a : Nat) (o : Row), os[a]? = some o ∧ o.1 ≤ F lo ∧ (qs.length ≤ i + a ∨ (o.2.1 < F lo ∧ qs.length ≤ i + a + 1)) ∧ m2 = os.length - a ∧ st = st0 ++ [.lst ((qs.map rowD).map W.dat)] ∧
            sl = [some (.dat (.lst (rs.map rowD))), some (.dat (.lst (os.map rowD))), some (.ptr st0.length), some (.dat (.int (a : Int))), some (.dat (rowD r)), some (.dat (.int lo)), some (.dat (.int r.2.1)), some (.dat (.int r.2.2.1)), some (.dat (.bl r.2.2.2)), some (.dat (.int (F lo))), o10]) (os.length - a) ?_ (fun m2 sl st hI => ?_)
          · have eo := List.getElem?_eq_getElem haS
            refine ⟨a, os[a], eo, hlow _ eo lo (Int.le_refl _) (by omega), ?_, rfl, rfl, rfl⟩
            rcases hS.len2 h with z | ⟨o, ho, z⟩
            · exact .inl z
            · have : os[a] = o := Option.some.inj (eo.symm.trans ho)
              rw [this]
              exact .inr ⟨z, hqlen⟩
          · obtain ⟨a, o, eo, oa, ol, rfl, rfl, rfl⟩ := hI
            have ha := (List.getElem?_eq_some_iff.mp eo).1
            obtain ⟨ob1, ob2, ob3, ob4⟩ := cov_get cG eo
            refine tw_cmp (nomark _) ?_
            refine ew_ix ?_
            refine ew_ix ?_
            refine ew_name 1 rfl ?_
            refine ew_name 3 rfl ?_
            refine ⟨_, _, rfl, itm_map eo, ?_⟩
            refine ew_int ?_
            refine ⟨_, _, rfl, itm_tup (j := 1) rfl rfl, ?_⟩
            refine ew_name 9 rfl ?_
            refine o_lt ?_
            refine ⟨_, rfl, ?_⟩
            refine ifD (fun h5 => ?_) (fun h5 => ?_)
            · have h5 : o.2.1 < F lo := h5
              have ha2 : a + 1 < os.length := by
                by_cases z : a + 1 < os.length
                · exact z
                · have := cov_last cG eo (by rw [List.getElem?_eq_none]; omega)
                  omega
              have eo2 := List.getElem?_eq_getElem ha2
              have := cov_next cG eo eo2
              refine sw_cons ?_
              refine sw_aug 3 rfl ?_ sc_composed.nd
              refine ew_int ?_
              refine o_iadd ?_
              refine sw_nil ?_
              exact ⟨os.length - (a + 1), by omega, a + 1, _, eo2, by omega, .inl (by omega), rfl, rfl, rfl⟩
            · have h5 : ¬ o.2.1 < F lo := h5
              exact ⟨a, o, eo, oa, by omega, by omega, rfl, rfl⟩
        rintro sl st ⟨a, o, eo, oa, oz, ol, rfl, rfl⟩
        obtain ⟨hend, hS'⟩ := comp_step cF cG hg hr0 eo hl1 h rfl oa oz hS.cov ol
        refine sw_cons ?_
        refine sw_set 10 ?_ sc_composed.nd
        refine ew_midS (fun w st' => w = .dat (.int (endF r o lo (F lo))) ∧ st' = st0 ++ [.lst ((qs.map rowD).map W.dat)]) ?_ ?_
        · refine ew_if ?_
          refine tw_val ?_
          refine ew_name 8 rfl ?_
          refine ⟨_, rfl, ?_⟩
          unfold endF
          refine ifB (fun h5 => ?_) (fun h5 => ?_)
          · rw [if_pos h5]
            refine ew_call C_lesser hr (by decide) xk ?_
            refine aw_cons ?_
            refine ew_name 6 rfl ?_
            refine aw_cons ?_
            refine ew_bin ?_
            refine ew_bin ?_
            refine ew_name 5 rfl ?_
            refine ew_ix ?_
            refine ew_ix ?_
            refine ew_name 1 rfl ?_
            refine ew_name 3 rfl ?_
            refine ⟨_, _, rfl, itm_map eo, ?_⟩
            refine ew_int ?_
            refine ⟨_, _, rfl, itm_tup (j := 1) rfl rfl, ?_⟩
            refine o_add ?_
            refine ew_name 9 rfl ?_
            refine o_sub ?_
            refine aw_nil ?_
            exact ⟨_, _, rfl, rfl, rfl⟩
          · rw [if_neg (by rw [h5]; exact Bool.false_ne_true)]
            refine ew_name 6 rfl ?_
            exact ⟨rfl, rfl⟩
        rintro w st ⟨rfl, rfl⟩
        generalize eend : endF r o lo (F lo) = en at *
        refine sw_cons ?_
        refine sw_expr ?_
        refine ew_append ?_
        refine ew_name 2 rfl ?_
        refine ⟨_, _, rfl, at_end, ?_⟩
        refine ew_tup ?_
        refine aw_cons ?_
        refine ew_name 5 rfl ?_
        refine aw_cons ?_
        refine ew_name 10 rfl ?_
        refine aw_cons ?_
        refine ew_call C_value_on hr (by decide) xk ?_
        refine aw_cons ?_
        refine ew_ix ?_
        refine ew_name 1 rfl ?_
        refine ew_name 3 rfl ?_
        refine ⟨_, _, rfl, itm_map eo, ?_⟩
        refine aw_cons ?_
        refine ew_name 9 rfl ?_
        refine aw_nil ?_
        refine ⟨_, _, rfl, ?_⟩
        refine aw_cons ?_
        refine ew_midS (fun w st' => w = .dat (.bl (r.2.2.2 && o.2.2.2)) ∧ st' = st0 ++ [.lst ((qs.map rowD).map W.dat)]) ?_ ?_
        · refine ew_and ?_
          refine ew_name 8 rfl ?_
          refine ⟨_, rfl, ?_⟩
          refine ifB (fun h5 => ?_) (fun h5 => ?_)
          · refine ew_one ?_
            refine ew_ix ?_
            refine ew_ix ?_
            refine ew_name 1 rfl ?_
            refine ew_name 3 rfl ?_
            refine ⟨_, _, rfl, itm_map eo, ?_⟩
            refine ew_int ?_
            refine ⟨_, _, rfl, itm_tup (j := 3) rfl rfl, ?_⟩
            rw [h5, Bool.true_and]
            exact ⟨rfl, rfl⟩
          · rw [h5, Bool.false_and]
            exact ⟨rfl, rfl⟩
        rintro w st ⟨rfl, rfl⟩
        refine aw_nil ?_
        refine ⟨_, rfl, (by show 4 ≤ sizeLine; decide), ?_⟩
        have ha := (List.getElem?_eq_some_iff.mp eo).1
        refine ⟨_, at_end, szl (by rw [List.length_map, List.length_map]; omega), ?_⟩
        have em : (qs.map rowD).map W.dat ++ [W.dat (rowD (lo, en, onRow o (F lo), r.2.2.2 && o.2.2.2))] = ((qs ++ [(lo, en, onRow o (F lo), r.2.2.2 && o.2.2.2)]).map rowD).map W.dat := by
          rw [List.map_append, List.map_append]
          rfl
        rw [set_end]
        show SW _ _ _ _ (st0 ++ [.lst ((qs.map rowD).map W.dat ++ [W.dat (rowD (lo, en, onRow o (F lo), r.2.2.2 && o.2.2.2))])]) _
        rw [em]
        refine sw_cons ?_
        refine sw_set 5 ?_ sc_composed.nd
        refine ew_bin ?_
        refine ew_name 10 rfl ?_
        refine ew_int ?_
        refine o_add ?_
        refine sw_nil ?_
        exact ⟨_, by omega, a, en + 1, _, _, _, hS', rfl, rfl, rfl⟩
      · have h : ¬ lo ≤ r.2.1 := h
        refine sw_nil ?_
        exact ⟨a, lo, qs, _, _, _, _, _, _, _, co_next (m := m) cF hS hr0 h, rfl, rfl⟩
  · obtain ⟨a, lo, qs, o4, o5, o6, o7, o8, o9, o10, hC, rfl, rfl⟩ := hI
    refine sw_cons ?_
    refine sw_ret ?_
    refine ew_frz (j := st0.length) (xs := qs.map rowD) ?_
    refine ew_name 2 rfl ?_
    refine ⟨⟨rfl, at_end, by show Al.length ≤ st0.length; omega⟩, ?_⟩
    rw [set_end]
    have e2 : lo = t + 1 := hC.l2 (by rw [List.length_map, List.length_map])
    have hc := hC.cov
    have hl := hC.len
    have ha := hC.ha
    rw [List.length_map, List.length_map] at hl
    rw [e2, show t + 1 - 1 = t by omega] at hc
    exact ⟨st0, [.gone], rfl, Nat.le_refl _, hcl, trivial, q qs hc (by omega)⟩
end Kf
namespace Kf
open PySem PySem.Spec L2 StX ClX Dn
open PyProof.Rows hiding St
variable {P : Program} {w : World} {K : PySem.W.Frag} {mg : Str → Option Value} {base : Heap}
def tabF (zs : List Int) (x : Int) : Int := zs.getD x.toNat 0
theorem rowsFrom_len : ∀ (k : Int) (xs : List D), (rowsFrom k xs).length = xs.length
  | _, [] => rfl
  | k, x :: xs => by
    show (rowsFrom (k + 1) xs).length + 1 = _
    rw [rowsFrom_len (k + 1) xs]
    rfl
theorem rowsFrom_cov {F : Int → Int} : ∀ (zs : List Int) (k : Int), (∀ (i : Nat) (z : Int), zs[i]? = some z → F (k + i) = z) → Cov F (rowsFrom k (zs.map D.int)) k (k + zs.length - 1)
  | [], k, _ => by
    show k = k + ((0 : Nat) : Int) - 1 + 1
    omega
  | z :: zs, k, h => by
    have ih := rowsFrom_cov zs (k + 1) fun i y hy => by
      have := h (i + 1) y (by simpa using hy)
      rw [show k + 1 + (i : Int) = k + ((i + 1 : Nat) : Int) by omega]
      exact this
    refine ⟨rfl, Int.le_refl _, fun x h1 h2 => ?_, ?_⟩
    · have h2 : x ≤ k := h2
      have : x = k := by omega
      subst this
      have := h 0 z rfl
      rw [show x + ((0 : Nat) : Int) = x by omega] at this
      rw [this]
      rfl
    · show Cov F (rowsFrom (k + 1) (zs.map D.int)) (k + 1) _
      rw [List.length_cons, show k + ((zs.length + 1 : Nat) : Int) - 1 = k + 1 + (zs.length : Int) - 1 by omega]
      exact ih
theorem tabF_at {zs : List Int} {i : Nat} {z : Int} (h : zs[i]? = some z) : tabF zs (i : Int) = z := by
  unfold tabF
  rw [Int.toNat_natCast, List.getD_eq_getElem?_getD, h]
  rfl
theorem tab_good {g : Int} {zs : List Int} (h : TabZ g zs) (hg : 0 ≤ g) (hl : 0 < zs.length) : Good (tabF zs) ((zs.length : Int) - 1) g := by
  have at_ : ∀ x : Int, 0 ≤ x → x < zs.length → ∃ z, zs[x.toNat]? = some z ∧ tabF zs x = z := fun x h0 h1 => by
    have hx : x.toNat < zs.length := by omega
    have e := List.getElem?_eq_getElem hx
    refine ⟨_, e, ?_⟩
    have := tabF_at e
    rwa [show ((x.toNat : Nat) : Int) = x by omega] at this
  refine ⟨by omega, hg, ?_, fun x h0 h1 => ?_, ?_⟩
  · obtain ⟨z, e, e2⟩ := at_ 0 (Int.le_refl _) (by omega)
    rw [e2]
    exact (h.1 z (List.mem_of_getElem? e)).1
  · obtain ⟨z, e, e2⟩ := at_ x h0 (by omega)
    obtain ⟨y, e3, e4⟩ := at_ (x + 1) (by omega) (by omega)
    rw [e2, e4]
    rw [show (x + 1).toNat = x.toNat + 1 by omega] at e3
    exact h.2 _ _ _ e e3
  · obtain ⟨z, e, e2⟩ := at_ ((zs.length : Int) - 1) (by omega) (by omega)
    rw [e2]
    exact (h.1 z (List.mem_of_getElem? e)).2
theorem tab_isP {C : Addr} {g : Int} {zs : List Int} (h : TabZ g zs) (hg : 0 ≤ g) (hl : 0 < zs.length) : IsP C ((zs.length : Int) - 1) g (tabF zs) zs.length (psgD C (((zs.map D.int).length : Int) - 1) g (normalF (rowsFrom 0 (zs.map D.int)))) := by
  rw [List.length_map]
  refine isP_of (tab_good h hg hl) ?_ (by rw [rowsFrom_len, List.length_map]; exact Nat.le_refl _)
  have := rowsFrom_cov (F := tabF zs) zs 0 fun i z hz => by
    rw [Int.zero_add]
    exact tabF_at hz
  rwa [Int.zero_add] at this
theorem same_isP {C : Addr} {n : Int} (hn : 0 ≤ n) : IsP C n n (fun x => x) 1 (psgD C n n [(0, 0, decide (0 < n))]) := by
  have e1 : normalF [((0 : Int), n, (0 : Int), true)] = [(0, 0, decide (0 < n))] := by
    show (nstep ([], 0, none) (0, n, 0, true)).1 = _
    unfold nstep nfin nps nsl nlow joins
    simp only [List.isEmpty_nil, Bool.not_true, Bool.false_and, Bool.false_eq_true, if_false, if_pos hn]
    by_cases h : 0 < n
    · rw [if_pos h, decide_eq_true h]
      rfl
    · rw [if_neg h, decide_eq_false h]
      rfl
  rw [← e1]
  refine isP_of ⟨hn, hn, Int.le_refl _, fun x _ _ => by show x ≤ x + 1; omega, Int.le_refl _⟩ ⟨rfl, hn, fun x h1 h2 => ?_, rfl⟩ (Nat.le_refl _)
  show (0 : Int) + (x - 0) = x
  omega
theorem isP_val {C : Addr} {t g : Int} {F : Int → Int} {N : Nat} {d : D} (h : IsP C t g F N d) {x : Int} (h0 : 0 ≤ x) (h1 : x ≤ t) : valAt (nf F t) x = F x := by
  obtain ⟨_, hst, hat, _⟩ := h
  rw [valAt_at hst.2.1 ⟨0, hst.1, h0⟩]
  exact hat x h0 h1
theorem isP_ne {C : Addr} {t g : Int} {F : Int → Int} {N : Nat} {d : D} (h : IsP C t g F N d) : nf F t ≠ [] := fun e => by
  have := h.2.1.1
  rw [e] at this
  cases this
theorem pieces_isP {C : Addr} {t g : Int} {ps : List Pc} {N : Nat} (ht : 0 ≤ t) (hg : 0 ≤ g) (h : PsOk t g ps) (hl : ps.length ≤ N) : IsP C t g (atF ps) N (psgD C t g (normalF (stretchF ps t))) :=
  isP_of (let ⟨⟨a, b⟩, c⟩ := (stays_iff (arePieces_tells h.2.1).1).mp h.2.2; ⟨ht, hg, a, b, c⟩) (rows_cov (arePieces_tells h.2.1).1) (by rw [stretchF_length]; exact hl)
theorem iw_pcs {X : Cx} {G : Ent} {e tg : Expr} {sl : Sls} {st : List Ob} {Θ : IK} {d : D} {ps : List Pc} (hd : PcsD d ps) (h : EW X G e sl st fun w st1 => w = .dat d ∧ Θ ((ps.map pcD).map W.dat) st1) : IWJ X G tg e sl st Θ := by
  rcases hd with rfl | rfl
  · exact iw_list (h.imp fun w st1 ⟨e1, q⟩ => ⟨_, e1, q⟩)
  · exact iw_tup (h.imp fun w st1 ⟨e1, q⟩ => ⟨_, e1, q⟩)
end Kf
namespace Kf
open PySem PySem.Spec L2 StX ClX Dn
open PyProof.Rows hiding St
variable {P : Program} {w : World} {K : PySem.W.Frag} {mg : Str → Option Value} {base : Heap}
def GR (s : NS) (x : Int) : Prop := (∀ (i : Nat) (p q : Pc), s.1[i]? = some p → s.1[i + 1]? = some q → p.2.2 = true → p.1 + 2 ≤ q.1) ∧
  ∀ qs p, s.1 = qs ++ [p] → (s.2.2 = none ∧ p.2.2 = false ∧ p.1 = x - 1) ∨ ∃ b, s.2.2 = some b ∧ p.2.2 = b ∧ p.1 + 2 ≤ x
theorem gr_step {s : NS} {x v : Int} (h : GR s x) : GR (gstep s x v) (x + 1) := by
  obtain ⟨ps, last, sl⟩ := s
  obtain ⟨h1, h2⟩ := h
  have h1 : ∀ (i : Nat) (p q : Pc), ps[i]? = some p → ps[i + 1]? = some q → p.2.2 = true → p.1 + 2 ≤ q.1 := h1
  have h2 : ∀ qs p, ps = qs ++ [p] → (sl = none ∧ p.2.2 = false ∧ p.1 = x - 1) ∨ ∃ b, sl = some b ∧ p.2.2 = b ∧ p.1 + 2 ≤ x := h2
  unfold gstep
  split
  · rename_i hj
    have hj : joins ps last sl v = true := hj
    show GR (bend ps (decide (v - last = 1)), v, some (decide (v - last = 1))) (x + 1)
    generalize decide (v - last = 1) = b
    have hne : ps ≠ [] := fun e => by
      unfold joins at hj
      rw [e] at hj
      cases hj
    obtain ⟨qs, p, rfl⟩ : ∃ qs p, ps = qs ++ [p] := ⟨ps.dropLast, ps.getLast hne, (List.dropLast_concat_getLast hne).symm⟩
    rw [bend_snoc]
    have hp : p.1 + 1 ≤ x := by
      rcases h2 qs p rfl with ⟨_, _, z⟩ | ⟨_, _, _, z⟩ <;> omega
    refine ⟨fun i u w hu hw hr => ?_, fun qs' p' e => ?_⟩
    · have hu : (qs ++ [(p.1, p.2.1, b)])[i]? = some u := hu
      have hw : (qs ++ [(p.1, p.2.1, b)])[i + 1]? = some w := hw
      have hl := (List.getElem?_eq_some_iff.mp hw).1
      rw [List.length_append, List.length_singleton] at hl
      rw [List.getElem?_append_left (by omega)] at hu
      have hu' : (qs ++ [p])[i]? = some u := by rw [List.getElem?_append_left (by omega)]; exact hu
      by_cases hi : i + 1 < qs.length
      · rw [List.getElem?_append_left hi] at hw
        exact h1 i u w hu' (by rw [List.getElem?_append_left hi]; exact hw) hr
      · have e : i + 1 = qs.length := by omega
        rw [e, List.getElem?_append_right (Nat.le_refl _), Nat.sub_self] at hw
        have hw : (p.1, p.2.1, b) = w := Option.some.inj hw
        have := h1 i u p hu' (by rw [e, List.getElem?_append_right (Nat.le_refl _), Nat.sub_self]; rfl) hr
        rw [← hw]
        exact this
    · have e : qs ++ [(p.1, p.2.1, b)] = qs' ++ [p'] := e
      have e := (List.append_inj' e rfl).2
      have e : (p.1, p.2.1, b) = p' := by injection e
      subst e
      exact .inr ⟨b, rfl, rfl, by show p.1 + 2 ≤ x + 1; omega⟩
  · show GR (ps ++ [(x, v, false)], v, none) (x + 1)
    refine ⟨fun i u w hu hw hr => ?_, fun qs' p' e => ?_⟩
    · have hu : (ps ++ [(x, v, false)])[i]? = some u := hu
      have hw : (ps ++ [(x, v, false)])[i + 1]? = some w := hw
      have hl := (List.getElem?_eq_some_iff.mp hw).1
      rw [List.length_append, List.length_singleton] at hl
      rw [List.getElem?_append_left (by omega)] at hu
      by_cases hi : i + 1 < ps.length
      · rw [List.getElem?_append_left hi] at hw
        exact h1 i u w hu hw hr
      · have e : i + 1 = ps.length := by omega
        rw [e, List.getElem?_append_right (Nat.le_refl _), Nat.sub_self] at hw
        have hw : (x, v, false) = w := Option.some.inj hw
        subst hw
        have hne : ps ≠ [] := fun z => by rw [z] at hu; simp at hu
        obtain ⟨qs, p, rfl⟩ : ∃ qs p, ps = qs ++ [p] := ⟨ps.dropLast, ps.getLast hne, (List.dropLast_concat_getLast hne).symm⟩
        rw [List.length_append, List.length_singleton] at e
        have ei : i = qs.length := by omega
        rw [ei, List.getElem?_append_right (Nat.le_refl _), Nat.sub_self] at hu
        have hu : p = u := Option.some.inj hu
        subst hu
        rcases h2 qs p rfl with ⟨_, z, _⟩ | ⟨_, _, _, z⟩
        · rw [hr] at z
          cases z
        · exact z
    · have e : ps ++ [(x, v, false)] = qs' ++ [p'] := e
      have e := (List.append_inj' e rfl).2
      have e : (x, v, false) = p' := by injection e
      subst e
      exact .inl ⟨rfl, rfl, by show x = x + 1 - 1; omega⟩
theorem gr_fold (F : Int → Int) : ∀ (n : Nat) (x : Int) (s : NS), GR s x → GR (gfold F n x s) (x + n)
  | 0, x, s, h => by
    rw [show x + ((0 : Nat) : Int) = x by omega]
    exact h
  | n + 1, x, s, h => by
    have := gr_fold F n (x + 1) _ (gr_step (v := F x) h)
    rw [show x + 1 + (n : Int) = x + ((n + 1 : Nat) : Int) by omega] at this
    exact this
theorem nf_rises {F : Int → Int} {t : Int} (ht : 0 ≤ t) : ∀ r ∈ stretchF (nf F t) t, r.2.2.2 = true → r.1 < r.2.1 := by
  have h := gr_fold F (t + 1).toNat 0 ([], 0, none) ⟨fun i p q hp => by simp at hp, fun qs p e => by simp at e⟩
  rw [show 0 + ((t + 1).toNat : Int) = t + 1 by omega] at h
  obtain ⟨h1, h2⟩ := h
  have h1 : ∀ (i : Nat) (p q : Pc), (nf F t)[i]? = some p → (nf F t)[i + 1]? = some q → p.2.2 = true → p.1 + 2 ≤ q.1 := h1
  intro r hr hri
  obtain ⟨i, hi⟩ := List.getElem?_of_mem hr
  have hil := (List.getElem?_eq_some_iff.mp hi).1
  rw [stretchF_length] at hil
  have ep := List.getElem?_eq_getElem hil
  obtain ⟨b, hb, e⟩ := stretchF_get (nf F t) t i _ ep
  rw [hi] at e
  have e := Option.some.inj e
  rw [e] at hri ⊢
  show (nf F t)[i].1 < b - 1
  unfold bnds at hb
  by_cases hl : i + 1 < (nf F t).length
  · rw [List.getElem?_append_left (by rw [List.length_map]; exact hl), List.getElem?_map, List.getElem?_eq_getElem hl] at hb
    have hb : (nf F t)[i + 1].1 = b := Option.some.inj hb
    have := h1 i _ _ ep (List.getElem?_eq_getElem hl) hri
    omega
  · have el : i + 1 = (nf F t).length := by omega
    rw [el, List.getElem?_append_right (by rw [List.length_map]; exact Nat.le_refl _), List.length_map, Nat.sub_self] at hb
    have hb : t + 1 = b := Option.some.inj hb
    have hne : nf F t ≠ [] := fun z => by rw [z] at hil; simp at hil
    have hd := (List.dropLast_concat_getLast hne).symm
    have hlast : (nf F t).getLast hne = (nf F t)[i] := by
      rw [List.getLast_eq_getElem]
      congr 1
      omega
    rw [hlast] at hd
    rcases h2 _ _ hd with ⟨_, z, _⟩ | ⟨_, _, _, z⟩
    · rw [show (nf F t)[i].2.2 = true from hri] at z
      cases z
    · omega
end Kf
namespace Kf
open PySem PySem.Spec L2 StX ClX Dn
open PyProof.Rows hiding St
variable {P : Program} {w : World} {K : PySem.W.Frag} {mg : Str → Option Value} {base : Heap}
structure KTxt (K : PySem.W.Frag) (C : Addr) : Prop where
  cl : PySem.W.findIn K (.ref C) "__class__" = some (some (.builtin "object.__class__"))
  gs : PySem.W.specialIn K (.builtin "object.__class__") "__get__" = some (some (.builtin "getset_descriptor.__get__"))
  tt : PySem.W.takesIn K (.builtin "object.__class__") = some true
  mo : PySem.W.mroIn K C (.type "object") = some true
theorem KTxt.k {C : Addr} (T : PTxt K C) (h : KTxt K C) : KCls K C := fun H a dx fs e => .base (.ins e T.cls h.cl h.gs h.tt h.mo)
def F_passage_of (C : Addr) : FT := fun args st Ret _ => ∃ (rs : List Row) (F : Int → Int) (t g : Int) (N : Nat), args = [.dat (.int t), .dat (.int g), .dat (.lst (rs.map rowD))] ∧ Cov F rs 0 t ∧ Good F t g ∧ rs.length ≤ N ∧ N ≤ 1000 ∧ ∀ d, IsP C t g F N d → Ret (.dat d) st
theorem ok_passage_of {f C CE : Addr} {fd : FuncData} (Mp : Mak P w K mg base 4 "Passage" C (F_init C CE)) (Fn : Fun K "passage_of" "passage_of" s_passage_of f fd) (b : Binds K fd p_passage_of []) : FnG P w K mg base (L2.CX P w) 6 f (spD K (F_passage_of C)) := by
  refine fnD Fn sc_passage_of b (fun args st0 Ret Exc h => ?_) ?_
  · obtain ⟨rs, F, t, g, N, rfl, _⟩ := h
    rfl
  intro cdv A outer s H E H0 Al args st0 Ret Exc hr xk hp hal hcl hF
  obtain ⟨rs, F, t, g, N, rfl, cF, hg, hl, hN, q⟩ := hF
  refine sw_cons ?_
  refine sw_ret ?_
  refine ew_mk Mp hr (by decide) xk ?_
  refine aw_cons ?_
  refine ew_name 0 rfl ?_
  refine aw_cons ?_
  refine ew_name 1 rfl ?_
  refine aw_cons ?_
  refine ew_lc (own := [("low", 3), ("_", 4), ("value", 5), ("rises", 6)]) (tb := true) (is := [3, 4, 5, 6]) rfl sc_passage_of.nd (blkOk_by (N := n_passage_of) (sc := defScope s_passage_of) (by decide +kernel)) (fun _ _ _ _ _ => pg_tup rfl (pgs_cons (pg_name (i := 3) sc_passage_of.nd rfl (Or.inl rfl)) (pgs_cons (pg_name (i := 4) sc_passage_of.nd rfl (Or.inl rfl)) (pgs_cons (pg_name (i := 5) sc_passage_of.nd rfl (Or.inl rfl)) (pgs_cons (pg_name (i := 6) sc_passage_of.nd rfl (Or.inl rfl)) (pgs_nil)))))) (by decide) ?_
  refine lcj_pure ((pcs rs).map pcD) (szl (by unfold pcs; rw [List.length_map, List.length_map]; omega)) ?_ ?_
  · refine iw_list ?_
    refine ew_name 2 rfl ?_
    refine ⟨_, rfl, rfl, by unfold pcs; rw [List.length_map, List.length_map, List.length_map, List.length_map], fun k w' y hw hy => ?_⟩
    obtain ⟨x, hxk, rfl⟩ := getElem?_mapW hw
    rw [List.getElem?_map] at hxk
    obtain ⟨r, hr1, rfl⟩ := Option.map_eq_some_iff.mp hxk
    unfold pcs at hy
    rw [List.getElem?_map, List.getElem?_map, hr1] at hy
    have ey : y = pcD (r.1, r.2.2.1, r.2.2.2) := (Option.some.inj hy).symm
    subst ey
    refine ⟨_, rfl, ?_⟩
    intro G1 sb Hb Cb cl fp
    refine ew_tup ?_
    refine aw_cons ?_
    refine ew_name 3 rfl ?_
    refine aw_cons ?_
    refine ew_name 5 rfl ?_
    refine aw_cons ?_
    refine ew_name 6 rfl ?_
    refine aw_nil ?_
    exact ⟨_, rfl, (by show 3 ≤ sizeLine; decide), rfl, rfl⟩
  · refine aw_nil ?_
    obtain ⟨h1, h2⟩ := init_wants hg cF
    refine F_init_ok hcl hg.t0 hg.g0 (.inl rfl) (by unfold pcs; rw [List.length_map]; omega) h1 h2 ?_
    rw [pcs_stretch cF]
    exact krE_of hcl (q _ (isP_of hg cF hl))
def F_rows_of (C : Addr) : FT := fun args st Ret _ => ∃ (F : Int → Int) (t g : Int) (N : Nat) (d : D), args = [.dat d] ∧ IsP C t g F N d ∧ N ≤ 1000 ∧ ∀ rs, Cov F rs 0 t → rs.length ≤ N → (∀ r ∈ rs, r.2.2.2 = true → r.1 < r.2.1) → Ret (.dat (.lst (rs.map rowD))) st
theorem ok_rows_of {f C : Addr} {fd : FuncData} (T : PTxt K C) (C_stretches : Cal P w K mg base 1 "stretches" F_stretches) (Fn : Fun K "rows_of" "rows_of" s_rows_of f fd) (b : Binds K fd p_rows_of []) : FnG P w K mg base (L2.CX P w) 2 f (spD K (F_rows_of C)) := by
  refine fnD Fn sc_rows_of b (fun args st0 Ret Exc h => ?_) ?_
  · obtain ⟨F, t, g, N, d, rfl, _⟩ := h
    rfl
  intro cdv A outer s H E H0 Al args st0 Ret Exc hr xk hp hal hcl hF
  obtain ⟨F, t, g, N, d, rfl, hP, hN, q⟩ := hF
  have hrows := hP.rows
  have hrise := nf_rises (F := F) (t := t) hP.2.2.2.1.t0
  obtain ⟨rfl, _, _, _, hl⟩ := hP
  refine sw_cons ?_
  refine sw_ret ?_
  refine ew_call C_stretches hr (by decide) xk ?_
  refine aw_cons ?_
  refine ew_fld ?_
  refine ew_name 0 rfl ?_
  refine ⟨_, _, _, rfl, T.cls, T.no_pieces, fsP_pieces _ _ _, ?_⟩
  refine aw_cons ?_
  refine ew_fld ?_
  refine ew_name 0 rfl ?_
  refine ⟨_, _, _, rfl, T.cls, T.no_top, fsP_top _ _ _, ?_⟩
  refine aw_nil ?_
  exact ⟨_, nf F t, t, rfl, .inr rfl, by omega, krE_of hcl (q _ hrows (by rw [stretchF_length]; exact hl) hrise)⟩
def F_check_alike (C : Addr) : FT := fun args st Ret _ => ∃ (t g : Int) (ps qs : List Pc), args = [.dat (psgD C t g ps), .dat (psgD C t g qs)] ∧ Ret (.dat .non) st
theorem ok_check_alike {f C : Addr} {fd : FuncData} (T : PTxt K C) (Fn : Fun K "check_alike" "check_alike" s_check_alike f fd) (b : Binds K fd p_check_alike []) : FnG P w K mg base (L2.CX P w) 1 f (spD K (F_check_alike C)) := by
  refine fnD Fn sc_check_alike b (fun args st0 Ret Exc h => ?_) ?_
  · obtain ⟨t, g, ps, qs, rfl, _⟩ := h
    rfl
  intro cdv A outer s H E H0 Al args st0 Ret Exc hr xk hp hal hcl hF
  obtain ⟨t, g, ps, qs, rfl, q⟩ := hF
  refine sw_cons ?_
  refine sw_if ?_
  refine tw_bool ?_
  refine bw_or ?_
  refine tw_cmp (nomark _) ?_
  refine ew_fld ?_
  refine ew_name 0 rfl ?_
  refine ⟨_, _, _, rfl, T.cls, T.no_top, fsP_top _ _ _, ?_⟩
  refine ew_fld ?_
  refine ew_name 1 rfl ?_
  refine ⟨_, _, _, rfl, T.cls, T.no_top, fsP_top _ _ _, ?_⟩
  refine o_neI ?_
  refine ⟨_, rfl, ?_⟩
  refine ifF (by simp) ?_
  refine bw_or1 ?_
  refine tw_cmp (nomark _) ?_
  refine ew_fld ?_
  refine ew_name 0 rfl ?_
  refine ⟨_, _, _, rfl, T.cls, T.no_target, fsP_target _ _ _, ?_⟩
  refine ew_fld ?_
  refine ew_name 1 rfl ?_
  refine ⟨_, _, _, rfl, T.cls, T.no_target, fsP_target _ _ _, ?_⟩
  refine o_neI ?_
  refine ⟨_, rfl, ?_⟩
  refine ifF (by simp) ?_
  refine sw_nil ?_
  refine sw_nil ?_
  exact krE_of hcl q
def F_is_below (C : Addr) : FT := fun args st Ret _ => ∃ (F G : Int → Int) (t g : Int) (N M : Nat) (d e : D), args = [.dat d, .dat e] ∧ IsP C t g F N d ∧ IsP C t g G M e ∧ N + M ≤ 1000 ∧ ∀ b : Bool, (b = true ↔ ∀ x, 0 ≤ x → x ≤ t → F x ≤ G x) → Ret (.dat (.bl b)) st
theorem ok_is_below {f C : Addr} {fd : FuncData} (C_check_alike : Cal P w K mg base 1 "check_alike" (F_check_alike C)) (C_never_exceeds : Cal P w K mg base 4 "never_exceeds" F_never_exceeds) (C_rows_of : Cal P w K mg base 2 "rows_of" (F_rows_of C)) (Fn : Fun K "is_below" "is_below" s_is_below f fd) (b : Binds K fd p_is_below []) : FnG P w K mg base (L2.CX P w) 5 f (spD K (F_is_below C)) := by
  refine fnD Fn sc_is_below b (fun args st0 Ret Exc h => ?_) ?_
  · obtain ⟨F, G, t, g, N, M, d, e, rfl, _⟩ := h
    rfl
  intro cdv A outer s H E H0 Al args st0 Ret Exc hr xk hp hal hcl hF
  obtain ⟨F, G, t, g, N, M, d, e, rfl, h1, h2, hN, q⟩ := hF
  refine sw_cons ?_
  refine sw_expr ?_
  refine ew_call C_check_alike hr (by decide) xk ?_
  refine aw_cons ?_
  refine ew_name 0 rfl ?_
  refine aw_cons ?_
  refine ew_name 1 rfl ?_
  refine aw_nil ?_
  refine ⟨t, g, _, _, by rw [h1.1, h2.1], ?_⟩
  refine sw_cons ?_
  refine sw_ret ?_
  refine ew_call C_never_exceeds hr (by decide) xk ?_
  refine aw_cons ?_
  refine ew_call C_rows_of hr (by decide) xk ?_
  refine aw_cons ?_
  refine ew_name 0 rfl ?_
  refine aw_nil ?_
  refine ⟨F, t, g, N, d, rfl, h1, by omega, fun rs cF hl _ => ?_⟩
  refine aw_cons ?_
  refine ew_call C_rows_of hr (by decide) xk ?_
  refine aw_cons ?_
  refine ew_name 1 rfl ?_
  refine aw_nil ?_
  refine ⟨G, t, g, M, e, rfl, h2, by omega, fun os cG hl2 _ => ?_⟩
  refine aw_nil ?_
  exact ⟨rs, os, F, G, t, rfl, cF, cG, h1.2.2.2.1.t0, by omega, fun b hb => krE_of hcl (q b hb)⟩
theorem good_comp {F G : Int → Int} {t m g : Int} (h1 : Good F t m) (h2 : Good G m g) : Good (fun x => G (F x)) t g := by
  have z := h1.t0
  refine ⟨h1.t0, h2.g0, h2.nn h1.lo (h1.ub (Int.le_refl _) z), fun x a b => h2.le (h1.nn a (by omega)) (h1.up x a b) (h1.ub (by omega) (by omega)), h2.ub (h1.nn z (Int.le_refl _)) h1.hi⟩
theorem good_mx {F G : Int → Int} {t g : Int} (h1 : Good F t g) (h2 : Good G t g) : Good (fun x => mx (F x) (G x)) t g := by
  have a1 := h1.lo
  have a2 := h2.lo
  have b1 := h1.hi
  have b2 := h2.hi
  refine ⟨h1.t0, h1.g0, ?_, fun x a b => ?_, ?_⟩
  · show 0 ≤ mx (F 0) (G 0)
    unfold mx; split <;> omega
  · have c1 := h1.up x a b
    have c2 := h2.up x a b
    show mx (F x) (G x) ≤ mx (F (x + 1)) (G (x + 1))
    unfold mx; split <;> split <;> omega
  · show mx (F t) (G t) ≤ g
    unfold mx; split <;> omega
theorem good_mn {F G : Int → Int} {t g : Int} (h1 : Good F t g) (h2 : Good G t g) : Good (fun x => mn (F x) (G x)) t g := by
  have a1 := h1.lo
  have a2 := h2.lo
  have b1 := h1.hi
  have b2 := h2.hi
  refine ⟨h1.t0, h1.g0, ?_, fun x a b => ?_, ?_⟩
  · show 0 ≤ mn (F 0) (G 0)
    unfold mn; split <;> omega
  · have c1 := h1.up x a b
    have c2 := h2.up x a b
    show mn (F x) (G x) ≤ mn (F (x + 1)) (G (x + 1))
    unfold mn; split <;> split <;> omega
  · show mn (F t) (G t) ≤ g
    unfold mn; split <;> omega
def F_rshift (C : Addr) : FT := fun args st Ret _ => ∃ (F G : Int → Int) (t m g : Int) (N M : Nat) (d e : D), args = [.dat d, .dat e] ∧ IsP C t m F N d ∧ IsP C m g G M e ∧ N + M ≤ 1000 ∧ ∀ r, IsP C t g (fun x => G (F x)) (N + M) r → Ret (.dat r) st
def F_orP (C : Addr) : FT := fun args st Ret _ => ∃ (F G : Int → Int) (t g : Int) (N M : Nat) (d e : D), args = [.dat d, .dat e] ∧ IsP C t g F N d ∧ IsP C t g G M e ∧ N + M ≤ 500 ∧ ∀ r, IsP C t g (fun x => mx (F x) (G x)) (2 * (N + M)) r → Ret (.dat r) st
def F_andP (C : Addr) : FT := fun args st Ret _ => ∃ (F G : Int → Int) (t g : Int) (N M : Nat) (d e : D), args = [.dat d, .dat e] ∧ IsP C t g F N d ∧ IsP C t g G M e ∧ N + M ≤ 500 ∧ ∀ r, IsP C t g (fun x => mn (F x) (G x)) (2 * (N + M)) r → Ret (.dat r) st
def F_eqP (C : Addr) : FT := fun args st Ret _ => ∃ (F G : Int → Int) (t g : Int) (N M : Nat) (d e : D), args = [.dat d, .dat e] ∧ IsP C t g F N d ∧ IsP C t g G M e ∧ ∀ b : Bool, (b = true ↔ ∀ x, 0 ≤ x → x ≤ t → F x = G x) → Ret (.dat (.bl b)) st
theorem ok_rshift {f C : Addr} {fd : FuncData} (B : Bl mg) (T : PTxt K C) (KT : KTxt K C) (gP : mg "Passage" = some (.ref C)) (C_passage_of : Cal P w K mg base 6 "passage_of" (F_passage_of C)) (C_composed : Cal P w K mg base 2 "composed" F_composed) (C_rows_of : Cal P w K mg base 2 "rows_of" (F_rows_of C)) (Fn : Fun K "__rshift__" "Passage.__rshift__" s_op_rshift f fd) (b : Binds K fd p_op_rshift []) : FnG P w K mg base (L2.CX P w) 7 f (spD K (F_rshift C)) := by
  refine fnD Fn sc_op_rshift b (fun args st0 Ret Exc h => ?_) ?_
  · obtain ⟨F, G, t, m, g, N, M, d, e, rfl, _⟩ := h
    rfl
  intro cdv A outer s H E H0 Al args st0 Ret Exc hr xk hp hal hcl hF
  obtain ⟨F, G, t, m, g, N, M, d, e, rfl, h1, h2, hN, q⟩ := hF
  have e1 := h1.1
  have e2 := h2.1
  have h1' := h1
  have h2' := h2
  subst e1 e2
  refine sw_cons ?_
  refine sw_if ?_
  refine tw_not ?_
  refine tw_val ?_
  refine ew_blt bt_isinstance B.isinstance ?_
  refine aw_cons ?_
  refine ew_name 1 rfl ?_
  refine aw_cons ?_
  refine ew_gadr (by rfl) gP ?_
  refine aw_nil ?_
  refine c_isi (.ins C _ (KT.k T)) (.own C) (by unfold PySem.W.kitOne; rw [beq_self_eq_true, if_pos rfl]) ?_
  refine ⟨_, rfl, ?_⟩
  refine ifF rfl ?_
  refine sw_nil ?_
  refine sw_cons ?_
  refine sw_if ?_
  refine tw_cmp (nomark _) ?_
  refine ew_fld ?_
  refine ew_name 0 rfl ?_
  refine ⟨_, _, _, rfl, T.cls, T.no_target, fsP_target _ _ _, ?_⟩
  refine ew_fld ?_
  refine ew_name 1 rfl ?_
  refine ⟨_, _, _, rfl, T.cls, T.no_top, fsP_top _ _ _, ?_⟩
  refine o_neI ?_
  refine ⟨_, rfl, ?_⟩
  refine ifF (by simp) ?_
  refine sw_nil ?_
  refine sw_cons ?_
  refine sw_ret ?_
  refine ew_call C_passage_of hr (by decide) xk ?_
  refine aw_cons ?_
  refine ew_fld ?_
  refine ew_name 0 rfl ?_
  refine ⟨_, _, _, rfl, T.cls, T.no_top, fsP_top _ _ _, ?_⟩
  refine aw_cons ?_
  refine ew_fld ?_
  refine ew_name 1 rfl ?_
  refine ⟨_, _, _, rfl, T.cls, T.no_target, fsP_target _ _ _, ?_⟩
  refine aw_cons ?_
  refine ew_call C_composed hr (by decide) xk ?_
  refine aw_cons ?_
  refine ew_call C_rows_of hr (by decide) xk ?_
  refine aw_cons ?_
  refine ew_name 0 rfl ?_
  refine aw_nil ?_
  refine ⟨F, t, m, N, _, rfl, h1', by omega, fun rs cF hl _ => ?_⟩
  refine aw_cons ?_
  refine ew_call C_rows_of hr (by decide) xk ?_
  refine aw_cons ?_
  refine ew_name 1 rfl ?_
  refine aw_nil ?_
  refine ⟨G, m, g, M, _, rfl, h2', by omega, fun os cG hl2 _ => ?_⟩
  refine aw_nil ?_
  refine ⟨rs, os, F, G, t, m, rfl, cF, cG, h1'.2.2.2.1, by omega, fun qs cq hq => ?_⟩
  refine aw_nil ?_
  exact ⟨qs, _, t, g, N + M, rfl, cq, good_comp h1'.2.2.2.1 h2'.2.2.2.1, by omega, hN, fun d hd => krE_of hcl (q d hd)⟩
end Kf
namespace Kf
open PySem PySem.Spec L2 StX ClX Dn
open PyProof.Rows hiding St
variable {P : Program} {w : World} {K : PySem.W.Frag} {mg : Str → Option Value} {base : Heap}
structure Sc where
  nm : Str
  top : Int
  words : List Str
structure Lk where
  nm : Str
  src : Str
  tgt : Str
  t : Int
  g : Int
  F : Int → Int
def scF (s : Sc) : List (Str × D) := [("name", .str s.nm), ("top", .int s.top), ("words", .tup (s.words.map D.str))]
def scD (CS : Addr) (s : Sc) : D := .ins CS (scF s)
def lkF (C : Addr) (l : Lk) : List (Str × D) := [("name", .str l.nm), ("source", .str l.src), ("target", .str l.tgt), ("passage", psgD C l.t l.g (nf l.F l.t))]
def lkD (CL C : Addr) (l : Lk) : D := .ins CL (lkF C l)
def syF (CS CL C : Addr) (ss : List Sc) (ls : List Lk) : List (Str × D) := [("scales", .tup (ss.map (scD CS))), ("links", .tup (ls.map (lkD CL C)))]
def syD (CY CS CL C : Addr) (ss : List Sc) (ls : List Lk) : D := .ins CY (syF CS CL C ss ls)
theorem scF_name (s : Sc) : (scF s).lookup ("name" : Str) = some (D.str s.nm) := by simp [scF, List.lookup]
theorem scF_top (s : Sc) : (scF s).lookup ("top" : Str) = some (D.int s.top) := by
  have e : (("top" : Str) == ("name" : Str)) = false := by decide +kernel
  simp [scF, List.lookup, e]
theorem scF_words (s : Sc) : (scF s).lookup ("words" : Str) = some (D.tup (s.words.map D.str)) := by
  have e : (("words" : Str) == ("name" : Str)) = false := by decide +kernel
  have e2 : (("words" : Str) == ("top" : Str)) = false := by decide +kernel
  simp [scF, List.lookup, e, e2]
theorem lkF_name (C : Addr) (s : Lk) : (lkF C s).lookup ("name" : Str) = some (D.str s.nm) := by simp [lkF, List.lookup]
theorem lkF_source (C : Addr) (s : Lk) : (lkF C s).lookup ("source" : Str) = some (D.str s.src) := by
  have e : (("source" : Str) == ("name" : Str)) = false := by decide +kernel
  simp [lkF, List.lookup, e]
theorem lkF_target (C : Addr) (s : Lk) : (lkF C s).lookup ("target" : Str) = some (D.str s.tgt) := by
  have e : (("target" : Str) == ("name" : Str)) = false := by decide +kernel
  have e2 : (("target" : Str) == ("source" : Str)) = false := by decide +kernel
  simp [lkF, List.lookup, e, e2]
theorem lkF_passage (C : Addr) (s : Lk) : (lkF C s).lookup ("passage" : Str) = some (psgD C s.t s.g (nf s.F s.t)) := by
  have e : (("passage" : Str) == ("name" : Str)) = false := by decide +kernel
  have e2 : (("passage" : Str) == ("source" : Str)) = false := by decide +kernel
  have e3 : (("passage" : Str) == ("target" : Str)) = false := by decide +kernel
  simp [lkF, List.lookup, e, e2, e3]
theorem syF_scales (CS CL C : Addr) (ss : List Sc) (ls : List Lk) : (syF CS CL C ss ls).lookup ("scales" : Str) = some (D.tup (ss.map (scD CS))) := by simp [syF, List.lookup]
theorem syF_links (CS CL C : Addr) (ss : List Sc) (ls : List Lk) : (syF CS CL C ss ls).lookup ("links" : Str) = some (D.tup (ls.map (lkD CL C))) := by
  have e : (("links" : Str) == ("scales" : Str)) = false := by decide +kernel
  simp [syF, List.lookup, e]
structure CTxt (K : PySem.W.Frag) (C : Addr) (fs : List Str) : Prop where
  cls : Cls K C
  no : ∀ f ∈ fs, NoAttr K C f
  kt : KTxt K C
theorem CTxt.k {K : PySem.W.Frag} {C : Addr} {fs : List Str} (T : CTxt K C fs) : KCls K C := fun H a dx gs e => .base (.ins e T.cls T.kt.cl T.kt.gs T.kt.tt T.kt.mo)
abbrev scN : List Str := ["name", "top", "words"]
abbrev lkN : List Str := ["name", "source", "target", "passage"]
abbrev syN : List Str := ["scales", "links"]
def isNm (x : Str) : Bool := Txt.isascii x && (Txt.isalpha x && Txt.islower x)
def IsNm (x : Str) : Prop := x.length ≤ 4 ∧ isNm x = true
def F_isname : FT := fun args st Ret _ => ∃ x : Str, args = [.dat (.str x)] ∧ IsNm x ∧ Ret (.dat (.bl true)) st
theorem ok_isname {f : Addr} {fd : FuncData} (B : Bl mg) (hml : ∃ t, mg "MOST_LETTERS" = some (.int 4 t)) (Fn : Fun K "is_name" "is_name" s_is_name f fd) (b : Binds K fd p_is_name []) : FnG P w K mg base (L2.CX P w) 1 f (spD K F_isname) := by
  refine fnD Fn sc_is_name b (fun args st0 Ret Exc h => ?_) ?_
  · obtain ⟨x, rfl, _⟩ := h
    rfl
  intro cdv A outer s H E H0 Al args st0 Ret Exc hr xk hp hal hcl hF
  obtain ⟨x, rfl, ⟨hl, hn⟩, q⟩ := hF
  unfold isNm at hn
  simp only [Bool.and_eq_true] at hn
  refine sw_cons ?_
  refine sw_if ?_
  refine tw_mid false ?_ ?_
  · refine tw_bool ?_
    refine bw_or ?_
    refine tw_not ?_
    refine tw_val ?_
    refine ew_blt bt_isinstance B.isinstance ?_
    refine aw_cons ?_
    refine ew_name 0 rfl ?_
    refine aw_cons ?_
    refine ew_gty bt_str B.str ?_
    refine aw_nil ?_
    refine c_is1 (t := "str") rfl (by decide) ?_
    refine ⟨_, rfl, ?_⟩
    refine ifF rfl ?_
    refine bw_or1 ?_
    refine tw_cmp (nomark _) ?_
    refine ew_blt bt_len B.len ?_
    refine aw_cons ?_
    refine ew_name 0 rfl ?_
    refine aw_nil ?_
    refine c_len (n := x.length) (by show (if x.length ≤ sizeLine then some x.length else none) = _; rw [if_pos (szl' (by omega))]) ?_
    refine ew_gint (by rfl) hml ?_
    refine o_gt ?_
    exact ⟨_, rfl, decide_eq_false (by omega), rfl⟩
  refine ifF rfl ?_
  refine sw_nil ?_
  refine sw_cons ?_
  refine sw_ret ?_
  refine ew_and ?_
  refine ew_isascii ?_
  refine ew_name 0 rfl ?_
  refine ⟨_, rfl, ?_⟩
  refine ⟨_, rfl, ?_⟩
  refine ifT hn.1 ?_
  refine ew_and ?_
  refine ew_isalpha ?_
  refine ew_name 0 rfl ?_
  refine ⟨_, rfl, ?_⟩
  refine ⟨_, rfl, ?_⟩
  refine ifT hn.2.1 ?_
  refine ew_one ?_
  refine ew_islower ?_
  refine ew_name 0 rfl ?_
  refine ⟨_, rfl, ?_⟩
  rw [hn.2.2]
  exact krE_of hcl q
def F_arewords0 : FT := fun args st Ret _ => ∃ t : Int, args = [.dat (.tup []), .dat (.int t)] ∧ Ret (.dat (.bl true)) st
theorem ok_arewords0 {f : Addr} {fd : FuncData} (B : Bl mg) (hset : mg "set" = none) (C_isseq : Cal P w K mg base 1 "is_sequence" F_is_sequence) (Fn : Fun K "are_words" "are_words" s_are_words f fd) (b : Binds K fd p_are_words []) : FnG P w K mg base (L2.CX P w) 2 f (spD K F_arewords0) := by
  refine fnD Fn sc_are_words b (fun args st0 Ret Exc h => ?_) ?_
  · obtain ⟨t, rfl, _⟩ := h
    rfl
  intro cdv A outer s H E H0 Al args st0 Ret Exc hr xk hp hal hcl hF
  obtain ⟨t, rfl, q⟩ := hF
  refine sw_cons ?_
  refine sw_if ?_
  refine tw_mid false ?_ ?_
  · refine tw_bool ?_
    refine bw_or ?_
    refine tw_not ?_
    refine tw_val ?_
    refine ew_call C_isseq hr (by decide) xk ?_
    refine aw_cons ?_
    refine ew_name 0 rfl ?_
    refine aw_nil ?_
    refine ⟨_, _, rfl, rfl, ?_⟩
    refine ⟨_, rfl, ?_⟩
    refine ifF rfl ?_
    refine bw_or1 ?_
    refine tw_cmp (by rfl) ?_
    refine ew_blt bt_len B.len ?_
    refine aw_cons ?_
    refine ew_name 0 rfl ?_
    refine aw_nil ?_
    refine c_len rfl ?_
    refine ew_tup ?_
    refine aw_cons ?_
    refine ew_int ?_
    refine aw_cons ?_
    refine ew_bin ?_
    refine ew_name 1 rfl ?_
    refine ew_int ?_
    refine o_add ?_
    refine aw_nil ?_
    refine ⟨_, rfl, (by show 2 ≤ sizeLine; decide), ?_⟩
    refine o_notin (x := .int 0) (ds := [.int 0, .int (t + 1)]) (xs := [.int 0, .int (t + 1)]) rfl (.inr (.inl rfl)) rfl ?_
    exact ⟨_, rfl, by rw [show [V.int 0, V.int (t + 1)] = ([0, t + 1] : List Int).map V.int from rfl, inV_int]; simp, rfl⟩
  refine ifF rfl ?_
  refine sw_nil ?_
  refine sw_cons ?_
  refine sw_ret ?_
  refine ew_and ?_
  refine ew_blt bt_all B.all ?_
  refine aw_cons ?_
  refine ew_lc (own := [("word", 2)]) (tb := false) (is := [2]) rfl sc_are_words.nd (blkOk_by (N := n_are_words) (sc := defScope s_are_words) (by decide +kernel)) (fun _ _ _ _ _ => pg_name (i := 2) sc_are_words.nd rfl (Or.inl rfl)) (by decide) ?_
  refine lcj_map ([] : List Int) D.int D.int (szl (by simp)) ?_ ?_ ?_
  · refine iw_tup ?_
    exact ew_name 0 rfl ⟨_, rfl, rfl, rfl⟩
  · intro x hx
    simp at hx
  refine aw_nil ?_
  refine c_all (bs := []) rfl ?_
  refine ⟨_, rfl, ?_⟩
  refine ifT rfl ?_
  refine ew_one ?_
  refine ew_cmp (nomark _) ?_
  refine ew_lenSet1 rfl B.len hset ?_
  refine ew_name 0 rfl ?_
  refine ⟨[], rfl, by simp, ?_⟩
  refine ew_blt bt_len B.len ?_
  refine aw_cons ?_
  refine ew_name 0 rfl ?_
  refine aw_nil ?_
  refine c_len rfl ?_
  refine o_eqI ?_
  exact krE_of hcl q
theorem setF3s (t g d : D) : setF "words" (.dat d) (setF "top" (.dat g) (setF "name" (.dat t) [])) = ([("name", W.dat t), ("top", W.dat g), ("words", W.dat d)] : List (Str × W)) := by
  have e1 : ¬ (("name" : Str) = "top") := by decide +kernel
  have e2 : ¬ (("name" : Str) = "words") := by decide +kernel
  have e3 : ¬ (("top" : Str) = "words") := by decide +kernel
  simp [setF, e1, e2, e3]
theorem setF4l (a b c d : D) : setF "passage" (.dat d) (setF "target" (.dat c) (setF "source" (.dat b) (setF "name" (.dat a) []))) = ([("name", W.dat a), ("source", W.dat b), ("target", W.dat c), ("passage", W.dat d)] : List (Str × W)) := by
  have e1 : ¬ (("name" : Str) = "source") := by decide +kernel
  have e2 : ¬ (("name" : Str) = "target") := by decide +kernel
  have e3 : ¬ (("name" : Str) = "passage") := by decide +kernel
  have e4 : ¬ (("source" : Str) = "target") := by decide +kernel
  have e5 : ¬ (("source" : Str) = "passage") := by decide +kernel
  have e6 : ¬ (("target" : Str) = "passage") := by decide +kernel
  simp [setF, e1, e2, e3, e4, e5, e6]
theorem setF2y (a b : D) : setF "links" (.dat b) (setF "scales" (.dat a) []) = ([("scales", W.dat a), ("links", W.dat b)] : List (Str × W)) := by
  have e1 : ¬ (("scales" : Str) = "links") := by decide +kernel
  simp [setF, e1]
def F_scinit0 (CS : Addr) : FT := fun args st Ret _ => ∃ (j : Nat) (x : Str) (t : Int), args = [.ptr j, .dat (.str x), .dat (.int t), .dat (.tup [])] ∧ st[j]? = some (.ins CS []) ∧ IsNm x ∧ 0 ≤ t ∧ Ret (.dat .non) (st.set j (.ins CS ((scF ⟨x, t, []⟩).map fun q => (q.1, W.dat q.2))))
theorem ok_scinit0 {f CS : Addr} {fd : FuncData} {dvs : List V} {kws : List (Str × V)} (B : Bl mg) (T : CTxt K CS scN) (C_isname : Cal P w K mg base 1 "is_name" F_isname) (C_isnum : Cal P w K mg base 1 "is_number" F_is_number) (C_arew : Cal P w K mg base 2 "are_words" F_arewords0)
    (Fn : FunD K "__init__" "Scale.__init__" (defArgs s_scinit) (defBody s_scinit) (defScope s_scinit) dvs kws f fd) : FnGo P w K mg base (L2.CX P w) 3 f fd p_scinit (spD K (F_scinit0 CS)) := by
  refine fnDokD Fn sc_scinit (fun args st0 Ret Exc h => ?_) ?_
  · obtain ⟨j, x, t, rfl, _⟩ := h
    rfl
  intro cdv A outer s H E H0 Al args st0 Ret Exc hr xk hp hal hcl hF
  obtain ⟨j, x, t, rfl, hj, hx, ht, q⟩ := hF
  have hjl := (List.getElem?_eq_some_iff.mp hj).1
  refine sw_cons ?_
  refine sw_if ?_
  refine tw_not ?_
  refine tw_val ?_
  refine ew_call C_isname hr (by decide) xk ?_
  refine aw_cons ?_
  refine ew_name 1 rfl ?_
  refine aw_nil ?_
  refine ⟨x, rfl, hx, ?_⟩
  refine ⟨_, rfl, ?_⟩
  refine ifF rfl ?_
  refine sw_nil ?_
  refine sw_cons ?_
  refine sw_if ?_
  refine tw_not ?_
  refine tw_val ?_
  refine ew_call C_isnum hr (by decide) xk ?_
  refine aw_cons ?_
  refine ew_name 2 rfl ?_
  refine aw_nil ?_
  refine ⟨_, _, rfl, rfl, ?_⟩
  refine ⟨_, rfl, ?_⟩
  refine ifF (by show (!decide (0 ≤ t)) = false; rw [decide_eq_true ht]; rfl) ?_
  refine sw_nil ?_
  refine sw_cons ?_
  refine sw_if ?_
  refine tw_not ?_
  refine tw_val ?_
  refine ew_call C_arew hr (by decide) xk ?_
  refine aw_cons ?_
  refine ew_name 3 rfl ?_
  refine aw_cons ?_
  refine ew_name 2 rfl ?_
  refine aw_nil ?_
  refine ⟨t, rfl, ?_⟩
  refine ⟨_, rfl, ?_⟩
  refine ifF rfl ?_
  refine sw_nil ?_
  refine sw_cons ?_
  refine sw_fld ?_
  refine ew_name 1 rfl ?_
  refine ew_name 0 rfl ?_
  refine ⟨_, _, _, rfl, hj, T.cls, T.no _ (by simp), by decide, ?_⟩
  refine sw_cons ?_
  refine sw_fld ?_
  refine ew_name 2 rfl ?_
  refine ew_name 0 rfl ?_
  refine ⟨_, _, _, rfl, List.getElem?_set_self hjl, T.cls, T.no _ (by simp), by exact Nat.lt_of_le_of_lt (setF_len _ _ _) (by decide), ?_⟩
  rw [List.set_set]
  refine sw_cons ?_
  refine sw_fld ?_
  refine ew_bty bt_tuple B.tuple ?_
  refine aw_cons ?_
  refine ew_name 3 rfl ?_
  refine aw_nil ?_
  refine c_tupleT ?_
  refine ew_name 0 rfl ?_
  refine ⟨_, _, _, rfl, List.getElem?_set_self hjl, T.cls, T.no _ (by simp), by exact Nat.lt_of_le_of_lt (setF_len _ _ _) (Nat.lt_of_le_of_lt (Nat.succ_le_succ (setF_len _ _ _)) (by decide)), ?_⟩
  rw [List.set_set, setF3s]
  refine sw_nil ?_
  exact krE_set (by simp) (clos_set hcl (fun p hp => by
    simp only [List.mem_cons, List.not_mem_nil, or_false] at hp
    rcases hp with rfl | rfl | rfl <;> trivial)) q
end Kf
namespace Kf
open PySem PySem.Spec L2 StX ClX Dn
open PyProof.Rows hiding St
variable {P : Program} {w : World} {K : PySem.W.Frag} {mg : Str → Option Value} {base : Heap}
def SqD (d : D) (xs : List D) : Prop := d = .lst xs ∨ d = .tup xs
def F_joins (CL C : Addr) : FT := fun args st Ret _ => ∃ (l : Lk) (j : Nat) (kvs : List (Key × D)), args = [.dat (lkD CL C l), .ptr j] ∧ st[j]? = some (.dct (kvs.map fun p => (p.1, W.dat p.2))) ∧ valA kvs (.inr l.src) = some (.int l.t) ∧ valA kvs (.inr l.tgt) = some (.int l.g) ∧ Ret (.dat (.bl true)) st
theorem ok_joins {f CL C : Addr} {fd : FuncData} (TP : PTxt K C) (TL : CTxt K CL lkN) (Fn : Fun K "joins" "joins" s_joins f fd) (b : Binds K fd p_joins []) : FnG P w K mg base (L2.CX P w) 1 f (spD K (F_joins CL C)) := by
  refine fnD Fn sc_joins b (fun args st0 Ret Exc h => ?_) ?_
  · obtain ⟨l, j, kvs, rfl, _⟩ := h
    rfl
  intro cdv A outer s H E H0 Al args st0 Ret Exc hr xk hp hal hcl hF
  obtain ⟨l, j, kvs, rfl, hj, h1, h2, q⟩ := hF
  have look : ∀ {x : Str} {i : Int}, valA kvs (.inr x) = some (.int i) → DLook st0 (.ptr j) (.dat (.str x)) (some (.dat (.int i))) := fun {x i} e => by
    have z := DLook.k hj (k := .dat (.str x)) rfl
    rw [valA_map, e] at z
    exact z
  refine sw_cons ?_
  refine sw_if ?_
  refine tw_mid false ?_ ?_
  · refine tw_bool ?_
    refine bw_or ?_
    refine tw_cmp (by rfl) ?_
    refine ew_fld ?_
    refine ew_name 0 rfl ?_
    refine ⟨_, _, _, rfl, TL.cls, TL.no _ (by simp), lkF_source _ _, ?_⟩
    refine ew_name 1 rfl ?_
    refine o_notinDk hr (look h1) ?_
    refine ⟨_, rfl, ?_⟩
    refine ifF rfl ?_
    refine bw_or1 ?_
    refine tw_cmp (by rfl) ?_
    refine ew_fld ?_
    refine ew_name 0 rfl ?_
    refine ⟨_, _, _, rfl, TL.cls, TL.no _ (by simp), lkF_target _ _, ?_⟩
    refine ew_name 1 rfl ?_
    refine o_notinDk hr (look h2) ?_
    exact ⟨_, rfl, rfl, rfl⟩
  refine ifF rfl ?_
  refine sw_nil ?_
  refine sw_cons ?_
  refine sw_ret ?_
  refine ew_and ?_
  refine ew_cmp (nomark _) ?_
  refine ew_fld ?_
  refine ew_fld ?_
  refine ew_name 0 rfl ?_
  refine ⟨_, _, _, rfl, TL.cls, TL.no _ (by simp), lkF_passage _ _, ?_⟩
  refine ⟨_, _, _, rfl, TP.cls, TP.no_top, fsP_top _ _ _, ?_⟩
  refine ew_dget hr ?_
  refine ew_name 1 rfl ?_
  refine ew_fld ?_
  refine ew_name 0 rfl ?_
  refine ⟨_, _, _, rfl, TL.cls, TL.no _ (by simp), lkF_source _ _, ?_⟩
  refine ⟨_, look h1, ?_⟩
  refine o_eqI ?_
  refine ⟨_, rfl, ?_⟩
  refine ifT (decide_eq_true rfl) ?_
  refine ew_one ?_
  refine ew_cmp (nomark _) ?_
  refine ew_fld ?_
  refine ew_fld ?_
  refine ew_name 0 rfl ?_
  refine ⟨_, _, _, rfl, TL.cls, TL.no _ (by simp), lkF_passage _ _, ?_⟩
  refine ⟨_, _, _, rfl, TP.cls, TP.no_target, fsP_target _ _ _, ?_⟩
  refine ew_dget hr ?_
  refine ew_name 1 rfl ?_
  refine ew_fld ?_
  refine ew_name 0 rfl ?_
  refine ⟨_, _, _, rfl, TL.cls, TL.no _ (by simp), lkF_target _ _, ?_⟩
  refine ⟨_, look h2, ?_⟩
  refine o_eqI ?_
  rw [decide_eq_true rfl]
  exact krE_of hcl q
theorem map_true {α : Type} (xs : List α) : (xs.map fun _ => D.bl true) = (xs.map fun _ => true).map D.bl := by rw [List.map_map]; rfl
theorem all_true {α : Type} (xs : List α) : (xs.map fun _ => true).all id = true := by
  rw [List.all_eq_true]
  intro b hb
  obtain ⟨_, _, rfl⟩ := List.mem_map.mp hb
  rfl
def F_arescales (CS : Addr) : FT := fun args st Ret _ => ∃ (d : D) (ss : List Sc), args = [.dat d] ∧ SqD d (ss.map (scD CS)) ∧ ss ≠ [] ∧ ss.length ≤ 1000 ∧ (ss.map (·.nm)).Nodup ∧ Ret (.dat (.bl true)) st
theorem nodup_keys {α : Type} {xs : List α} {f : α → Str} (h : (xs.map f).Nodup) : (xs.map fun x => (Sum.inr (f x) : Key)).Nodup := by
  rw [show (xs.map fun x => (Sum.inr (f x) : Key)) = (xs.map f).map Sum.inr by rw [List.map_map]; rfl]
  exact List.Pairwise.map _ (fun a b hab z => hab (Sum.inr.inj z)) h
theorem ok_arescales {f CS : Addr} {fd : FuncData} (B : Bl mg) (gS : mg "Scale" = some (.ref CS)) (TS : CTxt K CS scN) (C_isseq : Cal P w K mg base 1 "is_sequence" F_is_sequence) (Fn : Fun K "are_scales" "are_scales" s_are_scales f fd) (b : Binds K fd p_are_scales []) : FnG P w K mg base (L2.CX P w) 2 f (spD K (F_arescales CS)) := by
  refine fnD Fn sc_are_scales b (fun args st0 Ret Exc h => ?_) ?_
  · obtain ⟨d, ss, rfl, _⟩ := h
    rfl
  intro cdv A outer s H E H0 Al args st0 Ret Exc hr xk hp hal hcl hF
  obtain ⟨d, ss, rfl, hd, hne, hlen, hnd, q⟩ := hF
  have hty : ∃ t, tyOf d = some t ∧ isSeq d = true := by rcases hd with rfl | rfl <;> exact ⟨_, rfl, rfl⟩
  obtain ⟨ty, hty, hsq⟩ := hty
  have hL : ∀ st, Len st (.dat d) = some ss.length := fun st => by rcases hd with rfl | rfl <;> (show some (ss.map (scD CS)).length = _; rw [List.length_map])
  refine sw_cons ?_
  refine sw_if ?_
  refine tw_mid false ?_ ?_
  · refine tw_bool ?_
    refine bw_or ?_
    refine tw_not ?_
    refine tw_val ?_
    refine ew_call C_isseq hr (by decide) xk ?_
    refine aw_cons ?_
    refine ew_name 0 rfl ?_
    refine aw_nil ?_
    refine ⟨_, _, rfl, hty, ?_⟩
    rw [hsq]
    refine ⟨_, rfl, ?_⟩
    refine ifF rfl ?_
    refine bw_or1 ?_
    refine tw_cmp (nomark _) ?_
    refine ew_blt bt_len B.len ?_
    refine aw_cons ?_
    refine ew_name 0 rfl ?_
    refine aw_nil ?_
    refine c_len (hL _) ?_
    refine ew_int ?_
    refine o_eqI ?_
    have : ss.length ≠ 0 := fun z => hne (List.length_eq_zero_iff.mp z)
    exact ⟨_, rfl, decide_eq_false (by omega), rfl⟩
  refine ifF rfl ?_
  refine sw_nil ?_
  refine sw_cons ?_
  refine sw_if ?_
  refine tw_mid false ?_ ?_
  · refine tw_not ?_
    refine tw_val ?_
    refine ew_blt bt_all B.all ?_
    refine aw_cons ?_
    refine ew_lc (own := [("scale", 1)]) (tb := false) (is := [1]) rfl sc_are_scales.nd (blkOk_by (N := n_are_scales) (sc := defScope s_are_scales) (by decide +kernel)) (fun _ _ _ _ _ => pg_name (i := 1) sc_are_scales.nd rfl (Or.inl rfl)) (by decide) ?_
    refine lcj_map ss (scD CS) (fun _ => .bl true) (szl (by omega)) ?_ ?_ ?_
    · exact iw_sqn 0 hd rfl ⟨rfl, rfl⟩
    · intro x hx
      refine ⟨_, rfl, fun G1 sb Hb Cb cl fp => ?_⟩
      refine ew_blt bt_isinstance B.isinstance ?_
      refine aw_cons ?_
      refine ew_name 1 rfl ?_
      refine aw_cons ?_
      refine ew_gadr (by rfl) gS ?_
      refine aw_nil ?_
      refine c_isi (.ins CS _ TS.k) (.own CS) (by unfold PySem.W.kitOne; rw [beq_self_eq_true, if_pos rfl]) ?_
      exact ⟨rfl, rfl⟩
    refine aw_nil ?_
    rw [map_true]
    refine c_all rfl ?_
    rw [all_true]
    exact ⟨_, rfl, rfl, rfl⟩
  refine ifF rfl ?_
  refine sw_nil ?_
  refine sw_cons ?_
  refine sw_ret ?_
  refine ew_cmp (nomark _) ?_
  refine ew_lenScM (own := [("scale", 1)]) (tb := false) (is := [1]) ss (scD CS) (fun s => .inr s.nm) B.len rfl sc_are_scales.nd (blkOk_by (N := n_are_scales) (sc := defScope s_are_scales) (by decide +kernel)) (fun _ _ _ _ _ => pg_name (i := 1) sc_are_scales.nd rfl (Or.inl rfl)) (by decide) (Nat.lt_of_le_of_lt (Nat.succ_le_succ hlen) (by decide)) ?_ ?_ ?_
  · exact iw_sqn 0 hd rfl ⟨rfl, rfl⟩
  · intro x hx
    refine ⟨_, rfl, fun G1 sb Hb Cb cl fp => ?_⟩
    refine ew_fld ?_
    refine ew_name 1 rfl ?_
    exact ⟨_, _, _, rfl, TS.cls, TS.no _ (by simp), scF_name _, rfl, rfl⟩
  rw [(dist_eq _).mpr (nodup_keys hnd), List.length_map]
  refine ew_blt bt_len B.len ?_
  refine aw_cons ?_
  refine ew_name 0 rfl ?_
  refine aw_nil ?_
  refine c_len (hL _) ?_
  refine o_eqI ?_
  rw [decide_eq_true rfl]
  exact krE_of hcl q
end Kf
namespace Kf
open PySem PySem.Spec L2 StX ClX Dn
open PyProof.Rows hiding St
variable {P : Program} {w : World} {K : PySem.W.Frag} {mg : Str → Option Value} {base : Heap}
def ScOf (ss : List Sc) (x : Str) (t : Int) : Prop := ∃ s ∈ ss, s.nm = x ∧ s.top = t
def LksOk (ss : List Sc) (ls : List Lk) : Prop := (ls.map (·.nm)).Nodup ∧ ls.length ≤ 1000 ∧ ∀ l ∈ ls, ScOf ss l.src l.t ∧ ScOf ss l.tgt l.g
def ScsOk (ss : List Sc) : Prop := ss ≠ [] ∧ ss.length ≤ 1000 ∧ (ss.map (·.nm)).Nodup
theorem scs_val {ss : List Sc} {x : Str} {t : Int} (hn : (ss.map (·.nm)).Nodup) (h : ScOf ss x t) : valA (ss.map fun s => ((Sum.inr s.nm : Key), D.int s.top)) (.inr x) = some (.int t) := by
  obtain ⟨s, hs, rfl, rfl⟩ := h
  refine valA_of_mem ?_ (List.mem_map.mpr ⟨s, hs, rfl⟩)
  rw [List.map_map]
  exact nodup_keys (f := fun s : Sc => s.nm) hn
def F_arelinks (CS CL C : Addr) : FT := fun args st Ret _ => ∃ (d e : D) (ss : List Sc) (ls : List Lk), args = [.dat d, .dat e] ∧ SqD d (ls.map (lkD CL C)) ∧ SqD e (ss.map (scD CS)) ∧ ScsOk ss ∧ LksOk ss ls ∧ Ret (.dat (.bl true)) st
theorem ok_arelinks {f CS CL C : Addr} {fd : FuncData} (B : Bl mg) (gL : mg "Link" = some (.ref CL)) (TS : CTxt K CS scN) (TL : CTxt K CL lkN) (C_isseq : Cal P w K mg base 1 "is_sequence" F_is_sequence) (C_joins : Cal P w K mg base 1 "joins" (F_joins CL C)) (Fn : Fun K "are_links" "are_links" s_are_links f fd) (b : Binds K fd p_are_links []) : FnG P w K mg base (L2.CX P w) 2 f (spD K (F_arelinks CS CL C)) := by
  refine fnD Fn sc_are_links b (fun args st0 Ret Exc h => ?_) ?_
  · obtain ⟨d, e, ss, ls, rfl, _⟩ := h
    rfl
  intro cdv A outer s H E H0 Al args st0 Ret Exc hr xk hp hal hcl hF
  obtain ⟨d, e, ss, ls, rfl, hd, he, ⟨sne, slen, snd⟩, ⟨lnd, llen, lok⟩, q⟩ := hF
  have hty : ∃ t, tyOf d = some t ∧ isSeq d = true := by rcases hd with rfl | rfl <;> exact ⟨_, rfl, rfl⟩
  obtain ⟨ty, hty, hsq⟩ := hty
  have hL : ∀ st, Len st (.dat d) = some ls.length := fun st => by rcases hd with rfl | rfl <;> (show some (ls.map (lkD CL C)).length = _; rw [List.length_map])
  refine sw_cons ?_
  refine sw_if ?_
  refine tw_mid false ?_ ?_
  · refine tw_bool ?_
    refine bw_or ?_
    refine tw_not ?_
    refine tw_val ?_
    refine ew_call C_isseq hr (by decide) xk ?_
    refine aw_cons ?_
    refine ew_name 0 rfl ?_
    refine aw_nil ?_
    refine ⟨_, _, rfl, hty, ?_⟩
    rw [hsq]
    refine ⟨_, rfl, ?_⟩
    refine ifF rfl ?_
    refine bw_or1 ?_
    refine tw_not ?_
    refine tw_val ?_
    refine ew_blt bt_all B.all ?_
    refine aw_cons ?_
    refine ew_lc (own := [("link", 4)]) (tb := false) (is := [4]) rfl sc_are_links.nd (blkOk_by (N := n_are_links) (sc := defScope s_are_links) (by decide +kernel)) (fun _ _ _ _ _ => pg_name (i := 4) sc_are_links.nd rfl (Or.inl rfl)) (by decide) ?_
    refine lcj_map ls (lkD CL C) (fun _ => .bl true) (szl (by omega)) ?_ ?_ ?_
    · exact iw_sqn 0 hd rfl ⟨rfl, rfl⟩
    · intro x hx
      refine ⟨_, rfl, fun G1 sb Hb Cb cl fp => ?_⟩
      refine ew_blt bt_isinstance B.isinstance ?_
      refine aw_cons ?_
      refine ew_name 4 rfl ?_
      refine aw_cons ?_
      refine ew_gadr (by rfl) gL ?_
      refine aw_nil ?_
      refine c_isi (.ins CL _ TL.k) (.own CL) (by unfold PySem.W.kitOne; rw [beq_self_eq_true, if_pos rfl]) ?_
      exact ⟨rfl, rfl⟩
    refine aw_nil ?_
    rw [map_true]
    refine c_all rfl ?_
    rw [all_true]
    exact ⟨_, rfl, rfl, rfl⟩
  refine ifF rfl ?_
  refine sw_nil ?_
  refine sw_cons ?_
  refine sw_set 2 ?_ sc_are_links.nd
  refine ew_dcKM (own := [("scale", 3)]) (tb := false) (is := [3]) ss (scD CS) (fun s => .inr s.nm) (fun s => .int s.top) rfl sc_are_links.nd (blkOk_by (N := n_are_links) (sc := defScope s_are_links) (by decide +kernel)) (fun _ _ _ _ _ => pg_name (i := 3) sc_are_links.nd rfl (Or.inl rfl)) (by decide) (szl (by omega)) (nodup_keys snd) ?_ ?_ ?_
  · exact iw_sqn 1 he rfl ⟨rfl, rfl⟩
  · intro x hx
    refine ⟨_, rfl, fun G1 sb Hb Cb cl fp => ?_⟩
    refine ew_fld ?_
    refine ew_name 3 rfl ?_
    refine ⟨_, _, _, rfl, TS.cls, TS.no _ (by simp), scF_name _, rfl, rfl, fun G1 sb Hb Cb cl fp => ?_⟩
    refine ew_fld ?_
    refine ew_name 3 rfl ?_
    exact ⟨_, _, _, rfl, TS.cls, TS.no _ (by simp), scF_top _, rfl, rfl⟩
  show SW _ _ _ [some (.dat d), some (.dat e), some (.ptr st0.length), none, none] _ _
  refine sw_cons ?_
  refine sw_if ?_
  refine tw_mid false ?_ ?_
  · refine tw_not ?_
    refine tw_val ?_
    refine ew_blt bt_all B.all ?_
    refine aw_cons ?_
    refine ew_lc (own := [("link", 4)]) (tb := false) (is := [4]) rfl sc_are_links.nd (blkOk_by (N := n_are_links) (sc := defScope s_are_links) (by decide +kernel)) (fun _ _ _ _ _ => pg_name (i := 4) sc_are_links.nd rfl (Or.inl rfl)) (by decide) ?_
    refine lcj_map ls (lkD CL C) (fun _ => .bl true) (szl (by omega)) ?_ ?_ ?_
    · exact iw_sqn 0 hd rfl ⟨rfl, rfl⟩
    · intro x hx
      obtain ⟨h1, h2⟩ := lok x hx
      refine ⟨_, rfl, fun G1 sb Hb Cb cl fp => ?_⟩
      refine ew_call C_joins hr (by decide) xok_false ?_
      refine aw_cons ?_
      refine ew_name 4 rfl ?_
      refine aw_cons ?_
      refine ew_name 2 rfl ?_
      refine aw_nil ?_
      refine ⟨x, st0.length, ss.map fun s => ((Sum.inr s.nm : Key), D.int s.top), rfl, at_end, scs_val snd h1, scs_val snd h2, ?_⟩
      exact ⟨rfl, rfl⟩
    refine aw_nil ?_
    rw [map_true]
    refine c_all rfl ?_
    rw [all_true]
    exact ⟨_, rfl, rfl, rfl⟩
  refine ifF rfl ?_
  refine sw_nil ?_
  refine sw_cons ?_
  refine sw_ret ?_
  refine ew_cmp (nomark _) ?_
  refine ew_lenScM (own := [("link", 4)]) (tb := false) (is := [4]) ls (lkD CL C) (fun l => .inr l.nm) B.len rfl sc_are_links.nd (blkOk_by (N := n_are_links) (sc := defScope s_are_links) (by decide +kernel)) (fun _ _ _ _ _ => pg_name (i := 4) sc_are_links.nd rfl (Or.inl rfl)) (by decide) (Nat.lt_of_le_of_lt (Nat.succ_le_succ llen) (by decide)) ?_ ?_ ?_
  · exact iw_sqn 0 hd rfl ⟨rfl, rfl⟩
  · intro x hx
    refine ⟨_, rfl, fun G1 sb Hb Cb cl fp => ?_⟩
    refine ew_fld ?_
    refine ew_name 4 rfl ?_
    exact ⟨_, _, _, rfl, TL.cls, TL.no _ (by simp), lkF_name _ _, rfl, rfl⟩
  rw [(dist_eq _).mpr (nodup_keys lnd), List.length_map]
  refine ew_blt bt_len B.len ?_
  refine aw_cons ?_
  refine ew_name 0 rfl ?_
  refine aw_nil ?_
  refine c_len (hL _) ?_
  refine o_eqI ?_
  rw [decide_eq_true rfl]
  exact krE_app hcl q
def F_lkinit0 (CL C : Addr) : FT := fun args st Ret _ => ∃ (j : Nat) (l : Lk), args = [.ptr j, .dat (.str l.nm), .dat (.str l.src), .dat (.str l.tgt), .dat (psgD C l.t l.g (nf l.F l.t))] ∧ st[j]? = some (.ins CL []) ∧ IsNm l.nm ∧ IsNm l.src ∧ IsNm l.tgt ∧ Ret (.dat .non) (st.set j (.ins CL ((lkF C l).map fun q => (q.1, W.dat q.2))))
theorem ok_lkinit0 {f CL C : Addr} {fd : FuncData} (B : Bl mg) (gP : mg "Passage" = some (.ref C)) (TP : PTxt K C) (KT : KTxt K C) (T : CTxt K CL lkN) (C_isname : Cal P w K mg base 1 "is_name" F_isname)
    (Fn : Fun K "__init__" "Link.__init__" s_lkinit f fd) (b : Binds K fd p_lkinit []) : FnG P w K mg base (L2.CX P w) 2 f (spD K (F_lkinit0 CL C)) := by
  refine fnD Fn sc_lkinit b (fun args st0 Ret Exc h => ?_) ?_
  · obtain ⟨j, l, rfl, _⟩ := h
    rfl
  intro cdv A outer s H E H0 Al args st0 Ret Exc hr xk hp hal hcl hF
  obtain ⟨j, l, rfl, hj, h1, h2, h3, q⟩ := hF
  have hjl := (List.getElem?_eq_some_iff.mp hj).1
  refine sw_cons ?_
  refine sw_if ?_
  refine tw_not ?_
  refine tw_val ?_
  refine ew_call C_isname hr (by decide) xk ?_
  refine aw_cons ?_
  refine ew_name 1 rfl ?_
  refine aw_nil ?_
  refine ⟨_, rfl, h1, ?_⟩
  refine ⟨_, rfl, ?_⟩
  refine ifF rfl ?_
  refine sw_nil ?_
  refine sw_cons ?_
  refine sw_if ?_
  refine tw_not ?_
  refine tw_val ?_
  refine ew_call C_isname hr (by decide) xk ?_
  refine aw_cons ?_
  refine ew_name 2 rfl ?_
  refine aw_nil ?_
  refine ⟨_, rfl, h2, ?_⟩
  refine ⟨_, rfl, ?_⟩
  refine ifF rfl ?_
  refine sw_nil ?_
  refine sw_cons ?_
  refine sw_if ?_
  refine tw_not ?_
  refine tw_val ?_
  refine ew_call C_isname hr (by decide) xk ?_
  refine aw_cons ?_
  refine ew_name 3 rfl ?_
  refine aw_nil ?_
  refine ⟨_, rfl, h3, ?_⟩
  refine ⟨_, rfl, ?_⟩
  refine ifF rfl ?_
  refine sw_nil ?_
  refine sw_cons ?_
  refine sw_if ?_
  refine tw_not ?_
  refine tw_val ?_
  refine ew_blt bt_isinstance B.isinstance ?_
  refine aw_cons ?_
  refine ew_name 4 rfl ?_
  refine aw_cons ?_
  refine ew_gadr (by rfl) gP ?_
  refine aw_nil ?_
  refine c_isi (.ins C _ (KT.k TP)) (.own C) (by unfold PySem.W.kitOne; rw [beq_self_eq_true, if_pos rfl]) ?_
  refine ⟨_, rfl, ?_⟩
  refine ifF rfl ?_
  refine sw_nil ?_
  refine sw_cons ?_
  refine sw_fld ?_
  refine ew_name 1 rfl ?_
  refine ew_name 0 rfl ?_
  refine ⟨_, _, _, rfl, hj, T.cls, T.no _ (by simp), by decide, ?_⟩
  refine sw_cons ?_
  refine sw_fld ?_
  refine ew_name 2 rfl ?_
  refine ew_name 0 rfl ?_
  refine ⟨_, _, _, rfl, List.getElem?_set_self hjl, T.cls, T.no _ (by simp), by exact Nat.lt_of_le_of_lt (setF_len _ _ _) (by decide), ?_⟩
  rw [List.set_set]
  refine sw_cons ?_
  refine sw_fld ?_
  refine ew_name 3 rfl ?_
  refine ew_name 0 rfl ?_
  refine ⟨_, _, _, rfl, List.getElem?_set_self hjl, T.cls, T.no _ (by simp), by exact Nat.lt_of_le_of_lt (setF_len _ _ _) (Nat.lt_of_le_of_lt (Nat.succ_le_succ (setF_len _ _ _)) (by decide)), ?_⟩
  rw [List.set_set]
  refine sw_cons ?_
  refine sw_fld ?_
  refine ew_name 4 rfl ?_
  refine ew_name 0 rfl ?_
  refine ⟨_, _, _, rfl, List.getElem?_set_self hjl, T.cls, T.no _ (by simp), by exact Nat.lt_of_le_of_lt (setF_len _ _ _) (Nat.lt_of_le_of_lt (Nat.succ_le_succ (Nat.le_trans (setF_len _ _ _) (Nat.succ_le_succ (setF_len _ _ _)))) (by decide)), ?_⟩
  rw [List.set_set, setF4l]
  refine sw_nil ?_
  exact krE_set (by simp) (clos_set hcl (fun p hp => by
    simp only [List.mem_cons, List.not_mem_nil, or_false] at hp
    rcases hp with rfl | rfl | rfl | rfl <;> trivial)) q
def F_syinit0 (CY CS CL C : Addr) : FT := fun args st Ret _ => ∃ (j : Nat) (d e : D) (ss : List Sc) (ls : List Lk), args = [.ptr j, .dat d, .dat e] ∧ st[j]? = some (.ins CY []) ∧ SqD d (ss.map (scD CS)) ∧ SqD e (ls.map (lkD CL C)) ∧ ScsOk ss ∧ LksOk ss ls ∧ Ret (.dat .non) (st.set j (.ins CY ((syF CS CL C ss ls).map fun q => (q.1, W.dat q.2))))
theorem ok_syinit0 {f CY CS CL C : Addr} {fd : FuncData} {dvs : List V} {kws : List (Str × V)} (B : Bl mg) (T : CTxt K CY syN) (C_ares : Cal P w K mg base 2 "are_scales" (F_arescales CS)) (C_arel : Cal P w K mg base 2 "are_links" (F_arelinks CS CL C))
    (Fn : FunD K "__init__" "System.__init__" (defArgs s_syinit) (defBody s_syinit) (defScope s_syinit) dvs kws f fd) : FnGo P w K mg base (L2.CX P w) 3 f fd p_syinit (spD K (F_syinit0 CY CS CL C)) := by
  refine fnDokD Fn sc_syinit (fun args st0 Ret Exc h => ?_) ?_
  · obtain ⟨j, d, e, ss, ls, rfl, _⟩ := h
    rfl
  intro cdv A outer s H E H0 Al args st0 Ret Exc hr xk hp hal hcl hF
  obtain ⟨j, d, e, ss, ls, rfl, hj, hd, he, hs, hl, q⟩ := hF
  have hjl := (List.getElem?_eq_some_iff.mp hj).1
  refine sw_cons ?_
  refine sw_if ?_
  refine tw_not ?_
  refine tw_val ?_
  refine ew_call C_ares hr (by decide) xk ?_
  refine aw_cons ?_
  refine ew_name 1 rfl ?_
  refine aw_nil ?_
  refine ⟨d, ss, rfl, hd, hs.1, hs.2.1, hs.2.2, ?_⟩
  refine ⟨_, rfl, ?_⟩
  refine ifF rfl ?_
  refine sw_nil ?_
  refine sw_cons ?_
  refine sw_if ?_
  refine tw_not ?_
  refine tw_val ?_
  refine ew_call C_arel hr (by decide) xk ?_
  refine aw_cons ?_
  refine ew_name 2 rfl ?_
  refine aw_cons ?_
  refine ew_name 1 rfl ?_
  refine aw_nil ?_
  refine ⟨e, d, ss, ls, rfl, he, hd, hs, hl, ?_⟩
  refine ⟨_, rfl, ?_⟩
  refine ifF rfl ?_
  refine sw_nil ?_
  refine sw_cons ?_
  refine sw_fld ?_
  refine ew_bty bt_tuple B.tuple ?_
  refine aw_cons ?_
  refine ew_name 1 rfl ?_
  refine aw_nil ?_
  refine c_tupleS hd ?_
  refine ew_name 0 rfl ?_
  refine ⟨_, _, _, rfl, hj, T.cls, T.no _ (by simp), by decide, ?_⟩
  refine sw_cons ?_
  refine sw_fld ?_
  refine ew_bty bt_tuple B.tuple ?_
  refine aw_cons ?_
  refine ew_name 2 rfl ?_
  refine aw_nil ?_
  refine c_tupleS he ?_
  refine ew_name 0 rfl ?_
  refine ⟨_, _, _, rfl, List.getElem?_set_self hjl, T.cls, T.no _ (by simp), by exact Nat.lt_of_le_of_lt (setF_len _ _ _) (by decide), ?_⟩
  rw [List.set_set, setF2y]
  refine sw_nil ?_
  exact krE_set (by simp) (clos_set hcl (fun p hp => by
    simp only [List.mem_cons, List.not_mem_nil, or_false] at hp
    rcases hp with rfl | rfl <;> trivial)) q
def HasNm (K : PySem.W.Frag) (nm : D → Str) (d : D) : Prop := ∃ C fs, d = .ins C fs ∧ Cls K C ∧ NoAttr K C "name" ∧ fs.lookup ("name" : Str) = some (.str (nm d))
def F_named (K : PySem.W.Frag) : FT := fun args st Ret _ => ∃ (ds : List D) (nm : D → Str) (x : Str), args = [.dat (.tup ds), .dat (.str x)] ∧ (∀ d ∈ ds, HasNm K nm d) ∧ Ret (.dat ((ds.find? fun d => decide (nm d = x)).getD .non)) st
theorem ok_named {f : Addr} {fd : FuncData} (Fn : Fun K "named" "named" s_named f fd) (b : Binds K fd p_named []) : FnG P w K mg base (L2.CX P w) 1 f (spD K (F_named K)) := by
  refine fnD Fn sc_named b (fun args st0 Ret Exc h => ?_) ?_
  · obtain ⟨ds, nm, x, rfl, _⟩ := h
    rfl
  intro cdv A outer s H E H0 Al args st0 Ret Exc hr xk hp hal hcl hF
  obtain ⟨ds, nm, x, rfl, hd, q⟩ := hF
  refine sw_cut (fun sl st => st = st0 ∧ ds.find? (fun d => decide (nm d = x)) = none) ?_ ?_
  · refine sw_for hp rfl ?_
    refine iw_tup ?_
    refine ew_name 0 rfl ?_
    refine ⟨_, rfl, ?_⟩
    refine ⟨fun i sl st => (∃ x2, sl = [some (.dat (.tup ds)), some (.dat (.str x)), x2]) ∧ st = st0 ∧ ∀ d ∈ ds.take i, nm d ≠ x, ⟨⟨_, rfl⟩, rfl, fun d h => by simp at h⟩, fun i w sl st hw hI => ?_, fun sl st hI => ?_⟩
    · obtain ⟨⟨x2, rfl⟩, rfl, hno⟩ := hI
      obtain ⟨d, hdi, rfl⟩ := getElem?_mapW hw
      obtain ⟨C, fs, e, hc, hn, hlk⟩ := hd d (List.mem_of_getElem? hdi)
      refine gw_name 2 ?_ sc_named.nd
      show SW _ _ _ [some (.dat (.tup ds)), some (.dat (.str x)), some (.dat d)] _ _
      refine sw_cons ?_
      refine sw_if ?_
      refine tw_cmp (nomark _) ?_
      refine ew_fld ?_
      refine ew_name 2 rfl ?_
      refine ⟨C, fs, _, by rw [e], hc, hn, hlk, ?_⟩
      refine ew_name 1 rfl ?_
      refine o_eqS ?_
      refine ⟨_, rfl, ?_⟩
      refine ifD (fun h => ?_) (fun h => ?_)
      · refine sw_cons ?_
        refine sw_ret ?_
        refine ew_name 2 rfl ?_
        have ef : ds.find? (fun d => decide (nm d = x)) = some d := by
          rw [List.find?_eq_some_iff_getElem]
          obtain ⟨hi, ei⟩ := List.getElem?_eq_some_iff.mp hdi
          refine ⟨decide_eq_true h, i, hi, ei, fun j hj => ?_⟩
          have : nm ds[j] ≠ x := hno _ (List.mem_iff_getElem.mpr ⟨j, by rw [List.length_take]; omega, by rw [List.getElem_take]⟩)
          simp [this]
        rw [ef] at q
        exact krE_of hcl q
      · refine sw_nil ?_
        refine sw_nil ?_
        refine ⟨⟨_, rfl⟩, rfl, fun d2 h2 => ?_⟩
        rw [List.take_succ, hdi] at h2
        rcases List.mem_append.mp h2 with h3 | h3
        · exact hno d2 h3
        · simp at h3
          subst h3
          exact h
    · obtain ⟨_, rfl, hno⟩ := hI
      rw [List.length_map, List.take_length] at hno
      exact ⟨rfl, List.find?_eq_none.mpr fun d hd2 => by simp [hno d hd2]⟩
  rintro sl st ⟨rfl, hn⟩
  rw [hn] at q
  refine sw_cons ?_
  refine sw_ret ?_
  refine ew_non ?_
  exact krE_of hcl q
def nmD (d : D) : Str := match d with
  | .ins _ fs => match fs.lookup ("name" : Str) with
    | some (.str x) => x
    | _ => Str.empty
  | _ => Str.empty
theorem nmD_sc (CS : Addr) (s : Sc) : nmD (scD CS s) = s.nm := by
  show (match (scF s).lookup ("name" : Str) with | some (.str x) => x | _ => Str.empty) = _
  rw [scF_name]
theorem nmD_lk (CL C : Addr) (l : Lk) : nmD (lkD CL C l) = l.nm := by
  show (match (lkF C l).lookup ("name" : Str) with | some (.str x) => x | _ => Str.empty) = _
  rw [lkF_name]
theorem hasNm_sc {CS : Addr} (T : CTxt K CS scN) (s : Sc) : HasNm K nmD (scD CS s) := ⟨CS, scF s, rfl, T.cls, T.no _ (by simp), by rw [nmD_sc]; exact scF_name s⟩
theorem hasNm_lk {CL C : Addr} (T : CTxt K CL lkN) (s : Lk) : HasNm K nmD (lkD CL C s) := ⟨CL, lkF C s, rfl, T.cls, T.no _ (by simp), by rw [nmD_lk]; exact lkF_name C s⟩
theorem find_mapD {α : Type} (r : α → D) (g : α → Str) (hg : ∀ a, nmD (r a) = g a) (x : Str) (xs : List α) : (xs.map r).find? (fun d => decide (nmD d = x)) = (xs.find? fun a => decide (g a = x)).map r := by
  induction xs with
  | nil => rfl
  | cons a xs ih =>
    rw [List.map_cons, List.find?_cons, List.find?_cons, hg]
    by_cases h : g a = x
    · rw [decide_eq_true h]; rfl
    · rw [decide_eq_false h]; exact ih
def F_syscale0 (CY CS CL C : Addr) : FT := fun args st Ret _ => ∃ (ss : List Sc) (ls : List Lk) (x : Str) (s : Sc), args = [.dat (syD CY CS CL C ss ls), .dat (.str x)] ∧ (ss.find? fun s => decide (s.nm = x)) = some s ∧ Ret (.dat (scD CS s)) st
theorem ok_syscale0 {f CY CS CL C : Addr} {fd : FuncData} (TY : CTxt K CY syN) (TS : CTxt K CS scN) (C_named : Cal P w K mg base 1 "named" (F_named K)) (Fn : Fun K "scale" "System.scale" s_syscale f fd) (b : Binds K fd p_syscale []) : FnG P w K mg base (L2.CX P w) 2 f (spD K (F_syscale0 CY CS CL C)) := by
  refine fnD Fn sc_syscale b (fun args st0 Ret Exc h => ?_) ?_
  · obtain ⟨ss, ls, x, s, rfl, _⟩ := h
    rfl
  intro cdv A outer s0 H E H0 Al args st0 Ret Exc hr xk hp hal hcl hF
  obtain ⟨ss, ls, x, s, rfl, hf, q⟩ := hF
  refine sw_cons ?_
  refine sw_set 2 ?_ sc_syscale.nd
  refine ew_call C_named hr (by decide) xk ?_
  refine aw_cons ?_
  refine ew_fld ?_
  refine ew_name 0 rfl ?_
  refine ⟨_, _, _, rfl, TY.cls, TY.no _ (by simp), syF_scales _ _ _ _ _, ?_⟩
  refine aw_cons ?_
  refine ew_name 1 rfl ?_
  refine aw_nil ?_
  refine ⟨_, nmD, x, rfl, fun d hd => ?_, ?_⟩
  · obtain ⟨s, _, rfl⟩ := List.mem_map.mp hd
    exact hasNm_sc TS s
  rw [find_mapD (scD CS) (·.nm) (nmD_sc CS), hf]
  show SW _ _ _ [some (.dat (syD CY CS CL C ss ls)), some (.dat (.str x)), some (.dat (scD CS s))] _ _
  refine sw_cons ?_
  refine sw_if ?_
  refine tw_cmp (nomark _) ?_
  refine ew_name 2 rfl ?_
  refine ew_non ?_
  refine o_isN ?_
  refine ⟨_, rfl, ?_⟩
  refine ifF rfl ?_
  refine sw_nil ?_
  refine sw_cons ?_
  refine sw_ret ?_
  refine ew_name 2 rfl ?_
  exact krE_of hcl q
end Kf
namespace Kf
open PySem PySem.Spec L2 StX ClX Dn
open PyProof.Rows hiding St
variable {P : Program} {w : World} {K : PySem.W.Frag} {mg : Str → Option Value} {base : Heap}
abbrev dl (k : Nat) (m : Int) : Ob := .lst [.ptr k, .dat (.int m)]
def dst (S gs : List Ob) (cs : List Int) (m : Int) : List Ob := S ++ obW cs :: dl S.length m :: gs
theorem dst_k (S gs : List Ob) (cs : List Int) (m : Int) : (dst S gs cs m)[S.length]? = some (obW cs) := by simp [dst]
theorem dst_j (S gs : List Ob) (cs : List Int) (m : Int) : (dst S gs cs m)[S.length + 1]? = some (dl S.length m) := by simp [dst]
theorem dst_len (S gs : List Ob) (cs : List Int) (m : Int) : (dst S gs cs m).length = S.length + 2 + gs.length := by simp [dst]; omega
theorem dst_setk (S gs : List Ob) (cs cs' : List Int) (m : Int) : (dst S gs cs m).set S.length (obW cs') = dst S gs cs' m := by simp [dst]
theorem dst_setj (S gs : List Ob) (cs : List Int) (m m' : Int) : (dst S gs cs m).set (S.length + 1) (dl S.length m') = dst S gs cs m' := by simp [dst]
theorem dst_app (S gs h : List Ob) (cs : List Int) (m : Int) : dst S gs cs m ++ h = dst S (gs ++ h) cs m := by simp [dst]
theorem dst_at (S gs : List Ob) (cs : List Int) (m : Int) (i : Nat) : (dst S gs cs m)[S.length + 2 + i]? = gs[i]? := by
  unfold dst
  rw [List.getElem?_append_right (by omega), show S.length + 2 + i - S.length = i + 2 by omega]
  rfl
theorem dst_set (S gs : List Ob) (cs : List Int) (m : Int) (i : Nat) (o : Ob) : (dst S gs cs m).set (S.length + 2 + i) o = dst S (gs.set i o) cs m := by
  unfold dst
  rw [List.set_append_right _ _ (by omega), show S.length + 2 + i - S.length = i + 2 by omega]
  rfl
theorem obW_clo {n : Nat} (cs : List Int) : Clo n (obW cs) := fun w hw => by
  rw [List.map_map] at hw
  obtain ⟨_, _, rfl⟩ := List.mem_map.mp hw
  trivial
theorem dst_clos {S gs : List Ob} {cs : List Int} {m : Int} (h : Clos (dst S gs cs m)) (cs' : List Int) (m' : Int) : Clos (dst S gs cs' m') := by
  have h1 := clos_set (j := S.length) h (obW_clo (n := (dst S gs cs m).length) cs')
  rw [dst_setk] at h1
  have h2 := clos_set (j := S.length + 1) h1 (o := dl S.length m') (fun w hw => by
    simp only [List.mem_cons, List.not_mem_nil, or_false] at hw
    rcases hw with rfl | rfl
    · show S.length < _
      rw [dst_len]
      omega
    · trivial)
  rwa [dst_setj] at h2
theorem krE_dst {S gs : List Ob} {cs cs' : List Int} {m m' : Int} {Ret : WK} {d : D} (hc : Clos (dst S gs cs m)) (h : Ret (.dat d) (dst S gs cs' m')) : KrE (dst S gs cs m) Ret (.dat d) (dst S gs cs' m') := krE_set (by rw [dst_len, dst_len]) (dst_clos hc _ _) h
theorem krE_dstA {S gs : List Ob} {cs cs' : List Int} {m m' : Int} {g : List Ob} {Ret : WK} {d : D} (hc : Clos (dst S gs cs m)) (h : Ret (.dat d) (dst S gs cs' m')) : KrE (dst S gs cs m) Ret (.dat d) (dst S (gs ++ g) cs' m') :=
  ⟨dst S gs cs' m', g, (dst_app _ _ _ _ _).symm, by rw [dst_len, dst_len]; exact Nat.le_refl _, dst_clos hc _ _, trivial, h⟩
theorem itm_ptrE {st : List Ob} {xs : List W} {w : W} {k : Nat} (hk : st[k]? = some (.lst xs)) (hl : 0 < xs.length) (h : xs[xs.length - 1]? = some w) : Itm st (.ptr k) (-1) = some w := by
  show (match st[k]? with | some (.lst xs) => atI xs (-1) | _ => none) = _
  rw [hk]
  show atI xs (-1) = _
  unfold atI
  have e : ixN xs.length (-1) = some (xs.length - 1) := by
    unfold ixN
    rw [if_neg (by decide), if_pos (by omega)]
    congr 1
    omega
  rw [e]
  exact h
theorem obW_last (cs : List Int) (c : Int) : ((((cs ++ [c]).map D.int).map W.dat))[(((cs ++ [c]).map D.int).map W.dat).length - 1]? = some (.dat (.int c)) := by simp
theorem obW_drop (cs : List Int) (c : Int) : (((cs ++ [c]).map D.int).map W.dat).dropLast = (cs.map D.int).map W.dat := by simp
theorem obW_snoc (cs : List Int) (c : Int) : (cs.map D.int).map W.dat ++ [.dat (.int c)] = ((cs ++ [c]).map D.int).map W.dat := by simp
theorem eqv_ints_nil (cs : List Int) : PyData.eqv (.list (cs.map PyData.int)) (.list []) = cs.isEmpty := by rw [eqv_nil]; cases cs <;> rfl
def F_draw : FT := fun args st Ret _ => ∃ (S gs : List Ob) (cs : List Int) (m many : Int), args = [.ptr (S.length + 1), .dat (.int many)] ∧ st = dst S gs cs m ∧ cs.length ≤ 1000 ∧ 0 < many ∧ many < 18446744073709551616 ∧
  ∀ (r : Int) (cs' : List Int) (m' : Int), 0 ≤ r → r < many → cs'.length ≤ cs.length → Ret (.dat (.int r)) (dst S gs cs' m')
theorem ok_draw {f : Addr} {fd : FuncData} (B : Bl mg) (Fn : Fun K "_law_draw" "_law_draw" s__law_draw f fd) (b : Binds K fd p__law_draw []) : FnG P w K mg base (L2.CX P w) 1 f (spD K F_draw) := by
  refine fnD Fn sc__law_draw b (fun args st0 Ret Exc h => ?_) ?_
  · obtain ⟨S, gs, cs, m, many, rfl, _⟩ := h
    rfl
  intro cdv A outer s H E H0 Al args st0 Ret Exc hr xk hp hal hcl hF
  obtain ⟨S, gs, cs0, m, many, rfl, rfl, hl0, hm0, hm1, q⟩ := hF
  refine sw_cut (fun sl st => ∃ (cs : List Int) (x2 : Option W), cs.length ≤ cs0.length ∧ sl = [some (.ptr (S.length + 1)), some (.dat (.int many)), x2] ∧ st = dst S gs cs m) ?_ ?_
  · refine sw_while hp (fun n sl st => ∃ (cs : List Int) (x2 : Option W), cs.length = n ∧ cs.length ≤ cs0.length ∧ sl = [some (.ptr (S.length + 1)), some (.dat (.int many)), x2] ∧ st = dst S gs cs m) cs0.length ⟨cs0, none, rfl, Nat.le_refl _, rfl, rfl⟩ (fun n sl st hI => ?_)
    obtain ⟨cs, x2, rfl, hl, rfl, rfl⟩ := hI
    refine tw_bool ?_
    refine bw_and ?_
    refine tw_cmp (nomark _) ?_
    refine ew_ix ?_
    refine ew_name 0 rfl ?_
    refine ew_int ?_
    refine ⟨_, _, rfl, itm_ptr (j := 0) (dst_j _ _ _ _) rfl rfl, ?_⟩
    refine ew_lst ?_
    refine aw_nil ?_
    refine ⟨_, rfl, Nat.zero_le _, ?_⟩
    refine o_neP hr (dst_k _ _ _ _) (toPy_ints cs) rfl (shaped_ints cs) rfl ?_
    rw [eqv_ints_nil]
    refine ⟨_, rfl, ?_⟩
    rcases List.eq_nil_or_concat cs with rfl | ⟨ds, c, rfl⟩
    · refine ifF rfl ?_
      refine ifF rfl ?_
      exact ⟨[], x2, hl, rfl, rfl⟩
    · rw [List.concat_eq_append] at hl ⊢
      refine ifT (by cases ds <;> rfl) ?_
      refine bw_and1 ?_
      refine tw_cmp (nomark _) ?_
      refine ew_ix ?_
      refine ew_ix ?_
      refine ew_name 0 rfl ?_
      refine ew_int ?_
      refine ⟨_, _, rfl, itm_ptr (j := 0) (dst_j _ _ _ _) rfl rfl, ?_⟩
      refine ew_neg ?_
      refine ew_int ?_
      refine ⟨_, rfl, ?_⟩
      refine ⟨_, _, rfl, itm_ptrE (dst_k _ _ _ _) (by simp) (obW_last ds c), ?_⟩
      refine ew_int ?_
      refine o_eqI ?_
      refine ⟨_, rfl, ?_⟩
      refine ifB (fun h => ?_) (fun h => ?_)
      · refine sw_cons ?_
        refine sw_expr ?_
        refine ew_pop ?_
        refine ew_ix ?_
        refine ew_name 0 rfl ?_
        refine ew_int ?_
        refine ⟨_, _, rfl, itm_ptr (j := 0) (dst_j _ _ _ _) rfl rfl, ?_⟩
        refine ⟨_, _, _, rfl, dst_k _ _ _ _, obW_last ds c, ?_⟩
        rw [obW_drop, dst_setk]
        refine sw_nil ?_
        rw [List.length_append] at hl
        have h1 : [c].length = 1 := rfl
        exact ⟨ds.length, by rw [List.length_append]; omega, ds, x2, rfl, by omega, rfl, rfl⟩
      · exact ⟨ds ++ [c], x2, hl, rfl, rfl⟩
  rintro sl st ⟨cs, x2, hl, rfl, rfl⟩
  refine sw_cons ?_
  refine sw_if ?_
  refine tw_cmp (nomark _) ?_
  refine ew_ix ?_
  refine ew_name 0 rfl ?_
  refine ew_int ?_
  refine ⟨_, _, rfl, itm_ptr (j := 0) (dst_j _ _ _ _) rfl rfl, ?_⟩
  refine ew_lst ?_
  refine aw_nil ?_
  refine ⟨_, rfl, Nat.zero_le _, ?_⟩
  refine o_neP hr (dst_k _ _ _ _) (toPy_ints cs) rfl (shaped_ints cs) rfl ?_
  rw [eqv_ints_nil]
  refine ⟨_, rfl, ?_⟩
  rcases List.eq_nil_or_concat cs with rfl | ⟨ds, c, rfl⟩
  · refine ifF rfl ?_
    refine sw_nil ?_
    refine sw_cons ?_
    refine sw_asg ?_
    refine ew_bin ?_
    refine ew_bty bt_int B.int ?_
    refine aw_cons ?_
    refine ew_bin ?_
    refine ew_bin ?_
    refine ew_ix ?_
    refine ew_name 0 rfl ?_
    refine ew_int ?_
    refine ⟨_, _, rfl, itm_ptr (j := 1) (dst_j _ _ _ _) rfl rfl, ?_⟩
    refine ew_int ?_
    refine o_mul (.inr ⟨by decide, by decide⟩) ?_
    refine ew_int ?_
    refine o_add ?_
    refine aw_nil ?_
    refine c_int ?_
    refine ew_int ?_
    refine o_mod (by decide) ?_
    generalize ((m * 48271 + 19).fmod 2147483647) = m1
    refine gw_sub ?_
    refine ew_name 0 rfl ?_
    refine ew_int ?_
    refine ⟨S.length + 1, 1, 1, _, rfl, rfl, dst_j _ _ _ _, rfl, ?_⟩
    show SW _ _ _ _ ((dst S gs [] m).set (S.length + 1) (dl S.length m1)) _
    rw [dst_setj]
    refine sw_cons ?_
    refine sw_ret ?_
    refine ew_bin ?_
    refine ew_bty bt_int B.int ?_
    refine aw_cons ?_
    refine ew_bin ?_
    refine ew_ix ?_
    refine ew_name 0 rfl ?_
    refine ew_int ?_
    refine ⟨_, _, rfl, itm_ptr (j := 1) (dst_j _ _ _ _) rfl rfl, ?_⟩
    refine ew_int ?_
    refine o_divL (divL_of (by decide) (by decide)) ?_
    refine aw_nil ?_
    refine c_int ?_
    refine ew_name 1 rfl ?_
    refine o_mod (by omega) ?_
    have z := fmod_rng (i := m1.fdiv 8) hm0
    exact krE_dst hcl (q _ _ _ z.1 z.2 (Nat.zero_le _))
  · rw [List.concat_eq_append] at hl ⊢
    refine ifT (by cases ds <;> rfl) ?_
    refine sw_cons ?_
    refine sw_set 2 ?_ sc__law_draw.nd
    refine ew_pop ?_
    refine ew_ix ?_
    refine ew_name 0 rfl ?_
    refine ew_int ?_
    refine ⟨_, _, rfl, itm_ptr (j := 0) (dst_j _ _ _ _) rfl rfl, ?_⟩
    refine ⟨_, _, _, rfl, dst_k _ _ _ _, obW_last ds c, ?_⟩
    rw [obW_drop, dst_setk]
    refine sw_cons ?_
    refine sw_expr ?_
    refine ew_append ?_
    refine ew_ix ?_
    refine ew_name 0 rfl ?_
    refine ew_int ?_
    refine ⟨_, _, rfl, itm_ptr (j := 0) (dst_j _ _ _ _) rfl rfl, ?_⟩
    refine ⟨_, _, rfl, dst_k _ _ _ _, ?_⟩
    refine ew_bin ?_
    refine ew_name 2 rfl ?_
    refine ew_name 1 rfl ?_
    refine o_divL (divL_of hm0 hm1) ?_
    have hlen : ds.length + 1 ≤ cs0.length := by
      rw [List.length_append] at hl
      exact hl
    refine ⟨_, dst_k _ _ _ _, szl (by rw [List.length_map, List.length_map]; omega), ?_⟩
    rw [obW_snoc, dst_setk]
    refine sw_cons ?_
    refine sw_ret ?_
    refine ew_bin ?_
    refine ew_bty bt_int B.int ?_
    refine aw_cons ?_
    refine ew_name 2 rfl ?_
    refine aw_nil ?_
    refine c_int ?_
    refine ew_name 1 rfl ?_
    refine o_mod (by omega) ?_
    have z := fmod_rng (i := c) hm0
    exact krE_dst hcl (q _ _ _ z.1 z.2 (by rw [List.length_append]; exact hlen))
def F_pick : FT := fun args st Ret _ => ∃ (S gs : List Ob) (cs : List Int) (m : Int) (xs : List D), args = [.ptr (S.length + 1), .dat (.lst xs)] ∧ st = dst S gs cs m ∧ cs.length ≤ 1000 ∧ 0 < xs.length ∧ xs.length ≤ 1000 ∧
  ∀ (x : D) (cs' : List Int) (m' : Int), x ∈ xs → cs'.length ≤ cs.length → Ret (.dat x) (dst S gs cs' m')
theorem ok_pick {f : Addr} {fd : FuncData} (B : Bl mg) (C_draw : Cal P w K mg base 1 "_law_draw" F_draw) (Fn : Fun K "_law_pick" "_law_pick" s__law_pick f fd) (b : Binds K fd p__law_pick []) : FnG P w K mg base (L2.CX P w) 2 f (spD K F_pick) := by
  refine fnD Fn sc__law_pick b (fun args st0 Ret Exc h => ?_) ?_
  · obtain ⟨S, gs, cs, m, xs, rfl, _⟩ := h
    rfl
  intro cdv A outer s H E H0 Al args st0 Ret Exc hr xk hp hal hcl hF
  obtain ⟨S, gs, cs, m, xs, rfl, rfl, hl, hx0, hx1, q⟩ := hF
  refine sw_cons ?_
  refine sw_ret ?_
  refine ew_ix ?_
  refine ew_name 1 rfl ?_
  refine ew_call C_draw hr (by decide) xk ?_
  refine aw_cons ?_
  refine ew_name 0 rfl ?_
  refine aw_cons ?_
  refine ew_blt bt_len B.len ?_
  refine aw_cons ?_
  refine ew_name 1 rfl ?_
  refine aw_nil ?_
  refine c_len rfl ?_
  refine aw_nil ?_
  refine ⟨S, gs, cs, m, _, rfl, rfl, hl, by omega, by omega, fun r cs' m' r0 r1 hl' => ?_⟩
  have hi : r.toNat < xs.length := by omega
  refine ⟨_, _, rfl, itm_lst (j := r.toNat) (by omega) (List.getElem?_eq_getElem hi), ?_⟩
  exact krE_dst hcl (q _ _ _ (List.getElem_mem hi) hl')
theorem toPys_strs : ∀ xs : List Str, toPys (xs.map D.str) = some (xs.map PyData.str)
  | [] => rfl
  | x :: xs => by
    show (match toPy (.str x) with | none => none | some p => (toPys (xs.map D.str)).map (p :: ·)) = _
    rw [toPys_strs xs]
    rfl
theorem toPy_strs (xs : List Str) : toPy (.lst (xs.map D.str)) = some (.list (xs.map PyData.str)) := by
  show (toPys (xs.map D.str)).map _ = _
  rw [toPys_strs]
  rfl
theorem canLay_strs : ∀ xs : List Str, (∀ x ∈ xs, PyData.strOk x = true) → PyData.canLayAll0 (xs.map PyData.str) = true
  | [], _ => rfl
  | x :: xs, h => by
    simp only [List.map_cons, PyData.canLayAll0, PyData.canLay0, canLay_strs xs fun y hy => h y (List.mem_cons_of_mem _ hy), h x List.mem_cons_self, Bool.and_self]
theorem depth_strs : ∀ xs : List Str, PyData.depthAll (xs.map PyData.str) = 0
  | [] => rfl
  | x :: xs => by
    simp only [List.map_cons, PyData.depthAll, PyData.depth, depth_strs xs, Nat.max_self]
theorem shaped_strs (zs : List Str) (h : ∀ x ∈ zs, PyData.strOk x = true) : SeqAt.shaped (.list (zs.map PyData.str)) = true := by
  unfold SeqAt.shaped
  simp [PyData.canLay0, PyData.depth, canLay_strs zs h, depth_strs]
theorem len_ptr {st : List Ob} {j : Nat} {xs : List W} (h : st[j]? = some (.lst xs)) : Len st (.ptr j) = some xs.length := by
  show (match st[j]? with | some (.lst xs) => some xs.length | _ => none) = _
  rw [h]
theorem eqv_strs_nil (cs : List Str) : PyData.eqv (.list (cs.map PyData.str)) (.list []) = cs.isEmpty := by rw [eqv_nil]; cases cs <;> rfl
def F_mixed : FT := fun args st Ret _ => ∃ (S gs : List Ob) (cs : List Int) (m : Int) (xs : List Str), args = [.ptr (S.length + 1), .dat (.lst (xs.map D.str))] ∧ st = dst S gs cs m ∧ cs.length ≤ 1000 ∧ xs.length ≤ 1000 ∧ (∀ x ∈ xs, PyData.strOk x = true) ∧
  ∀ (ys : List Str) (cs' : List Int) (m' : Int), ys.Perm xs → cs'.length ≤ cs.length → Ret (.dat (.lst (ys.map D.str))) (dst S gs cs' m')
theorem perm_take {α : Type} {xs : List α} {i : Nat} {x : α} (h : xs[i]? = some x) : xs.Perm (x :: xs.eraseIdx i) := by
  induction xs generalizing i with
  | nil => simp at h
  | cons a xs ih =>
    cases i with
    | zero => simp at h; subst h; exact List.Perm.refl _
    | succ i =>
      simp at h
      rw [List.eraseIdx_cons_succ]
      exact (List.Perm.cons a (ih h)).trans (List.Perm.swap x a _)
theorem map_erase {α β : Type} (f : α → β) : ∀ (xs : List α) (i : Nat), (xs.map f).eraseIdx i = (xs.eraseIdx i).map f
  | [], _ => by simp
  | x :: xs, 0 => by simp
  | x :: xs, i + 1 => by
    rw [List.map_cons, List.eraseIdx_cons_succ, List.eraseIdx_cons_succ, List.map_cons, map_erase f xs i]
theorem ok_mixed {f : Addr} {fd : FuncData} (B : Bl mg) (C_draw : Cal P w K mg base 1 "_law_draw" F_draw) (Fn : Fun K "_law_mixed" "_law_mixed" s__law_mixed f fd) (b : Binds K fd p__law_mixed []) : FnG P w K mg base (L2.CX P w) 2 f (spD K F_mixed) := by
  refine fnD Fn sc__law_mixed b (fun args st0 Ret Exc h => ?_) ?_
  · obtain ⟨S, gs, cs, m, xs, rfl, _⟩ := h
    rfl
  intro cdv A outer s H E H0 Al args st0 Ret Exc hr xk hp hal hcl hF
  obtain ⟨S, gs, cs0, m0, xs, rfl, rfl, hl0, hx, hok, q⟩ := hF
  refine sw_cons ?_
  refine sw_par 2 3 rfl ?_ sc__law_mixed.nd
  refine aw_cons ?_
  refine ew_bty bt_list B.list ?_
  refine aw_cons ?_
  refine ew_name 1 rfl ?_
  refine aw_nil ?_
  refine c_listP (.inl rfl) ?_
  refine aw_cons ?_
  refine ew_lstM ?_
  refine aw_nil ?_
  refine ⟨Nat.zero_le _, ?_⟩
  refine aw_nil ?_
  refine ⟨_, _, rfl, ?_⟩
  rw [dst_app, dst_app, dst_len, dst_len]
  have eL : ∀ (ls fs : List W) (cs : List Int) (m : Int), (dst S (gs ++ [.lst ls] ++ [.lst fs]) cs m)[S.length + 2 + gs.length]? = some (.lst ls) := fun ls fs cs m => by rw [dst_at]; simp
  have eF : ∀ (ls fs : List W) (cs : List Int) (m : Int), (dst S (gs ++ [.lst ls] ++ [.lst fs]) cs m)[S.length + 2 + (gs ++ [Ob.lst ls]).length]? = some (.lst fs) := fun ls fs cs m => by rw [dst_at]; simp
  have sL : ∀ (ls ls' fs : List W) (cs : List Int) (m : Int), (dst S (gs ++ [.lst ls] ++ [.lst fs]) cs m).set (S.length + 2 + gs.length) (.lst ls') = dst S (gs ++ [.lst ls'] ++ [.lst fs]) cs m := fun ls ls' fs cs m => by rw [dst_set]; simp
  have sF : ∀ (ls fs fs' : List W) (cs : List Int) (m : Int), (dst S (gs ++ [.lst ls] ++ [.lst fs]) cs m).set (S.length + 2 + (gs ++ [Ob.lst ls]).length) (.lst fs') = dst S (gs ++ [.lst ls] ++ [.lst fs']) cs m := fun ls fs fs' cs m => by rw [dst_set]; simp
  have nL : ∀ (ls ls' : List W), (gs ++ [Ob.lst ls]).length = (gs ++ [Ob.lst ls']).length := fun _ _ => by simp
  show SW _ _ _ [some (.ptr (S.length + 1)), some (.dat (.lst (xs.map D.str))), some (.ptr (S.length + 2 + gs.length)), some (.ptr (S.length + 2 + (gs ++ [Ob.lst ((xs.map D.str).map W.dat)]).length))] _ _
  rw [nL ((xs.map D.str).map W.dat) []]
  refine sw_cut (fun sl st => ∃ (cs : List Int) (m : Int) (fs : List Str), cs.length ≤ cs0.length ∧ fs.Perm xs ∧ sl = [some (.ptr (S.length + 1)), some (.dat (.lst (xs.map D.str))), some (.ptr (S.length + 2 + gs.length)), some (.ptr (S.length + 2 + (gs ++ [Ob.lst []]).length))] ∧ st = dst S (gs ++ [.lst []] ++ [.lst ((fs.map D.str).map W.dat)]) cs m) ?_ ?_
  · refine sw_while hp (fun n sl st => ∃ (cs : List Int) (m : Int) (ls fs : List Str), ls.length = n ∧ cs.length ≤ cs0.length ∧ (fs ++ ls).Perm xs ∧ sl = [some (.ptr (S.length + 1)), some (.dat (.lst (xs.map D.str))), some (.ptr (S.length + 2 + gs.length)), some (.ptr (S.length + 2 + (gs ++ [Ob.lst []]).length))] ∧ st = dst S (gs ++ [.lst ((ls.map D.str).map W.dat)] ++ [.lst ((fs.map D.str).map W.dat)]) cs m) xs.length
      ⟨cs0, m0, xs, [], rfl, Nat.le_refl _, List.Perm.refl _, rfl, rfl⟩ (fun n sl st hI => ?_)
    obtain ⟨cs, m, ls, fs, rfl, hl, hpm, rfl, rfl⟩ := hI
    have hsz := hpm.length_eq
    rw [List.length_append] at hsz
    refine tw_cmp (nomark _) ?_
    refine ew_name 2 rfl ?_
    refine ew_lst ?_
    refine aw_nil ?_
    refine ⟨_, rfl, Nat.zero_le _, ?_⟩
    refine o_neP hr (eL _ _ _ _) (toPy_strs ls) rfl (shaped_strs ls fun y hy => hok y (hpm.mem_iff.mp (List.mem_append_right _ hy))) rfl ?_
    rw [eqv_strs_nil]
    refine ⟨_, rfl, ?_⟩
    cases ls with
    | nil =>
      refine ifF rfl ?_
      exact ⟨cs, m, fs, hl, by simpa using hpm, rfl, rfl⟩
    | cons l0 lr =>
      refine ifT rfl ?_
      generalize hls : l0 :: lr = ls at hsz hpm ⊢
      have hpos : 0 < ls.length := by rw [← hls]; exact Nat.succ_pos _
      refine sw_cons ?_
      refine sw_expr ?_
      refine ew_append ?_
      refine ew_name 3 rfl ?_
      rw [nL [] ((ls.map D.str).map W.dat)]
      refine ⟨_, _, rfl, eF _ _ _ _, ?_⟩
      refine ew_popAt ?_
      refine ew_name 2 rfl ?_
      refine ⟨_, _, rfl, eL _ _ _ _, ?_⟩
      refine ew_call C_draw hr (by decide) xk ?_
      refine aw_cons ?_
      refine ew_name 0 rfl ?_
      refine aw_cons ?_
      refine ew_blt bt_len B.len ?_
      refine aw_cons ?_
      refine ew_name 2 rfl ?_
      refine aw_nil ?_
      refine c_len ((len_ptr (eL _ _ _ _)).trans (by rw [List.length_map, List.length_map])) ?_
      refine aw_nil ?_
      refine ⟨S, _, cs, m, _, rfl, rfl, by omega, by omega, by omega, fun r cs' m' r0 r1 hl' => ?_⟩
      have hi : r.toNat < ls.length := by omega
      obtain ⟨y, hy⟩ : ∃ y, ls[r.toNat]? = some y := ⟨_, List.getElem?_eq_getElem hi⟩
      refine ⟨(ls.map D.str).map W.dat, r.toNat, .dat (.str y), by rw [show ((r.toNat : Nat) : Int) = r by omega], eL _ _ _ _, by omega, by rw [List.getElem?_map, List.getElem?_map, hy]; rfl, ?_⟩
      rw [sL, nL ((ls.map D.str).map W.dat) (((ls.map D.str).map W.dat).eraseIdx r.toNat)]
      refine ⟨_, eF _ _ _ _, szl (by rw [List.length_map, List.length_map]; omega), ?_⟩
      rw [sF]
      refine sw_nil ?_
      rw [nL (((ls.map D.str).map W.dat).eraseIdx r.toNat) []]
      refine ⟨(ls.eraseIdx r.toNat).length, by rw [List.length_eraseIdx, if_pos hi]; omega, cs', m', ls.eraseIdx r.toNat, fs ++ [y], rfl, by omega, ?_, rfl, ?_⟩
      · have h1 := perm_take hy
        have h2 : (fs ++ [y] ++ ls.eraseIdx r.toNat).Perm (fs ++ ls) := by
          rw [List.append_assoc]
          exact (List.perm_append_left_iff fs).mpr h1.symm
        exact h2.trans hpm
      · rw [List.map_append, List.map_append, show ((ls.map D.str).map W.dat).eraseIdx r.toNat = ((ls.eraseIdx r.toNat).map D.str).map W.dat by rw [map_erase, map_erase]]
        rfl
  rintro sl st ⟨cs, m, fs, hl, hpm, rfl, rfl⟩
  refine sw_frz 3 rfl (eF _ _ _ _) ?_ ?_
  · show Al.length ≤ _
    rw [hal, dst_len, List.length_append]
    omega
  refine sw_cons ?_
  refine sw_ret ?_
  refine ew_name 3 rfl ?_
  rw [dst_set, show (gs ++ [Ob.lst []] ++ [Ob.lst ((fs.map D.str).map W.dat)]).set (gs ++ [Ob.lst []]).length .gone = gs ++ ([Ob.lst []] ++ [.gone]) by simp]
  exact krE_dstA hcl (q fs cs m hpm hl)
end Kf
namespace Kf
open PySem PySem.Spec L2 StX ClX Dn
open PyProof.Rows hiding St
variable {P : Program} {w : World} {K : PySem.W.Frag} {mg : Str → Option Value} {base : Heap}
def NM16 : List Str := ["a", "ab", "abc", "b", "up", "down", "low", "zzzz", "x", "y", "fine", "link", "to", "q", "kept", "w"]
theorem nm16_ok : ∀ x ∈ NM16, IsNm x ∧ PyData.strOk x = true := fun x hx => by
  simp only [NM16, List.mem_cons, List.not_mem_nil, or_false] at hx
  rcases hx with rfl | rfl | rfl | rfl | rfl | rfl | rfl | rfl | rfl | rfl | rfl | rfl | rfl | rfl | rfl | rfl <;> exact ⟨⟨by decide +kernel, by decide +kernel⟩, by decide +kernel⟩
theorem nm16_nd : NM16.Nodup := by decide +kernel
theorem datsOf_map : ∀ ds : List D, datsOf (ds.map W.dat) = some ds
  | [] => rfl
  | d :: ds => by
    show (datsOf (ds.map W.dat)).map (d :: ·) = _
    rw [datsOf_map ds]
    rfl
def F_mnames : FT := fun args st Ret _ => ∃ (S gs : List Ob) (cs : List Int) (m many : Int), args = [.ptr (S.length + 1), .dat (.int many)] ∧ st = dst S gs cs m ∧ cs.length ≤ 1000 ∧ 0 ≤ many ∧
  ∀ (ns : List Str) (cs' : List Int) (m' : Int), ns.Nodup → (∀ x ∈ ns, x ∈ NM16) → ns.length = min many.toNat 16 → cs'.length ≤ cs.length → Ret (.dat (.lst (ns.map D.str))) (dst S gs cs' m')
theorem ok_mnames {f : Addr} {fd : FuncData} (C_mixed : Cal P w K mg base 2 "_law_mixed" F_mixed) (Fn : Fun K "_law_names" "_law_names" s__law_names f fd) (b : Binds K fd p__law_names []) : FnG P w K mg base (L2.CX P w) 3 f (spD K F_mnames) := by
  refine fnD Fn sc__law_names b (fun args st0 Ret Exc h => ?_) ?_
  · obtain ⟨S, gs, cs, m, many, rfl, _⟩ := h
    rfl
  intro cdv A outer s H E H0 Al args st0 Ret Exc hr xk hp hal hcl hF
  obtain ⟨S, gs, cs, m, many, rfl, rfl, hl, hm, q⟩ := hF
  refine sw_cons ?_
  refine sw_asg ?_
  refine ew_lst ?_
  iterate 16 (refine aw_cons ?_; refine ew_str ?_)
  refine aw_nil ?_
  refine ⟨NM16.map D.str, datsOf_map (NM16.map D.str), by show 16 ≤ sizeLine; decide, ?_⟩
  refine gw_name 2 ?_ sc__law_names.nd
  show SW _ _ _ [some (.ptr (S.length + 1)), some (.dat (.int many)), some (.dat (.lst (NM16.map D.str)))] _ _
  refine sw_cons ?_
  refine sw_ret ?_
  refine ew_slice ?_
  refine ew_call C_mixed hr (by decide) xk ?_
  refine aw_cons ?_
  refine ew_name 0 rfl ?_
  refine aw_cons ?_
  refine ew_name 2 rfl ?_
  refine aw_nil ?_
  refine ⟨S, gs, cs, m, NM16, rfl, rfl, hl, by decide, fun x hx => (nm16_ok x hx).2, fun ys cs' m' hp' hl' => ?_⟩
  refine pt_none ?_
  refine pt_some ?_
  refine ew_name 1 rfl ?_
  refine ⟨_, rfl, ?_⟩
  refine ⟨_, rfl, ?_⟩
  have e : cutL (ys.map D.str) none (some many) = (ys.take many.toNat).map D.str := by
    have h1 := cutL_to (ys.map D.str) many.toNat
    rw [show ((many.toNat : Nat) : Int) = many by omega] at h1
    rw [h1, List.map_take]
  rw [e]
  have hlen : ys.length = 16 := hp'.length_eq
  have hnd : ys.Nodup := hp'.nodup_iff.mpr nm16_nd
  exact krE_dst hcl (q _ _ _ (hnd.sublist (List.take_sublist _ _)) (fun x hx => hp'.mem_iff.mp (List.mem_of_mem_take hx)) (by rw [List.length_take, hlen]) hl')
end Kf
namespace Kf
open PySem PySem.Spec L2 StX ClX Dn
open PyProof.Rows hiding St
variable {P : Program} {w : World} {K : PySem.W.Frag} {mg : Str → Option Value} {base : Heap}
theorem tabZ_sorted {g : Int} {zs : List Int} (h : ∀ z ∈ zs, 0 ≤ z ∧ z ≤ g) (hs : zs.Pairwise (· ≤ ·)) : TabZ g zs := ⟨h, fun i x y hx hy => by
  obtain ⟨h1, e1⟩ := List.getElem?_eq_some_iff.mp hx
  obtain ⟨h2, e2⟩ := List.getElem?_eq_some_iff.mp hy
  rw [← e1, ← e2]
  exact (List.pairwise_iff_getElem.mp hs) i (i + 1) h1 h2 (by omega)⟩
def capF (by_ g : Int) (x : Int) : Int := if (if g < x + by_ then g else x + by_) > 0 then (if g < x + by_ then g else x + by_) else 0
theorem capF_mono {b g x y : Int} (h : x ≤ y) : capF b g x ≤ capF b g y := by unfold capF; repeat' split <;> omega
theorem capF_rng {b g x : Int} (hg : 0 ≤ g) : 0 ≤ capF b g x ∧ capF b g x ≤ g := by unfold capF; repeat' split <;> omega
def F_mmap : FT := fun args st Ret _ => ∃ (S gs : List Ob) (cs : List Int) (m top g : Int), args = [.ptr (S.length + 1), .dat (.int top), .dat (.int g)] ∧ st = dst S gs cs m ∧ cs.length ≤ 1000 ∧ 0 ≤ top ∧ top ≤ 900 ∧ 0 ≤ g ∧ g ≤ 1000000000000 ∧
  ∀ (zs : List Int) (cs' : List Int) (m' : Int), TabZ g zs → (zs.length : Int) = top + 1 → cs'.length ≤ cs.length → Ret (.dat (.tup (zs.map D.int))) (dst S gs cs' m')
theorem ok_mmap {f : Addr} {fd : FuncData} (B : Bl mg) (hso : mg "sorted" = none) (C_draw : Cal P w K mg base 1 "_law_draw" F_draw) (C_pick : Cal P w K mg base 2 "_law_pick" F_pick) (Fn : Fun K "_law_map" "_law_map" s__law_map f fd) (b : Binds K fd p__law_map []) : FnG P w K mg base (L2.CX P w) 3 f (spD K F_mmap) := by
  refine fnD Fn sc__law_map b (fun args st0 Ret Exc h => ?_) ?_
  · obtain ⟨S, gs, cs, m, top, g, rfl, _⟩ := h
    rfl
  intro cdv A outer s H E H0 Al args st0 Ret Exc hr xk hp hal hcl hF
  obtain ⟨S, gs, cs0, m0, top, g, rfl, rfl, hl0, ht0, ht1, hg0, hg1, q⟩ := hF
  refine sw_cons ?_
  refine sw_par3 5 6 7 rfl ?_ sc__law_map.nd
  refine aw_cons ?_
  refine ew_call C_draw hr (by decide) xk ?_
  refine aw_cons ?_
  refine ew_name 0 rfl ?_
  refine aw_cons ?_
  refine ew_int ?_
  refine aw_nil ?_
  refine ⟨S, gs, cs0, m0, 5, rfl, rfl, hl0, by decide, by decide, fun form cs1 m1 f0 f1 hl1 => ?_⟩
  refine aw_cons ?_
  refine ew_lstM ?_
  refine aw_nil ?_
  refine ⟨Nat.zero_le _, ?_⟩
  rw [dst_app, dst_len]
  refine aw_cons ?_
  refine ew_call C_draw hr (by decide) xk ?_
  refine aw_cons ?_
  refine ew_name 0 rfl ?_
  refine aw_cons ?_
  refine ew_int ?_
  refine aw_nil ?_
  refine ⟨S, _, cs1, m1, 3, rfl, rfl, by omega, by decide, by decide, fun here cs2 m2 h0 h1 hl2 => ?_⟩
  refine aw_nil ?_
  refine ⟨_, _, _, rfl, ?_⟩
  show SW _ _ _ [some (.ptr (S.length + 1)), some (.dat (.int top)), some (.dat (.int g)), none, none, some (.dat (.int form)), some (.ptr (S.length + 2 + gs.length)), some (.dat (.int here)), none] _ _
  refine sw_cons ?_
  refine sw_if ?_
  refine tw_cmp (nomark _) ?_
  refine ew_name 5 rfl ?_
  refine ew_int ?_
  refine o_eqI ?_
  refine ⟨_, rfl, ?_⟩
  refine ifD (fun hf => ?_) (fun hf => ?_)
  · refine sw_cons ?_
    refine sw_setLc 6 (own := [("_law_x", 4)]) (tb := false) (is := [4]) rfl sc__law_map.nd rfl (sw_true rfl rfl rfl (by decide +kernel)) (blkOk_by (N := n__law_map) (sc := defScope s__law_map) (by decide +kernel)) (fun _ _ _ _ _ => pg_name (i := 4) sc__law_map.nd rfl (Or.inl rfl)) (by decide) ?_
    refine iw_range1 B.range ?_
    refine aw_cons ?_
    refine ew_bin ?_
    refine ew_name 1 rfl ?_
    refine ew_int ?_
    refine o_add ?_
    refine aw_nil ?_
    refine ⟨_, rfl, by omega, by omega, ?_⟩
    refine ⟨fun i acc st => ∃ (zs : List Int) (cs : List Int) (m : Int), acc = zs.map D.int ∧ zs.length = i ∧ st = dst S (gs ++ [.lst []]) cs m ∧ cs.length ≤ cs0.length ∧ ∀ z ∈ zs, 0 ≤ z ∧ z ≤ g, ⟨[], cs2, m2, rfl, rfl, rfl, by omega, fun z hz => absurd hz List.not_mem_nil⟩, fun i w acc st hw hI => ?_, fun acc st hI => ?_⟩
    · obtain ⟨zs, cs, m, rfl, hzl, rfl, hl, hz⟩ := hI
      obtain ⟨hi, rfl⟩ := getElem?_rng hw
      refine ⟨_, rfl, fun G1 sb Hb Cb cl fp => ?_⟩
      refine ew_call C_draw hr (by decide) xok_false ?_
      refine aw_cons ?_
      refine ew_name 0 rfl ?_
      refine aw_cons ?_
      refine ew_bin ?_
      refine ew_name 2 rfl ?_
      refine ew_int ?_
      refine o_add ?_
      refine aw_nil ?_
      refine ⟨S, _, cs, m, _, rfl, rfl, by omega, by omega, by omega, fun r cs' m' r0 r1 hl' => ?_⟩
      refine ⟨_, rfl, szl (by rw [List.length_map]; omega), zs ++ [r], cs', m', by rw [List.map_append]; rfl, by rw [List.length_append, hzl]; rfl, rfl, by omega, fun z hz' => ?_⟩
      rcases List.mem_append.mp hz' with h | h
      · exact hz z h
      · obtain rfl := List.mem_singleton.mp h
        exact ⟨r0, by omega⟩
    · obtain ⟨zs, cs, m, rfl, hzl, rfl, hl, hz⟩ := hI
      rw [rng_length] at hzl
      have hzl2 : (zs.length : Int) = top + 1 := by omega
      show SW _ _ _ [some (.ptr (S.length + 1)), some (.dat (.int top)), some (.dat (.int g)), none, none, some (.dat (.int form)), some (.dat (.lst (zs.map D.int))), some (.dat (.int here)), none] _ _
      refine sw_cons ?_
      refine sw_ret ?_
      refine ew_bty bt_tuple B.tuple ?_
      refine aw_cons ?_
      refine ew_blt bt_sorted hso ?_
      refine aw_cons ?_
      refine ew_lc (own := [("_law_one", 8)]) (tb := false) (is := [8]) rfl sc__law_map.nd (blkOk_by (N := n__law_map) (sc := defScope s__law_map) (by decide +kernel)) (fun _ _ _ _ _ => pg_name (i := 8) sc__law_map.nd rfl (Or.inl rfl)) (by decide) ?_
      refine lcj_map zs D.int D.int (szl (by omega)) ?_ ?_ ?_
      · refine iw_list ?_
        exact ew_name 6 rfl ⟨_, rfl, rfl, rfl⟩
      · intro x hx
        refine ⟨_, rfl, fun G1 sb Hb Cb cl fp => ?_⟩
        refine ew_bty bt_int B.int ?_
        refine aw_cons ?_
        refine ew_name 8 rfl ?_
        refine aw_nil ?_
        refine c_int ?_
        exact ⟨rfl, rfl⟩
      refine aw_nil ?_
      refine c_sorted fun ys hperm hsort => ?_
      refine aw_nil ?_
      refine c_tuple ?_
      exact krE_dstA hcl (q ys cs m (tabZ_sorted (fun z hz' => hz z (hperm.mem_iff.mp hz')) hsort) (by rw [hperm.length_eq]; exact hzl2) hl)
  refine sw_nil ?_
  refine sw_cons ?_
  refine sw_asg ?_
  refine ew_bin ?_
  refine ew_call C_draw hr (by decide) xk ?_
  refine aw_cons ?_
  refine ew_name 0 rfl ?_
  refine aw_cons ?_
  refine ew_int ?_
  refine aw_nil ?_
  refine ⟨S, _, cs2, m2, 5, rfl, rfl, by omega, by decide, by decide, fun by_ cs3 m3 b0 b1 hl3 => ?_⟩
  refine ew_int ?_
  refine o_sub ?_
  refine gw_name 3 ?_ sc__law_map.nd
  show SW _ _ _ [some (.ptr (S.length + 1)), some (.dat (.int top)), some (.dat (.int g)), some (.dat (.int (by_ - 2))), none, some (.dat (.int form)), some (.ptr (S.length + 2 + gs.length)), some (.dat (.int here)), none] _ _
  refine sw_cons ?_
  refine sw_if ?_
  refine tw_cmp (nomark _) ?_
  refine ew_name 5 rfl ?_
  refine ew_int ?_
  refine o_lt ?_
  refine ⟨_, rfl, ?_⟩
  refine ifD (fun hf3 => ?_) (fun hf3 => ?_)
  · refine sw_cons ?_
    refine sw_ret ?_
    refine ew_bty bt_tuple B.tuple ?_
    refine aw_cons ?_
    refine ew_lc (own := [("_law_x", 4)]) (tb := false) (is := [4]) rfl sc__law_map.nd (blkOk_by (N := n__law_map) (sc := defScope s__law_map) (by decide +kernel)) (fun _ _ _ _ _ => pg_name (i := 4) sc__law_map.nd rfl (Or.inl rfl)) (by decide) ?_
    refine lcj_map (List.range (top + 1).toNat) (fun (i : Nat) => D.int (0 + (i : Int))) (fun (i : Nat) => D.int (capF (by_ - 2) g (i : Int))) (szl (by rw [List.length_range]; omega)) ?_ ?_ ?_
    · refine iw_range1 B.range ?_
      refine aw_cons ?_
      refine ew_bin ?_
      refine ew_name 1 rfl ?_
      refine ew_int ?_
      refine o_add ?_
      refine aw_nil ?_
      exact ⟨_, rfl, by omega, by omega, rfl, rng_map _ _⟩
    · intro i hi
      refine ⟨_, rfl, fun G1 sb Hb Cb cl fp => ?_⟩
      refine ew_blt bt_max B.max ?_
      refine aw_cons ?_
      refine ew_int ?_
      refine aw_cons ?_
      refine ew_blt bt_min B.min ?_
      refine aw_cons ?_
      refine ew_bty bt_int B.int ?_
      refine aw_cons ?_
      refine ew_bin ?_
      refine ew_name 4 rfl ?_
      refine ew_name 3 rfl ?_
      refine o_add ?_
      refine aw_nil ?_
      refine c_int ?_
      refine aw_cons ?_
      refine ew_name 2 rfl ?_
      refine aw_nil ?_
      refine c_min rfl ?_
      refine aw_nil ?_
      refine c_max rfl ?_
      refine ⟨?_, rfl⟩
      rw [show (0 : Int) + (i : Int) = (i : Int) by omega]
      rfl
    refine aw_nil ?_
    refine c_tuple ?_
    rw [show (List.range (top + 1).toNat).map (fun (i : Nat) => D.int (capF (by_ - 2) g (i : Int))) = ((List.range (top + 1).toNat).map fun (i : Nat) => capF (by_ - 2) g (i : Int)).map D.int by rw [List.map_map]; rfl]
    refine krE_dstA hcl (q _ cs3 m3 ⟨fun z hz => ?_, fun i x y hx hy => ?_⟩ (by rw [List.length_map, List.length_range]; omega) (by omega))
    · obtain ⟨i, _, rfl⟩ := List.mem_map.mp hz
      exact capF_rng hg0
    · rw [List.getElem?_map] at hx hy
      obtain ⟨i1, h1, rfl⟩ := Option.map_eq_some_iff.mp hx
      obtain ⟨i2, h2, rfl⟩ := Option.map_eq_some_iff.mp hy
      have e1 : i1 = i := by
        have hi := (List.getElem?_eq_some_iff.mp h1).1
        rw [List.length_range] at hi
        rw [List.getElem?_range hi] at h1
        exact (Option.some.inj h1).symm
      have e2 : i2 = i + 1 := by
        have hi := (List.getElem?_eq_some_iff.mp h2).1
        rw [List.length_range] at hi
        rw [List.getElem?_range hi] at h2
        exact (Option.some.inj h2).symm
      subst e1 e2
      exact capF_mono (by omega)
  refine sw_nil ?_
  have eF : ∀ (fs : List W) (cs : List Int) (m : Int), (dst S (gs ++ [.lst fs]) cs m)[S.length + 2 + gs.length]? = some (.lst fs) := fun fs cs m => by rw [dst_at]; simp
  have sF : ∀ (fs fs' : List W) (cs : List Int) (m : Int), (dst S (gs ++ [.lst fs]) cs m).set (S.length + 2 + gs.length) (.lst fs') = dst S (gs ++ [.lst fs']) cs m := fun fs fs' cs m => by rw [dst_set]; simp
  refine sw_cut (fun sl st => ∃ (cs : List Int) (m : Int) (zs : List Int) (x4 x7 x8 : Option W), cs.length ≤ cs0.length ∧ (zs.length : Int) = top + 1 ∧ TabZ g zs ∧ sl = [some (.ptr (S.length + 1)), some (.dat (.int top)), some (.dat (.int g)), some (.dat (.int (by_ - 2))), x4, some (.dat (.int form)), some (.ptr (S.length + 2 + gs.length)), x7, x8] ∧ st = dst S (gs ++ [.lst ((zs.map D.int).map W.dat)]) cs m) ?_ ?_
  · refine sw_for hp rfl ?_
    refine iw_range1 B.range ?_
    refine aw_cons ?_
    refine ew_bin ?_
    refine ew_name 1 rfl ?_
    refine ew_int ?_
    refine o_add ?_
    refine aw_nil ?_
    refine ⟨_, rfl, by omega, by omega, ?_⟩
    refine ⟨fun i sl st => ∃ (cs : List Int) (m : Int) (zs : List Int) (x4 x8 : Option W) (hv : Int), cs.length ≤ cs0.length ∧ zs.length = i ∧ TabZ g zs ∧ 0 ≤ hv ∧ (∀ z, zs.getLast? = some z → z ≤ hv) ∧ sl = [some (.ptr (S.length + 1)), some (.dat (.int top)), some (.dat (.int g)), some (.dat (.int (by_ - 2))), x4, some (.dat (.int form)), some (.ptr (S.length + 2 + gs.length)), some (.dat (.int hv)), x8] ∧ st = dst S (gs ++ [.lst ((zs.map D.int).map W.dat)]) cs m,
      ⟨cs3, m3, [], none, none, here, by omega, rfl, ⟨fun z hz => absurd hz List.not_mem_nil, fun i x y hx => by simp at hx⟩, h0, fun z hz => by simp at hz, rfl, rfl⟩, fun i w sl st hw hI => ?_, fun sl st hI => ?_⟩
    · obtain ⟨cs, m, zs, x4, x8, hv, hl, hzl, hT, hv0, hlast, rfl, rfl⟩ := hI
      obtain ⟨hi, rfl⟩ := getElem?_rng hw
      refine gw_name 4 ?_ sc__law_map.nd
      show SW _ _ _ [some (.ptr (S.length + 1)), some (.dat (.int top)), some (.dat (.int g)), some (.dat (.int (by_ - 2))), some (.dat (.int (0 + (i : Int)))), some (.dat (.int form)), some (.ptr (S.length + 2 + gs.length)), some (.dat (.int hv)), x8] _ _
      refine sw_cons ?_
      refine sw_expr ?_
      refine ew_append ?_
      refine ew_name 6 rfl ?_
      refine ⟨_, _, rfl, eF _ _ _, ?_⟩
      refine ew_blt bt_min B.min ?_
      refine aw_cons ?_
      refine ew_bty bt_int B.int ?_
      refine aw_cons ?_
      refine ew_name 7 rfl ?_
      refine aw_nil ?_
      refine c_int ?_
      refine aw_cons ?_
      refine ew_name 2 rfl ?_
      refine aw_nil ?_
      refine c_min rfl ?_
      refine ⟨_, eF _ _ _, szl (by rw [List.length_map, List.length_map]; omega), ?_⟩
      rw [sF, obW_snoc]
      refine sw_cons ?_
      refine sw_set 7 ?_ sc__law_map.nd
      refine ew_bin ?_
      refine ew_name 7 rfl ?_
      refine ew_call C_pick hr (by decide) xk ?_
      refine aw_cons ?_
      refine ew_name 0 rfl ?_
      refine aw_cons ?_
      refine ew_lst ?_
      iterate 7 (refine aw_cons ?_; refine ew_int ?_)
      refine aw_nil ?_
      refine ⟨_, rfl, (by show 7 ≤ sizeLine; decide), ?_⟩
      refine aw_nil ?_
      refine ⟨S, _, cs, m, _, rfl, rfl, by omega, by show 0 < 7; decide, by show 7 ≤ 1000; decide, fun x cs' m' hx hl' => ?_⟩
      obtain ⟨k, rfl, k0⟩ : ∃ k : Int, x = .int k ∧ 0 ≤ k := by
        simp only [List.mem_cons, List.not_mem_nil, or_false] at hx
        rcases hx with rfl | rfl | rfl | rfl | rfl | rfl | rfl <;> exact ⟨_, rfl, by decide⟩
      refine o_add ?_
      refine sw_nil ?_
      refine ⟨cs', m', zs ++ [if g < hv then g else hv], _, _, hv + k, by omega, by rw [List.length_append, hzl]; rfl, ?_, by omega, fun z hz => ?_, rfl, rfl⟩
      · refine tabZ_add hT (by split <;> omega) fun z hz => ?_
        have h1 := hlast z hz
        have h2 := (hT.1 z (List.mem_of_getLast? hz)).2
        split <;> omega
      · rw [List.getLast?_append] at hz
        have hz2 : (if g < hv then g else hv) = z := by simpa using hz
        rw [← hz2]
        split <;> omega
    · obtain ⟨cs, m, zs, x4, x8, hv, hl, hzl, hT, hv0, hlast, rfl, rfl⟩ := hI
      rw [rng_length] at hzl
      exact ⟨cs, m, zs, x4, _, x8, hl, by omega, hT, rfl, rfl⟩
  rintro sl st ⟨cs, m, zs, x4, x7, x8, hl, hzl, hT, rfl, rfl⟩
  refine sw_cons ?_
  refine sw_ret ?_
  refine ew_bty bt_tuple B.tuple ?_
  refine aw_cons ?_
  refine ew_name 6 rfl ?_
  refine aw_nil ?_
  refine c_tupleM (eF _ _ _) ?_
  exact krE_dstA hcl (q zs cs m hT hzl hl)
def F_mdeal : FT := fun args st Ret _ => ∃ ns : List Int, args = [.dat (.scr ns)] ∧ ns.length ≤ 63 ∧ ∀ (cs : List Int) (m : Int), cs.length ≤ 63 → Ret (.ptr (st.length + 1)) (dst st [] cs m)
theorem ok_mdeal {f : Addr} {fd : FuncData} (B : Bl mg) (Fn : Fun K "_law_deal" "_law_deal" s__law_deal f fd) (b : Binds K fd p__law_deal []) : FnG P w K mg base (L2.CX P w) 1 f (spD K F_mdeal) := by
  refine fnD Fn sc__law_deal b (fun args st0 Ret Exc h => ?_) ?_
  · obtain ⟨ns, rfl, _⟩ := h
    rfl
  intro cdv A outer s H E H0 Al args st0 Ret Exc hr xk hp hal hcl hF
  obtain ⟨ns, rfl, hns, q⟩ := hF
  have cl60 : cutL ns none (some 60) = ns.take 60 := cutL_to ns 60
  refine sw_cons ?_
  refine sw_par 2 3 rfl ?_ sc__law_deal.nd
  refine aw_cons ?_
  refine ew_lc (own := [("_law_cell", 1)]) (tb := false) (is := [1]) rfl sc__law_deal.nd (blkOk_by (N := n__law_deal) (sc := defScope s__law_deal) (by decide +kernel)) (fun _ _ _ _ _ => pg_name (i := 1) sc__law_deal.nd rfl (Or.inl rfl)) (by decide) ?_
  refine lcj_map (ns.take 60) D.int (fun n => D.int (if n < 0 then -n else n)) (szl (by rw [List.length_take]; omega)) ?_ ?_ ?_
  · refine iw_list ?_
    refine ew_sliceScr ?_
    refine ew_name 0 rfl ?_
    refine pt_none ?_
    refine pt_some ?_
    refine ew_int ?_
    refine ⟨_, rfl, ?_⟩
    refine ⟨ns, rfl, ?_⟩
    rw [cl60]
    exact ⟨_, rfl, rfl, rfl⟩
  · intro x hx
    refine ⟨_, rfl, fun G1 sb Hb Cb cl fp => ?_⟩
    refine ew_blt bt_abs B.abs ?_
    refine aw_cons ?_
    refine ew_name 1 rfl ?_
    refine aw_nil ?_
    refine c_abs ?_
    exact ⟨rfl, rfl⟩
  rw [show (ns.take 60).map (fun n => D.int (if n < 0 then -n else n)) = ((ns.take 60).map fun n => if n < 0 then -n else n).map D.int by rw [List.map_map]; rfl]
  generalize hcs : (ns.take 60).map (fun n : Int => if n < 0 then -n else n) = cs
  have hcl2 : cs.length ≤ 60 := by rw [← hcs, List.length_map, List.length_take]; omega
  refine aw_cons ?_
  refine ew_int ?_
  refine aw_nil ?_
  refine ⟨_, _, rfl, ?_⟩
  show SW _ _ _ [some (.dat (.scr ns)), none, some (.dat (.lst (cs.map D.int))), some (.dat (.int 86028121))] _ _
  refine sw_cut (fun sl st => st = st0 ∧ ∃ (x1 : Option W) (m : Int), sl = [some (.dat (.scr ns)), x1, some (.dat (.lst (cs.map D.int))), some (.dat (.int m))]) ?_ ?_
  · refine sw_for hp rfl ?_
    refine iw_list ?_
    refine ew_name 2 rfl ?_
    refine ⟨_, rfl, ?_⟩
    refine ⟨fun i sl st => st = st0 ∧ ∃ (x1 : Option W) (m : Int), sl = [some (.dat (.scr ns)), x1, some (.dat (.lst (cs.map D.int))), some (.dat (.int m))], ⟨rfl, none, _, rfl⟩, fun i w sl st hw hI => ?_, fun sl st hI => hI⟩
    obtain ⟨rfl, x1, m, rfl⟩ := hI
    obtain ⟨d, hd, rfl⟩ := getElem?_mapW hw
    rw [List.getElem?_map] at hd
    obtain ⟨c, hc, rfl⟩ := Option.map_eq_some_iff.mp hd
    refine gw_name 1 ?_ sc__law_deal.nd
    show SW _ _ _ [some (.dat (.scr ns)), some (.dat (.int c)), some (.dat (.lst (cs.map D.int))), some (.dat (.int m))] _ _
    refine sw_cons ?_
    refine sw_set 3 ?_ sc__law_deal.nd
    refine ew_bin ?_
    refine ew_bty bt_int B.int ?_
    refine aw_cons ?_
    refine ew_bin ?_
    refine ew_bin ?_
    refine ew_name 3 rfl ?_
    refine ew_int ?_
    refine o_mul (.inr ⟨by decide, by decide⟩) ?_
    refine ew_bin ?_
    refine ew_bty bt_int B.int ?_
    refine aw_cons ?_
    refine ew_name 1 rfl ?_
    refine aw_nil ?_
    refine c_int ?_
    refine ew_int ?_
    refine o_mod (by decide) ?_
    refine o_add ?_
    refine aw_nil ?_
    refine c_int ?_
    refine ew_int ?_
    refine o_mod (by decide) ?_
    refine sw_nil ?_
    exact ⟨rfl, _, _, rfl⟩
  rintro sl st ⟨rfl, x1, m, rfl⟩
  refine sw_cons ?_
  refine sw_ret ?_
  refine ew_lstM ?_
  refine aw_cons ?_
  refine ew_revP ?_
  refine ew_lcif (own := [("_law_cell", 1)]) (tb := false) (is := [1]) rfl sc__law_deal.nd (blkOk_by (N := n__law_deal) (sc := defScope s__law_deal) (by decide +kernel)) (fun _ _ _ _ _ => pg_name (i := 1) sc__law_deal.nd rfl (Or.inl rfl)) (by decide) ?_
  refine lcj_mapF cs D.int (fun c => decide (1000000000000000000 ≤ c)) D.int (szl (by omega)) ?_ ?_ ?_
  · refine iw_list ?_
    exact ew_name 2 rfl ⟨_, rfl, rfl, rfl⟩
  · intro x hx
    refine ⟨_, rfl, fun G1 sb Hb Cb cl fp => ?_⟩
    refine tw_cmp (nomark _) ?_
    refine ew_name 1 rfl ?_
    refine ew_mid (.dat (.int 1000000000000000000)) ?_ ?_
    · refine ew_bin ?_
      refine ew_int ?_
      refine ew_int ?_
      exact o_pow ⟨by decide, by decide, by decide⟩ ⟨rfl, rfl⟩
    refine o_ge ?_
    refine ⟨_, rfl, rfl, rfl, fun _ G2 sb2 Hb2 Cb2 cl2 fp2 => ?_⟩
    exact ew_name 1 rfl ⟨rfl, rfl⟩
  refine ⟨_, rfl, ?_⟩
  refine aw_cons ?_
  refine ew_name 3 rfl ?_
  refine aw_nil ?_
  refine ⟨by show 2 ≤ sizeLine; decide, ?_⟩
  generalize hds : (cs.filter fun c => decide (1000000000000000000 ≤ c)) = ds
  have hdl : ds.length ≤ 60 := by rw [← hds]; exact Nat.le_trans (List.length_filter_le _ _) hcl2
  have e : st ++ [Ob.lst ((ds.map D.int).reverse.map W.dat)] ++ [.lst [.ptr st.length, .dat (.int m)]] = dst st [] ds.reverse m := by
    unfold dst
    rw [← List.map_reverse]
    simp
  rw [e, show (st ++ [Ob.lst ((ds.map D.int).reverse.map W.dat)]).length = st.length + 1 by simp]
  have hq := q ds.reverse m (by rw [List.length_reverse]; omega)
  refine ⟨dst st [] ds.reverse m, [], by simp, by rw [dst_len]; omega, ?_, ?_, hq⟩
  · intro o ho
    unfold dst at ho
    rcases List.mem_append.mp ho with h | h
    · exact (hcl o h).mono (by rw [dst_len]; omega)
    · simp only [List.mem_cons, List.not_mem_nil, or_false] at h
      rcases h with rfl | rfl
      · exact obW_clo _
      · intro w hw
        simp only [List.mem_cons, List.not_mem_nil, or_false] at hw
        rcases hw with rfl | rfl
        · show st.length < _
          rw [dst_len]
          omega
        · trivial
  · show st.length + 1 < _
    rw [dst_len]
    omega
end Kf
namespace Kf
open PySem PySem.Spec L2 StX ClX Dn
open PyProof.Rows hiding St
variable {P : Program} {w : World} {K : PySem.W.Frag} {mg : Str → Option Value} {base : Heap}
abbrev Hd := Str × Int
abbrev Ti := Str × Str × Str × List Int
def hdD (h : Hd) : D := .tup [.str h.1, .int h.2]
def tiD (t : Ti) : D := .tup [.str t.1, .str t.2.1, .str t.2.2.1, .tup (t.2.2.2.map D.int)]
def tolD (hs : List Hd) (ts : List Ti) : D := .tup [.lst (hs.map hdD), .lst (ts.map tiD)]
def TiOk (hs : List Hd) (t : Ti) : Prop := ∃ a b : Int, (t.2.1, a) ∈ hs ∧ (t.2.2.1, b) ∈ hs ∧ TabZ b t.2.2.2 ∧ (t.2.2.2.length : Int) = a + 1
structure TolOk (most many great : Int) (hs : List Hd) (ts : List Ti) : Prop where
  ne : hs ≠ []
  nd : (hs.map (·.1)).Nodup
  nm : ∀ h ∈ hs, h.1 ∈ NM16
  tp : ∀ h ∈ hs, 1 ≤ h.2 ∧ h.2 ≤ great
  ln : (hs.length : Int) ≤ most
  nd2 : (ts.map (·.1)).Nodup
  nm2 : ∀ t ∈ ts, t.1 ∈ NM16
  ok : ∀ t ∈ ts, TiOk hs t
  ln2 : (ts.length : Int) ≤ many
def F_msystem : FT := fun args st Ret _ => ∃ (S gs : List Ob) (cs : List Int) (m most many great : Int), args = [.ptr (S.length + 1), .dat (.int most), .dat (.int many), .dat (.int great)] ∧ st = dst S gs cs m ∧ cs.length ≤ 1000 ∧ 1 ≤ most ∧ most ≤ 16 ∧ 0 ≤ many ∧ many ≤ 16 ∧ 1 ≤ great ∧ great ≤ 800 ∧
  ∀ (hs : List Hd) (ts : List Ti) (cs' : List Int) (m' : Int), TolOk most many great hs ts → cs'.length ≤ cs.length → Ret (.dat (tolD hs ts)) (dst S gs cs' m')
theorem nd_snoc2 {α β : Type} {f : α → β} {xs : List α} {x : α} {ys : List β} {i : Nat} (hn : ys.Nodup) (hx : xs.map f = ys.take i) (hi : ys[i]? = some (f x)) : (xs ++ [x]).map f = ys.take (i + 1) := by
  rw [List.map_append, hx, List.take_succ, hi]
  rfl
theorem ok_msystem {f : Addr} {fd : FuncData} (hdct : mg "dict" = none) (C_draw : Cal P w K mg base 1 "_law_draw" F_draw) (C_pick : Cal P w K mg base 2 "_law_pick" F_pick) (C_names : Cal P w K mg base 3 "_law_names" F_mnames) (C_map : Cal P w K mg base 3 "_law_map" F_mmap) (Fn : Fun K "_law_system" "_law_system" s__law_system f fd) (b : Binds K fd p__law_system []) : FnG P w K mg base (L2.CX P w) 4 f (spD K F_msystem) := by
  refine fnD Fn sc__law_system b (fun args st0 Ret Exc h => ?_) ?_
  · obtain ⟨S, gs, cs, m, most, many, great, rfl, _⟩ := h
    rfl
  intro cdv A outer s H E H0 Al args st0 Ret Exc hr xk hp hal hcl hF
  obtain ⟨S, gs, cs0, m0, most, many, great, rfl, rfl, hl0, hm1, hm2, hn1, hn2, hg1, hg2, q⟩ := hF
  refine sw_cons ?_
  refine sw_par 5 6 rfl ?_ sc__law_system.nd
  refine aw_cons ?_
  refine ew_call C_names hr (by decide) xk ?_
  refine aw_cons ?_
  refine ew_name 0 rfl ?_
  refine aw_cons ?_
  refine ew_bin ?_
  refine ew_int ?_
  refine ew_call C_draw hr (by decide) xk ?_
  refine aw_cons ?_
  refine ew_name 0 rfl ?_
  refine aw_cons ?_
  refine ew_name 1 rfl ?_
  refine aw_nil ?_
  refine ⟨S, gs, cs0, m0, most, rfl, rfl, hl0, by omega, by omega, fun r cs1 m1 r0 r1 hl1 => ?_⟩
  refine o_add ?_
  refine aw_nil ?_
  refine ⟨S, gs, cs1, m1, _, rfl, rfl, by omega, by omega, fun ns cs2 m2 nnd nin nln hl2 => ?_⟩
  refine aw_cons ?_
  refine ew_lstM ?_
  refine aw_nil ?_
  refine ⟨Nat.zero_le _, ?_⟩
  rw [dst_app, dst_len]
  refine aw_nil ?_
  refine ⟨_, _, rfl, ?_⟩
  show SW _ _ _ [some (.ptr (S.length + 1)), some (.dat (.int most)), some (.dat (.int many)), some (.dat (.int great)), none, some (.dat (.lst (ns.map D.str))), some (.ptr (S.length + 2 + gs.length)), none, none, none, none] _ _
  have eF : ∀ (fs : List W) (g : List Ob) (cs : List Int) (m : Int), (dst S (gs ++ .lst fs :: g) cs m)[S.length + 2 + gs.length]? = some (.lst fs) := fun fs g cs m => by rw [dst_at]; simp
  have sF : ∀ (fs : List W) (o : Ob) (g : List Ob) (cs : List Int) (m : Int), (dst S (gs ++ .lst fs :: g) cs m).set (S.length + 2 + gs.length) o = dst S (gs ++ o :: g) cs m := fun fs o g cs m => by rw [dst_set]; simp
  have hnl : (ns.length : Int) ≤ most ∧ 1 ≤ ns.length := by rw [nln]; omega
  refine sw_cut (fun sl st => ∃ (cs : List Int) (m : Int) (hs : List Hd) (x4 : Option W), cs.length ≤ cs0.length ∧ hs.map (·.1) = ns ∧ (∀ h ∈ hs, 1 ≤ h.2 ∧ h.2 ≤ great) ∧ sl = [some (.ptr (S.length + 1)), some (.dat (.int most)), some (.dat (.int many)), some (.dat (.int great)), x4, some (.dat (.lst (ns.map D.str))), some (.ptr (S.length + 2 + gs.length)), none, none, none, none] ∧ st = dst S (gs ++ .lst ((hs.map hdD).map W.dat) :: []) cs m) ?_ ?_
  · refine sw_for hp rfl ?_
    refine iw_list ?_
    refine ew_name 5 rfl ?_
    refine ⟨_, rfl, ?_⟩
    refine ⟨fun i sl st => ∃ (cs : List Int) (m : Int) (hs : List Hd) (x4 : Option W), cs.length ≤ cs0.length ∧ hs.map (·.1) = ns.take i ∧ (∀ h ∈ hs, 1 ≤ h.2 ∧ h.2 ≤ great) ∧ sl = [some (.ptr (S.length + 1)), some (.dat (.int most)), some (.dat (.int many)), some (.dat (.int great)), x4, some (.dat (.lst (ns.map D.str))), some (.ptr (S.length + 2 + gs.length)), none, none, none, none] ∧ st = dst S (gs ++ .lst ((hs.map hdD).map W.dat) :: []) cs m,
      ⟨cs2, m2, [], none, by omega, rfl, fun h hh => absurd hh List.not_mem_nil, rfl, rfl⟩, fun i w sl st hw hI => ?_, fun sl st hI => ?_⟩
    · obtain ⟨cs, m, hs, x4, hl, hns, htp, rfl, rfl⟩ := hI
      obtain ⟨d, hd, rfl⟩ := getElem?_mapW hw
      rw [List.getElem?_map] at hd
      obtain ⟨x, hx, rfl⟩ := Option.map_eq_some_iff.mp hd
      have hln : hs.length ≤ 16 := by
        have := congrArg List.length hns
        rw [List.length_map, List.length_take] at this
        omega
      refine gw_name 4 ?_ sc__law_system.nd
      show SW _ _ _ [some (.ptr (S.length + 1)), some (.dat (.int most)), some (.dat (.int many)), some (.dat (.int great)), some (.dat (.str x)), some (.dat (.lst (ns.map D.str))), some (.ptr (S.length + 2 + gs.length)), none, none, none, none] _ _
      refine sw_cons ?_
      refine sw_expr ?_
      refine ew_append ?_
      refine ew_name 6 rfl ?_
      refine ⟨_, _, rfl, eF _ _ _ _, ?_⟩
      refine ew_tup ?_
      refine aw_cons ?_
      refine ew_name 4 rfl ?_
      refine aw_cons ?_
      refine ew_bin ?_
      refine ew_int ?_
      refine ew_call C_draw hr (by decide) xk ?_
      refine aw_cons ?_
      refine ew_name 0 rfl ?_
      refine aw_cons ?_
      refine ew_name 3 rfl ?_
      refine aw_nil ?_
      refine ⟨S, _, cs, m, great, rfl, rfl, by omega, by omega, by omega, fun r cs' m' r0 r1 hl' => ?_⟩
      refine o_add ?_
      refine aw_nil ?_
      refine ⟨_, rfl, (by show 2 ≤ sizeLine; decide), ?_⟩
      refine ⟨_, eF _ _ _ _, szl (by rw [List.length_map, List.length_map]; omega), ?_⟩
      rw [sF]
      refine sw_nil ?_
      refine ⟨cs', m', hs ++ [(x, 1 + r)], _, by omega, nd_snoc2 nnd hns hx, fun h hh => ?_, rfl, by rw [List.map_append, List.map_append]; rfl⟩
      rcases List.mem_append.mp hh with h1 | h1
      · exact htp h h1
      · obtain rfl := List.mem_singleton.mp h1
        exact ⟨by show 1 ≤ 1 + r; omega, by show 1 + r ≤ great; omega⟩
    · obtain ⟨cs, m, hs, x4, hl, hns, htp, rfl, rfl⟩ := hI
      rw [List.length_map, List.length_map, List.take_length] at hns
      exact ⟨cs, m, hs, x4, hl, hns, htp, rfl, rfl⟩
  rintro sl st ⟨cs3, m3, hs, x4, hl3, hns, htp, rfl, rfl⟩
  have hhl : hs.length = ns.length := by rw [← hns, List.length_map]
  refine sw_frz 6 rfl (eF _ _ _ _) ?_ ?_
  · show Al.length ≤ _
    rw [hal, dst_len]
    omega
  rw [sF]
  show SW _ _ _ [some (.ptr (S.length + 1)), some (.dat (.int most)), some (.dat (.int many)), some (.dat (.int great)), x4, some (.dat (.lst (ns.map D.str))), some (.dat (.lst (hs.map hdD))), none, none, none, none] _ _
  refine sw_cons ?_
  refine sw_par 7 8 rfl ?_ sc__law_system.nd
  refine aw_cons ?_
  refine ew_bty (by rfl) hdct ?_
  refine aw_cons ?_
  refine ew_name 6 rfl ?_
  refine aw_nil ?_
  refine c_dictP (kvs := hs.map fun h => ((Sum.inr h.1 : Key), D.int h.2)) rfl (by rw [List.map_map]; rfl) ?_ ?_
  · rw [List.map_map]
    exact nodup_keys (f := fun h : Hd => h.1) (by rw [hns]; exact nnd)
  generalize hkv : (hs.map fun h => ((Sum.inr h.1 : Key), D.int h.2)) = kvs
  have hval : ∀ x a, (x, a) ∈ hs → valA kvs (.inr x) = some (.int a) := fun x a hx => by
    rw [← hkv]
    refine valA_of_mem ?_ (List.mem_map.mpr ⟨(x, a), hx, rfl⟩)
    rw [List.map_map]
    exact nodup_keys (f := fun h : Hd => h.1) (by rw [hns]; exact nnd)
  refine aw_cons ?_
  refine ew_lstM ?_
  refine aw_nil ?_
  refine ⟨Nat.zero_le _, ?_⟩
  rw [dst_app, dst_app, dst_len, dst_len]
  refine aw_nil ?_
  refine ⟨_, _, rfl, ?_⟩
  have l1 : (gs ++ [Ob.gone]).length = gs.length + 1 := by simp
  have l2 : ((gs ++ [Ob.gone]) ++ [Ob.dct (kvs.map fun p => (p.1, W.dat p.2))]).length = gs.length + 2 := by simp
  rw [l1, l2]
  have eq3 : ∀ fs : List W, gs ++ [Ob.gone] ++ [Ob.dct (kvs.map fun p => (p.1, W.dat p.2))] ++ [Ob.lst fs] = gs ++ ([Ob.gone, .dct (kvs.map fun p => (p.1, W.dat p.2)), .lst fs]) := fun fs => by simp
  rw [eq3]
  show SW _ _ _ [some (.ptr (S.length + 1)), some (.dat (.int most)), some (.dat (.int many)), some (.dat (.int great)), x4, some (.dat (.lst (ns.map D.str))), some (.dat (.lst (hs.map hdD))), some (.ptr (S.length + 2 + (gs.length + 1))), some (.ptr (S.length + 2 + (gs.length + 2))), none, none] _ _
  have eD : ∀ (fs : List W) (cs : List Int) (m : Int), (dst S (gs ++ ([Ob.gone, .dct (kvs.map fun p => (p.1, W.dat p.2)), .lst fs])) cs m)[S.length + 2 + (gs.length + 1)]? = some (.dct (kvs.map fun p => (p.1, W.dat p.2))) := fun fs cs m => by rw [dst_at]; simp
  have eT : ∀ (fs : List W) (cs : List Int) (m : Int), (dst S (gs ++ ([Ob.gone, .dct (kvs.map fun p => (p.1, W.dat p.2)), .lst fs])) cs m)[S.length + 2 + (gs.length + 2)]? = some (.lst fs) := fun fs cs m => by rw [dst_at]; simp
  have sT : ∀ (fs : List W) (o : Ob) (cs : List Int) (m : Int), (dst S (gs ++ ([Ob.gone, .dct (kvs.map fun p => (p.1, W.dat p.2)), .lst fs])) cs m).set (S.length + 2 + (gs.length + 2)) o = dst S (gs ++ ([Ob.gone, .dct (kvs.map fun p => (p.1, W.dat p.2)), o])) cs m := fun fs o cs m => by rw [dst_set]; simp
  refine sw_cut (fun sl st => ∃ (cs : List Int) (m : Int) (ts : List Ti) (x4 x9 x10 : Option W), cs.length ≤ cs0.length ∧ (ts.map (·.1)).Nodup ∧ (∀ t ∈ ts, t.1 ∈ NM16) ∧ (ts.length : Int) ≤ many ∧ (∀ t ∈ ts, TiOk hs t) ∧ sl = [some (.ptr (S.length + 1)), some (.dat (.int most)), some (.dat (.int many)), some (.dat (.int great)), x4, some (.dat (.lst (ns.map D.str))), some (.dat (.lst (hs.map hdD))), some (.ptr (S.length + 2 + (gs.length + 1))), some (.ptr (S.length + 2 + (gs.length + 2))), x9, x10] ∧ st = dst S (gs ++ ([Ob.gone, .dct (kvs.map fun p => (p.1, W.dat p.2)), .lst ((ts.map tiD).map W.dat)])) cs m) ?_ ?_
  · refine sw_for hp rfl ?_
    refine iw_list ?_
    refine ew_call C_names hr (by decide) xk ?_
    refine aw_cons ?_
    refine ew_name 0 rfl ?_
    refine aw_cons ?_
    refine ew_call C_draw hr (by decide) xk ?_
    refine aw_cons ?_
    refine ew_name 0 rfl ?_
    refine aw_cons ?_
    refine ew_bin ?_
    refine ew_name 2 rfl ?_
    refine ew_int ?_
    refine o_add ?_
    refine aw_nil ?_
    refine ⟨S, _, cs3, m3, _, rfl, rfl, by omega, by omega, by omega, fun r cs4 m4 r0 r1 hl4 => ?_⟩
    refine aw_nil ?_
    refine ⟨S, _, cs4, m4, _, rfl, rfl, by omega, by omega, fun ws cs5 m5 wnd win wln hl5 => ?_⟩
    refine ⟨_, rfl, ?_⟩
    refine ⟨fun i sl st => ∃ (cs : List Int) (m : Int) (ts : List Ti) (x4 x9 x10 : Option W), cs.length ≤ cs0.length ∧ ts.map (·.1) = ws.take i ∧ (∀ t ∈ ts, TiOk hs t) ∧ sl = [some (.ptr (S.length + 1)), some (.dat (.int most)), some (.dat (.int many)), some (.dat (.int great)), x4, some (.dat (.lst (ns.map D.str))), some (.dat (.lst (hs.map hdD))), some (.ptr (S.length + 2 + (gs.length + 1))), some (.ptr (S.length + 2 + (gs.length + 2))), x9, x10] ∧ st = dst S (gs ++ ([Ob.gone, .dct (kvs.map fun p => (p.1, W.dat p.2)), .lst ((ts.map tiD).map W.dat)])) cs m,
      ⟨cs5, m5, [], x4, none, none, by omega, rfl, fun t ht => absurd ht List.not_mem_nil, rfl, rfl⟩, fun i w sl st hw hI => ?_, fun sl st hI => ?_⟩
    · obtain ⟨cs, m, ts, x4, x9, x10, hl, hts, hok, rfl, rfl⟩ := hI
      obtain ⟨d, hd, rfl⟩ := getElem?_mapW hw
      rw [List.getElem?_map] at hd
      obtain ⟨x, hx, rfl⟩ := Option.map_eq_some_iff.mp hd
      have htl : ts.length ≤ 16 := by
        have := congrArg List.length hts
        rw [List.length_map, List.length_take] at this
        omega
      have pickd : ∀ y : D, y ∈ ns.map D.str → ∃ z a, y = .str z ∧ (z, a) ∈ hs := fun y hy => by
        obtain ⟨z, hz, rfl⟩ := List.mem_map.mp hy
        rw [← hns] at hz
        obtain ⟨h, hh, rfl⟩ := List.mem_map.mp hz
        exact ⟨h.1, h.2, rfl, hh⟩
      refine gw_name 4 ?_ sc__law_system.nd
      refine sw_cons ?_
      refine sw_par 9 10 rfl ?_ sc__law_system.nd
      refine aw_cons ?_
      refine ew_call C_pick hr (by decide) xk ?_
      refine aw_cons ?_
      refine ew_name 0 rfl ?_
      refine aw_cons ?_
      refine ew_name 5 rfl ?_
      refine aw_nil ?_
      refine ⟨S, _, cs, m, _, rfl, rfl, by omega, by rw [List.length_map]; omega, by rw [List.length_map]; omega, fun y cs6 m6 hy hl6 => ?_⟩
      obtain ⟨z1, a1, rfl, hz1⟩ := pickd y hy
      refine aw_cons ?_
      refine ew_call C_pick hr (by decide) xk ?_
      refine aw_cons ?_
      refine ew_name 0 rfl ?_
      refine aw_cons ?_
      refine ew_name 5 rfl ?_
      refine aw_nil ?_
      refine ⟨S, _, cs6, m6, _, rfl, rfl, by omega, by rw [List.length_map]; omega, by rw [List.length_map]; omega, fun y cs7 m7 hy hl7 => ?_⟩
      obtain ⟨z2, a2, rfl, hz2⟩ := pickd y hy
      refine aw_nil ?_
      refine ⟨_, _, rfl, ?_⟩
      show SW _ _ _ [some (.ptr (S.length + 1)), some (.dat (.int most)), some (.dat (.int many)), some (.dat (.int great)), some (.dat (.str x)), some (.dat (.lst (ns.map D.str))), some (.dat (.lst (hs.map hdD))), some (.ptr (S.length + 2 + (gs.length + 1))), some (.ptr (S.length + 2 + (gs.length + 2))), some (.dat (.str z1)), some (.dat (.str z2))] _ _
      have look : ∀ {x : Str} {a : Int} {fs : List W} {cs : List Int} {m : Int}, (x, a) ∈ hs → DLook (dst S (gs ++ ([Ob.gone, .dct (kvs.map fun p => (p.1, W.dat p.2)), .lst fs])) cs m) (.ptr (S.length + 2 + (gs.length + 1))) (.dat (.str x)) (some (.dat (.int a))) := fun {x a fs cs m} hx => by
        have z := DLook.k (eD fs cs m) (k := .dat (.str x)) rfl
        rw [valA_map, hval x a hx] at z
        exact z
      refine sw_cons ?_
      refine sw_expr ?_
      refine ew_append ?_
      refine ew_name 8 rfl ?_
      refine ⟨_, _, rfl, eT _ _ _, ?_⟩
      refine ew_tup ?_
      refine aw_cons ?_
      refine ew_name 4 rfl ?_
      refine aw_cons ?_
      refine ew_name 9 rfl ?_
      refine aw_cons ?_
      refine ew_name 10 rfl ?_
      refine aw_cons ?_
      refine ew_call C_map hr (by decide) xk ?_
      refine aw_cons ?_
      refine ew_name 0 rfl ?_
      refine aw_cons ?_
      refine ew_dget hr ?_
      refine ew_name 7 rfl ?_
      refine ew_name 9 rfl ?_
      refine ⟨_, look hz1, ?_⟩
      refine aw_cons ?_
      refine ew_dget hr ?_
      refine ew_name 7 rfl ?_
      refine ew_name 10 rfl ?_
      refine ⟨_, look hz2, ?_⟩
      refine aw_nil ?_
      have t1 := htp _ hz1
      have t2 := htp _ hz2
      dsimp only at t1 t2
      refine ⟨S, _, cs7, m7, a1, a2, rfl, rfl, by omega, by omega, by omega, by omega, by omega, fun zs cs8 m8 hT hzl hl8 => ?_⟩
      refine aw_nil ?_
      refine ⟨_, rfl, (by show 4 ≤ sizeLine; decide), ?_⟩
      refine ⟨_, eT _ _ _, szl (by rw [List.length_map, List.length_map]; omega), ?_⟩
      rw [sT]
      refine sw_nil ?_
      refine ⟨cs8, m8, ts ++ [(x, z1, z2, zs)], _, _, _, by omega, nd_snoc2 wnd hts hx, fun t ht => ?_, rfl, by rw [List.map_append, List.map_append]; rfl⟩
      rcases List.mem_append.mp ht with h1 | h1
      · exact hok t h1
      · obtain rfl := List.mem_singleton.mp h1
        exact ⟨a1, a2, hz1, hz2, hT, hzl⟩
    · obtain ⟨cs, m, ts, x4, x9, x10, hl, hts, hok, rfl, rfl⟩ := hI
      rw [List.length_map, List.length_map, List.take_length] at hts
      refine ⟨cs, m, ts, x4, x9, x10, hl, by rw [hts]; exact wnd, fun t ht => win _ (by rw [← hts]; exact List.mem_map.mpr ⟨t, ht, rfl⟩), ?_, hok, rfl, rfl⟩
      have := congrArg List.length hts
      rw [List.length_map] at this
      rw [this, wln]
      omega
  rintro sl st ⟨cs, m, ts, x4, x9, x10, hl, tnd, tnm, tln, tok, rfl, rfl⟩
  refine sw_frz 8 rfl (eT _ _ _) ?_ ?_
  · show Al.length ≤ _
    rw [hal, dst_len]
    omega
  rw [sT]
  refine sw_cons ?_
  refine sw_ret ?_
  refine ew_tup ?_
  refine aw_cons ?_
  refine ew_name 6 rfl ?_
  refine aw_cons ?_
  refine ew_name 8 rfl ?_
  refine aw_nil ?_
  refine ⟨_, rfl, (by show 2 ≤ sizeLine; decide), ?_⟩
  refine krE_dstA hcl (q hs ts cs m ⟨?_, by rw [hns]; exact nnd, fun h hh => nin _ (by rw [← hns]; exact List.mem_map.mpr ⟨h, hh, rfl⟩), htp, by omega, tnd, tnm, tok, tln⟩ hl)
  intro e
  rw [e] at hhl
  simp at hhl
  omega
end Kf
namespace Kf
open PySem PySem.Spec L2 StX ClX Dn
open PyProof.Rows hiding St
variable {P : Program} {w : World} {K : PySem.W.Frag} {mg : Str → Option Value} {base : Heap}
inductive Way (ls : List Lk) : Str → Int → Str → Int → Prop
  | refl (s : Str) (x : Int) : Way ls s x s x
  | step {s : Str} {x : Int} {a : Str} {u : Int} {l : Lk} : Way ls s x a u → l ∈ ls → l.src = a → Way ls s x l.tgt (l.F u)
theorem Way.trans {ls : List Lk} {s : Str} {x : Int} {a : Str} {u : Int} {t : Str} {y : Int} (h : Way ls s x a u) (h2 : Way ls a u t y) : Way ls s x t y := by
  induction h2 with
  | refl => exact h
  | step _ hl e ih => exact .step ih hl e
theorem incr_len : ∀ (ys : List Int) (a t : Int), ys.Pairwise (· < ·) → (∀ y ∈ ys, a ≤ y ∧ y ≤ t) → (ys.length : Int) ≤ max 0 (t - a + 1)
  | [], a, t, _, _ => by simp only [List.length_nil]; omega
  | y :: ys, a, t, h, hb => by
    have h1 := List.pairwise_cons.mp h
    have := incr_len ys (a + 1) t h1.2 fun z hz => by
      have := h1.1 z hz; have := hb y (List.mem_cons_self ..); have := hb z (List.mem_cons_of_mem _ hz); omega
    have := hb y (List.mem_cons_self ..)
    simp only [List.length_cons]; omega
theorem IsP.short {C : Addr} {t g : Int} {F : Int → Int} {M N : Nat} {d : D} (h : IsP C t g F M d) (ht : 0 ≤ t) (hN : t < N) : IsP C t g F N d := by
  refine ⟨h.1, h.2.1, h.2.2.1, h.2.2.2.1, ?_⟩
  have := incr_len _ 0 t h.2.1.2.1 h.2.1.2.2
  rw [List.length_map] at this
  omega
theorem IsP.good {C : Addr} {t g : Int} {F : Int → Int} {M : Nat} {d : D} (h : IsP C t g F M d) : Good F t g := h.2.2.2.1
abbrev Tb := List (List Key × D)
def tbW (kvs : Tb) : List (List Key × W) := kvs.map fun p => (p.1, W.dat p.2)
theorem tbW_val (kvs : Tb) (k : List Key) : valA (tbW kvs) k = (valA kvs k).map W.dat := valA_map W.dat kvs k
def tpA (ss : List Sc) (x : Str) : Int := ((ss.find? fun s => decide (s.nm = x)).map (·.top)).getD 0
theorem tpA_mem {ss : List Sc} {s : Sc} (hn : (ss.map (·.nm)).Nodup) (h : s ∈ ss) : tpA ss s.nm = s.top := by
  induction ss with
  | nil => cases h
  | cons a ss ih =>
    have hn' := List.nodup_cons.mp hn
    unfold tpA
    rcases List.mem_cons.mp h with rfl | h
    · rw [List.find?_cons_of_pos (by simp)]; rfl
    · by_cases e : a.nm = s.nm
      · exact absurd (show a.nm ∈ ss.map (·.nm) by rw [e]; exact List.mem_map_of_mem (f := fun s : Sc => s.nm) h) hn'.1
      · rw [List.find?_cons_of_neg (by simpa using e)]
        exact ih hn'.2 h
structure SyOk (C : Addr) (N : Nat) (ss : List Sc) (ls : List Lk) : Prop where
  sc : ScsOk ss
  lk : LksOk ss ls
  tp : ∀ s ∈ ss, 0 ≤ s.top ∧ s.top < N
  ps : ∀ l ∈ ls, IsP C l.t l.g l.F N (psgD C l.t l.g (nf l.F l.t))
  n100 : N ≤ 100
variable {C : Addr} {N : Nat} {ss : List Sc} {ls : List Lk} {up : Bool}
theorem SyOk.rng (h : SyOk C N ss ls) {s : Str} (hs : s ∈ ss.map (·.nm)) : 0 ≤ tpA ss s ∧ tpA ss s < N := by
  obtain ⟨a, ha, rfl⟩ := List.mem_map.mp hs
  rw [tpA_mem h.sc.2.2 ha]; exact h.tp a ha
theorem SyOk.at (h : SyOk C N ss ls) {x : Str} {t : Int} (e : ScOf ss x t) : x ∈ ss.map (·.nm) ∧ tpA ss x = t := by
  obtain ⟨s, hs, rfl, rfl⟩ := e
  exact ⟨List.mem_map_of_mem hs, tpA_mem h.sc.2.2 hs⟩
theorem SyOk.link (h : SyOk C N ss ls) {l : Lk} (hl : l ∈ ls) : (l.src ∈ ss.map (·.nm) ∧ tpA ss l.src = l.t) ∧ (l.tgt ∈ ss.map (·.nm) ∧ tpA ss l.tgt = l.g) := ⟨h.at (h.lk.2.2 l hl).1, h.at (h.lk.2.2 l hl).2⟩
theorem Way.rng (h : SyOk C N ss ls) {s t : Str} {x y : Int} (w : Way ls s x t y) (hs : s ∈ ss.map (·.nm)) (x0 : 0 ≤ x) (x1 : x ≤ tpA ss s) : t ∈ ss.map (·.nm) ∧ 0 ≤ y ∧ y ≤ tpA ss t := by
  induction w with
  | refl => exact ⟨hs, x0, x1⟩
  | @step a u l _ hl e ih =>
    subst e
    have q := h.link hl
    have g := (h.ps l hl).good
    have u0 := ih.2.1
    have u1 := ih.2.2
    rw [q.1.2] at u1
    exact ⟨q.2.1, g.nn u0 u1, by rw [q.2.2]; exact g.ub u0 u1⟩
theorem putA_nodup {κ α : Type} [DecidableEq κ] {kvs : List (κ × α)} (h : (kvs.map (·.1)).Nodup) {k : κ} {v : α} : ((putA kvs k v).map (·.1)).Nodup := by
  rw [putA_keys]
  split
  · exact h
  · rename_i e
    have hn : k ∉ kvs.map (·.1) := fun hk => by
      obtain ⟨p, hp, rfl⟩ := List.mem_map.mp hk
      exact e (by rw [valA_of_mem h (v := p.2) hp]; rfl)
    rw [List.nodup_append]
    exact ⟨h, by simp, fun a ha b hb => by
      rw [List.mem_singleton.mp hb]; exact fun e => hn (e ▸ ha)⟩
theorem putA_map {κ α β : Type} [DecidableEq κ] (f : α → β) (kvs : List (κ × α)) (k : κ) (v : α) : putA (kvs.map fun p => (p.1, f p.2)) k (f v) = (putA kvs k v).map fun p => (p.1, f p.2) := by
  unfold putA
  have e : ((kvs.map fun p => (p.1, f p.2)).any fun kv => decide (kv.1 = k)) = (kvs.any fun kv => decide (kv.1 = k)) := by
    rw [List.any_map]; rfl
  rw [e]
  split
  · rw [List.map_map, List.map_map]
    refine List.map_congr_left fun p _ => ?_
    show (if p.1 = k then (p.1, f v) else (p.1, f p.2)) = ((if p.1 = k then (p.1, v) else p).1, f (if p.1 = k then (p.1, v) else p).2)
    split <;> rfl
  · rw [List.map_append]; rfl
theorem tbW_put (kvs : Tb) (k : List Key) (d : D) : putA (tbW kvs) k (W.dat d) = tbW (putA kvs k d) := putA_map W.dat kvs k d
end Kf
namespace Kf
open PySem PySem.Spec L2 StX ClX Dn
open PyProof.Rows hiding St
variable {P : Program} {w : World} {K : PySem.W.Frag} {mg : Str → Option Value} {base : Heap}
def F_lpof (C : Addr) : FT := fun args st Ret _ => ∃ (zs : List Int) (g : Int), args = [.dat (.tup (zs.map D.int)), .dat (.int g)] ∧ TabZ g zs ∧ 0 ≤ g ∧ 0 < zs.length ∧ zs.length ≤ 1000 ∧ ∀ d, IsP C ((zs.length : Int) - 1) g (tabF zs) zs.length d → Ret (.dat d) st
theorem ok_lpof {f C CE : Addr} {fd : FuncData} (B : Bl mg) (gP : mg "Passage" = some (.ref C)) (C_table : CMt P w K mg base 6 C "table" (F_table C CE)) (Fn : Fun K "_law_passage_of" "_law_passage_of" s__law_passage_of f fd) (b : Binds K fd p__law_passage_of []) : FnG P w K mg base (L2.CX P w) 7 f (spD K (F_lpof C)) := by
  refine fnD Fn sc__law_passage_of b (fun args st0 Ret Exc h => ?_) ?_
  · obtain ⟨zs, g, rfl, _⟩ := h
    rfl
  intro cdv A outer s H E H0 Al args st0 Ret Exc hr xk hp hal hcl hF
  obtain ⟨zs, g, rfl, ht, hg, hl, hl2, q⟩ := hF
  refine sw_cons ?_
  refine sw_ret ?_
  refine ew_cmeth C_table hr (by decide) xk ?_
  refine ew_gadr (by rfl) gP ?_
  refine ⟨rfl, ?_⟩
  refine aw_cons ?_
  refine ew_bty bt_list B.list ?_
  refine aw_cons ?_
  refine ew_name 0 rfl ?_
  refine aw_nil ?_
  refine c_listD (.inr rfl) ?_
  refine aw_cons ?_
  refine ew_name 1 rfl ?_
  refine aw_nil ?_
  have hT := isTable_tabZ ht (fun e => by rw [e] at hl; exact absurd hl (by decide)) (d := .lst (zs.map D.int)) rfl
  refine ⟨_, _, rfl, ⟨_, rfl⟩, fun xs e => ?_, ⟨_, rfl⟩, fun z => ?_, fun g' e h0 => ⟨fun z => ?_, fun _ xs e2 => ?_⟩⟩
  · cases e
    refine ⟨by rw [List.length_map]; exact hl2, fun x hx => ?_⟩
    obtain ⟨z, _, rfl⟩ := List.mem_map.mp hx
    exact ⟨_, rfl⟩
  · have z : decide (0 ≤ g) = false := z
    rw [decide_eq_true hg] at z
    cases z
  · cases e
    rw [hT] at z
    cases z
  · cases e
    cases e2
    exact krE_of hcl (q _ (tab_isP ht hg hl))
def tpH (hs : List Hd) (x : Str) : Int := ((hs.find? fun h => decide (h.1 = x)).map (·.2)).getD 0
def scOf (h : Hd) : Sc := ⟨h.1, h.2, []⟩
def lkOf (hs : List Hd) (t : Ti) : Lk := ⟨t.1, t.2.1, t.2.2.1, (t.2.2.2.length : Int) - 1, tpH hs t.2.2.1, tabF t.2.2.2⟩
theorem tpH_mem {hs : List Hd} {x : Str} {a : Int} (hn : (hs.map (·.1)).Nodup) (h : (x, a) ∈ hs) : tpH hs x = a := by
  induction hs with
  | nil => cases h
  | cons b hs ih =>
    have hn' := List.nodup_cons.mp hn
    unfold tpH
    rcases List.mem_cons.mp h with rfl | h
    · rw [List.find?_cons_of_pos (by simp)]; rfl
    · by_cases e : b.1 = x
      · exact absurd (show b.1 ∈ hs.map (·.1) by rw [e]; exact List.mem_map_of_mem (f := fun s : Hd => s.1) h) hn'.1
      · rw [List.find?_cons_of_neg (by simpa using e)]
        exact ih hn'.2 h
theorem nm_scOf (hs : List Hd) : (hs.map scOf).map (·.nm) = hs.map (·.1) := by rw [List.map_map]; rfl
theorem tpA_scOf {hs : List Hd} {x : Str} {a : Int} (hn : (hs.map (·.1)).Nodup) (h : (x, a) ∈ hs) : tpA (hs.map scOf) x = a := by
  have := tpA_mem (ss := hs.map scOf) (s := scOf (x, a)) (by rw [nm_scOf]; exact hn) (List.mem_map_of_mem h)
  exact this
theorem sy_of {C : Addr} {N : Nat} {most many great : Int} {hs : List Hd} {ts : List Ti} (T : TolOk most many great hs ts) (hm : most ≤ 16) (hn : many ≤ 16) (hg : great < N) (h100 : N ≤ 100) : SyOk C N (hs.map scOf) (ts.map (lkOf hs)) := by
  have fin : ∀ x a, (x, a) ∈ hs → ScOf (hs.map scOf) x a := fun x a h => ⟨scOf (x, a), List.mem_map_of_mem h, rfl, rfl⟩
  refine ⟨⟨fun e => T.ne (List.map_eq_nil_iff.mp e), ?_, ?_⟩, ⟨?_, ?_, fun l hl => ?_⟩, fun s hs' => ?_, fun l hl => ?_, h100⟩
  · have := T.ln
    rw [List.length_map]; omega
  · rw [nm_scOf]; exact T.nd
  · rw [List.map_map]; exact T.nd2
  · have := T.ln2
    rw [List.length_map]; omega
  · obtain ⟨t, ht, rfl⟩ := List.mem_map.mp hl
    obtain ⟨a, b, h1, h2, h3, h4⟩ := T.ok t ht
    refine ⟨fin _ _ (by rw [show (lkOf hs t).t = a by show (t.2.2.2.length : Int) - 1 = a; omega]; exact h1), fin _ _ ?_⟩
    rw [show (lkOf hs t).g = b from tpH_mem T.nd h2]; exact h2
  · obtain ⟨h, hh, rfl⟩ := List.mem_map.mp hs'
    have := T.tp h hh
    exact ⟨by show 0 ≤ h.2; omega, by show h.2 < N; omega⟩
  · obtain ⟨t, ht, rfl⟩ := List.mem_map.mp hl
    obtain ⟨a, b, h1, h2, h3, h4⟩ := T.ok t ht
    have ha := T.tp _ h1
    have hb := T.tp _ h2
    have ha : 1 ≤ a ∧ a ≤ great := ha
    have hb : 1 ≤ b ∧ b ≤ great := hb
    have e : (lkOf hs t).g = b := tpH_mem T.nd h2
    have p := tab_isP (C := C) h3 (by omega) (by omega)
    rw [e]
    have p' : IsP C ((t.2.2.2.length : Int) - 1) b (tabF t.2.2.2) N _ := p.mono (by omega)
    exact ⟨rfl, p'.2.1, p'.2.2.1, p'.2.2.2.1, p'.2.2.2.2⟩
def F_lsysof (CY CS CL C : Addr) : FT := fun args st Ret _ => ∃ (most many great : Int) (hs : List Hd) (ts : List Ti), args = [.dat (tolD hs ts)] ∧ TolOk most many great hs ts ∧ most ≤ 16 ∧ many ≤ 16 ∧ great ≤ 90 ∧ Ret (.dat (syD CY CS CL C (hs.map scOf) (ts.map (lkOf hs)))) st
theorem ok_lsysof {f CY CS CL C : Addr} {fd : FuncData} (hdct : mg "dict" = none) (M_sc : Mak P w K mg base 3 "Scale" CS (fun args st Ret Exc => F_scinit0 CS (args ++ [.dat (.tup [])]) st Ret Exc)) (M_lk : Mak P w K mg base 2 "Link" CL (F_lkinit0 CL C)) (M_sy : Mak P w K mg base 3 "System" CY (F_syinit0 CY CS CL C)) (C_lpof : Cal P w K mg base 7 "_law_passage_of" (F_lpof C))
    (Fn : Fun K "_law_system_of" "_law_system_of" s__law_system_of f fd) (b : Binds K fd p__law_system_of []) : FnG P w K mg base (L2.CX P w) 8 f (spD K (F_lsysof CY CS CL C)) := by
  refine fnD Fn sc__law_system_of b (fun args st0 Ret Exc h => ?_) ?_
  · obtain ⟨most, many, great, hs, ts, rfl, _⟩ := h
    rfl
  intro cdv A outer s H E H0 Al args st0 Ret Exc hr xk hp hal hcl hF
  obtain ⟨most, many, great, hs, ts, rfl, T, hm1, hm2, hg, q⟩ := hF
  have S := sy_of (C := C) (N := 91) T hm1 hm2 (by omega) (by omega)
  have ln := T.ln
  have ln2 := T.ln2
  refine sw_cons ?_
  refine sw_asg ?_
  refine ew_name 0 rfl ?_
  refine gw_tup rfl ?_
  refine gs_cons ?_
  refine gw_name 3 ?_ sc__law_system_of.nd
  refine gs_cons ?_
  refine gw_name 4 ?_ sc__law_system_of.nd
  refine gs_nil ?_
  show SW _ _ _ [some (.dat (tolD hs ts)), none, none, some (.dat (.lst (hs.map hdD))), some (.dat (.lst (ts.map tiD))), none, none, none, none, none] _ _
  refine sw_cons ?_
  refine sw_asg ?_
  refine ew_bty (by rfl) hdct ?_
  refine aw_cons ?_
  refine ew_name 3 rfl ?_
  refine aw_nil ?_
  refine c_dictP (kvs := hs.map fun h => ((Sum.inr h.1 : Key), D.int h.2)) rfl (by rw [List.map_map]; rfl) ?_ ?_
  · rw [List.map_map]
    exact nodup_keys (f := fun h : Hd => h.1) T.nd
  refine gw_name 1 ?_ sc__law_system_of.nd
  generalize hkv : (hs.map fun h => ((Sum.inr h.1 : Key), D.int h.2)) = kvs
  have hval : ∀ x a, (x, a) ∈ hs → valA kvs (.inr x) = some (.int a) := fun x a hx => by
    rw [← hkv]
    refine valA_of_mem ?_ (List.mem_map.mpr ⟨(x, a), hx, rfl⟩)
    rw [List.map_map]
    exact nodup_keys (f := fun h : Hd => h.1) T.nd
  show SW _ _ _ [some (.dat (tolD hs ts)), some (.ptr st0.length), none, some (.dat (.lst (hs.map hdD))), some (.dat (.lst (ts.map tiD))), none, none, none, none, none] (st0 ++ [.dct (kvs.map fun p => (p.1, W.dat p.2))]) _
  refine sw_frzK (kvs := kvs) 1 rfl (by simp) ?_ ?_
  · show Al.length ≤ _
    omega
  rw [List.set_append_right _ _ (Nat.le_refl _), Nat.sub_self]
  show SW _ _ _ [some (.dat (tolD hs ts)), some (.dat (.dk kvs)), none, some (.dat (.lst (hs.map hdD))), some (.dat (.lst (ts.map tiD))), none, none, none, none, none] (st0 ++ [.gone]) _
  have hcl2 : Clos (st0 ++ [.gone]) := clos_add hcl trivial
  refine sw_cons ?_
  refine sw_setLc 2 (own := [("_law_word", 5), ("_law_first", 6), ("_law_last", 7), ("_law_told", 8)]) (tb := true) (is := [5, 6, 7, 8]) rfl sc__law_system_of.nd rfl (sw_true rfl rfl rfl (by decide +kernel)) (blkOk_by (N := n__law_system_of) (sc := defScope s__law_system_of) (by decide +kernel)) (fun _ _ _ _ _ => pg_tup rfl (pgs_cons (pg_name (i := 5) sc__law_system_of.nd rfl (Or.inl rfl)) (pgs_cons (pg_name (i := 6) sc__law_system_of.nd rfl (Or.inl rfl)) (pgs_cons (pg_name (i := 7) sc__law_system_of.nd rfl (Or.inl rfl)) (pgs_cons (pg_name (i := 8) sc__law_system_of.nd rfl (Or.inl rfl)) pgs_nil))))) (by decide) ?_
  refine lcj_map ts tiD (fun t => lkD CL C (lkOf hs t)) (szl (by omega)) ?_ ?_ ?_
  · refine iw_list ?_
    refine ew_name 4 rfl ?_
    exact ⟨_, rfl, rfl, rfl⟩
  · intro t ht
    obtain ⟨a, c, h1, h2, h3, h4⟩ := T.ok t ht
    have ha : 1 ≤ a ∧ a ≤ great := T.tp _ h1
    have hc : 1 ≤ c ∧ c ≤ great := T.tp _ h2
    refine ⟨_, rfl, fun G1 sb Hb Cb cl fp => ?_⟩
    refine ew_mk M_lk hr (by decide) xok_false ?_
    refine aw_cons ?_
    refine ew_name 5 rfl ?_
    refine aw_cons ?_
    refine ew_name 6 rfl ?_
    refine aw_cons ?_
    refine ew_name 7 rfl ?_
    refine aw_cons ?_
    refine ew_call C_lpof hr (by decide) xok_false ?_
    refine aw_cons ?_
    refine ew_name 8 rfl ?_
    refine aw_cons ?_
    refine ew_dget hr ?_
    refine ew_name 1 rfl ?_
    refine ew_name 7 rfl ?_
    refine ⟨_, by have := DLook.dk (st := st0 ++ [.gone]) (kvs := kvs) (k := W.dat (.str t.2.2.1)) rfl; rw [hval _ _ h2] at this; exact this, ?_⟩
    refine aw_nil ?_
    refine ⟨_, _, rfl, h3, by omega, by omega, by omega, fun d hd => ?_⟩
    refine aw_nil ?_
    refine ⟨(st0 ++ [Ob.gone]).length, lkOf hs t, ?_, by simp, (nm16_ok _ (T.nm2 t ht)).1, (nm16_ok _ (T.nm _ h1)).1, (nm16_ok _ (T.nm _ h2)).1, ?_⟩
    · rw [hd.1]
      show _ = [_, _, _, _, W.dat (psgD C ((t.2.2.2.length : Int) - 1) (tpH hs t.2.2.1) _)]
      rw [tpH_mem T.nd h2]
      rfl
    exact ⟨rfl, st0 ++ [.gone], lkF C (lkOf hs t), by rw [List.set_append_right _ _ (Nat.le_refl _), Nat.sub_self]; rfl, rfl, hcl2, rfl, rfl⟩
  show SW _ _ _ [some (.dat (tolD hs ts)), some (.dat (.dk kvs)), some (.dat (.lst (ts.map fun t => lkD CL C (lkOf hs t)))), some (.dat (.lst (hs.map hdD))), some (.dat (.lst (ts.map tiD))), none, none, none, none, none] (st0 ++ [.gone]) _
  refine sw_cons ?_
  refine sw_ret ?_
  refine ew_mk M_sy hr (by decide) xk ?_
  refine aw_cons ?_
  refine ew_lc (own := [("_law_word", 5), ("_law_top", 9)]) (tb := true) (is := [5, 9]) rfl sc__law_system_of.nd (blkOk_by (N := n__law_system_of) (sc := defScope s__law_system_of) (by decide +kernel)) (fun _ _ _ _ _ => pg_tup rfl (pgs_cons (pg_name (i := 5) sc__law_system_of.nd rfl (Or.inl rfl)) (pgs_cons (pg_name (i := 9) sc__law_system_of.nd rfl (Or.inl rfl)) pgs_nil))) (by decide) ?_
  refine lcj_map hs hdD (fun h => scD CS (scOf h)) (szl (by omega)) ?_ ?_ ?_
  · refine iw_list ?_
    refine ew_name 3 rfl ?_
    exact ⟨_, rfl, rfl, rfl⟩
  · intro h hh
    have := T.tp h hh
    refine ⟨_, rfl, fun G1 sb Hb Cb cl fp => ?_⟩
    refine ew_mk M_sc hr (by decide) xok_false ?_
    refine aw_cons ?_
    refine ew_name 5 rfl ?_
    refine aw_cons ?_
    refine ew_name 9 rfl ?_
    refine aw_nil ?_
    refine ⟨_, h.1, h.2, rfl, by simp, (nm16_ok _ (T.nm h hh)).1, by omega, ?_⟩
    exact ⟨rfl, st0 ++ [.gone], scF (scOf h), by rw [List.set_append_right _ _ (Nat.le_refl _), Nat.sub_self]; rfl, rfl, hcl2, rfl, rfl⟩
  refine aw_cons ?_
  refine ew_name 2 rfl ?_
  refine aw_nil ?_
  refine ⟨_, _, _, hs.map scOf, ts.map (lkOf hs), rfl, by simp, .inl (by rw [List.map_map]; rfl), .inl (by rw [List.map_map]; rfl), S.sc, S.lk, ?_⟩
  refine ⟨rfl, st0 ++ [.gone], _, by rw [List.set_append_right _ _ (Nat.le_refl _), Nat.sub_self]; rfl, rfl, hcl2, ?_⟩
  exact krE_app hcl q
end Kf
namespace Kf
open PySem PySem.Spec L2 StX ClX Dn
open PyProof.Rows hiding St
variable {P : Program} {w : World} {K : PySem.W.Frag} {mg : Str → Option Value} {base : Heap}
def kS (q : Str × Int) : List Key := [.inr q.1, .inl q.2]
def stD (q : Str × Int) : D := .tup [.str q.1, .int q.2]
theorem keyT_stD (q : Str × Int) : keyT (.dat (stD q)) = some (kS q) := rfl
theorem kS_inj {a b : Str × Int} (h : kS a = kS b) : a = b := by
  obtain ⟨a1, a2⟩ := a
  obtain ⟨b1, b2⟩ := b
  simpa [kS] using h
structure BF (ls : List Lk) (s : Str) (x : Int) (qs : List (Str × Int)) (kvs : Tb) : Prop where
  keys : kvs.map (·.1) = qs.map kS
  vals : ∀ p ∈ kvs, ∃ z, p.2 = .int z
  nd : qs.Nodup
  reach : ∀ q ∈ qs, Way ls s x q.1 q.2
  beg : (s, x) ∈ qs
theorem valA_some {κ α : Type} [DecidableEq κ] {kvs : List (κ × α)} {k : κ} : (valA kvs k).isSome = true ↔ k ∈ kvs.map (·.1) := by
  cases h : valA kvs k with
  | none =>
    refine ⟨fun z => (nomatch z), fun hk => ?_⟩
    obtain ⟨p, hp, rfl⟩ := List.mem_map.mp hk
    exact absurd hp (valA_none.mp h p.2)
  | some v => exact ⟨fun _ => List.mem_map.mpr ⟨_, valA_mem h, rfl⟩, fun _ => rfl⟩
theorem BF.has {ls : List Lk} {s : Str} {x : Int} {qs : List (Str × Int)} {kvs : Tb} (h : BF ls s x qs kvs) (q : Str × Int) : (valA kvs (kS q)).isSome = decide (q ∈ qs) := by
  have e : (valA kvs (kS q)).isSome = true ↔ q ∈ qs := by
    rw [valA_some, h.keys, List.mem_map]
    exact ⟨fun ⟨a, ha, e⟩ => kS_inj e ▸ ha, fun hq => ⟨q, hq, rfl⟩⟩
  by_cases hq : q ∈ qs
  · rw [decide_eq_true hq]; exact e.mpr hq
  · rw [decide_eq_false hq]
    cases z : (valA kvs (kS q)).isSome with
    | false => rfl
    | true => exact absurd (e.mp z) hq
theorem BF.val {ls : List Lk} {s : Str} {x : Int} {qs : List (Str × Int)} {kvs : Tb} (h : BF ls s x qs kvs) {q : Str × Int} (hq : q ∈ qs) : ∃ z, valA kvs (kS q) = some (.int z) := by
  have := h.has q
  rw [decide_eq_true hq] at this
  obtain ⟨d, hd⟩ := Option.isSome_iff_exists.mp this
  obtain ⟨z, hz⟩ := h.vals _ (valA_mem hd)
  exact ⟨z, by rw [hd]; exact congrArg some hz⟩
theorem BF.add {ls : List Lk} {s : Str} {x : Int} {qs : List (Str × Int)} {kvs : Tb} (h : BF ls s x qs kvs) {q : Str × Int} (hq : q ∉ qs) (w : Way ls s x q.1 q.2) (z : Int) : BF ls s x (qs ++ [q]) (putA kvs (kS q) (.int z)) := by
  have e : valA kvs (kS q) = none := by
    have := h.has q
    rw [decide_eq_false hq] at this
    exact Option.isSome_eq_false_iff.mp this |> Option.isNone_iff_eq_none.mp
  rw [putA_new _ e]
  refine ⟨by rw [List.map_append, List.map_append, h.keys]; rfl, fun p hp => ?_, ?_, fun p hp => ?_, List.mem_append.mpr (.inl h.beg)⟩
  · rcases List.mem_append.mp hp with a | a
    · exact h.vals p a
    · obtain rfl := List.mem_singleton.mp a
      exact ⟨z, rfl⟩
  · rw [List.nodup_append]
    exact ⟨h.nd, by simp, fun a ha b hb => by rw [List.mem_singleton.mp hb]; exact fun e => hq (e ▸ ha)⟩
  · rcases List.mem_append.mp hp with a | a
    · exact h.reach p a
    · obtain rfl := List.mem_singleton.mp a
      exact w
theorem BF.len {C : Addr} {N : Nat} {ss : List Sc} {ls : List Lk} {s : Str} {x : Int} {qs : List (Str × Int)} {kvs : Tb} (S : SyOk C N ss ls) (h : BF ls s x qs kvs) (hs : s ∈ ss.map (·.nm)) (x0 : 0 ≤ x) (x1 : x ≤ tpA ss s) : qs.length ≤ ss.length * N := by
  have h := h.nd.length_le_of_subset (l₂ := (ss.map (·.nm)).flatMap fun s => (List.range N).map fun i : Nat => (s, (i : Int))) fun q hq => by
    have r := (h.reach q hq).rng S hs x0 x1
    have rg := S.rng r.1
    exact List.mem_flatMap.mpr ⟨q.1, r.1, List.mem_map.mpr ⟨q.2.toNat, List.mem_range.mpr (by omega), by rw [Int.toNat_of_nonneg r.2.1]⟩⟩
  rw [List.length_flatMap] at h
  simpa [Function.comp_def, List.map_const', List.sum_replicate_nat] using h
theorem bf_all {ls : List Lk} {s : Str} {x : Int} {qs : List (Str × Int)} (hb : (s, x) ∈ qs) (hc : ∀ q ∈ qs, ∀ l ∈ ls, l.src = q.1 → (l.tgt, l.F q.2) ∈ qs) {t : Str} {y : Int} (w : Way ls s x t y) : (t, y) ∈ qs := by
  induction w with
  | refl => exact hb
  | step _ hl e ih => exact hc _ ih _ hl e
end Kf
namespace Kf
open PySem PySem.Spec L2 StX ClX Dn
open PyProof.Rows hiding St
variable {P : Program} {w : World} {K : PySem.W.Frag} {mg : Str → Option Value} {base : Heap}
inductive WayL (ls : List Lk) : Str → Int → Str → Int → List Str → Prop
  | refl (s : Str) (x : Int) : WayL ls s x s x []
  | step {s : Str} {x : Int} {a : Str} {u : Int} {ns : List Str} {l : Lk} : WayL ls s x a u ns → l ∈ ls → l.src = a → WayL ls s x l.tgt (l.F u) (ns ++ [l.nm])
theorem WayL.way {ls : List Lk} {s : Str} {x : Int} {t : Str} {y : Int} {ns : List Str} (w : WayL ls s x t y ns) : Way ls s x t y := by
  induction w with
  | refl => exact .refl _ _
  | step _ hl e ih => exact .step ih hl e
theorem Way.l {ls : List Lk} {s : Str} {x : Int} {t : Str} {y : Int} (w : Way ls s x t y) : ∃ ns, WayL ls s x t y ns := by
  induction w with
  | refl => exact ⟨[], .refl _ _⟩
  | step _ hl e ih =>
    obtain ⟨ns, h⟩ := ih
    exact ⟨_, .step h hl e⟩
def Di (kvs : Tb) (q : Str × Int) (n : Nat) : Prop := valA kvs (kS q) = some (.int (n : Int))
theorem Di.same {kvs : Tb} {q : Str × Int} {n m : Nat} (h : Di kvs q n) (h2 : Di kvs q m) : n = m := by
  unfold Di at h h2
  rw [h] at h2
  have h2 : (n : Int) = (m : Int) := by simpa using h2
  omega
structure BL (ls : List Lk) (s : Str) (x : Int) (qs : List (Str × Int)) (kvs : Tb) : Prop where
  bf : BF ls s x qs kvs
  di : ∀ q ∈ qs, ∃ n, Di kvs q n ∧ ∃ ns, WayL ls s x q.1 q.2 ns ∧ ns.length = n
  mono : ∀ (i j : Nat) (p q : Str × Int) (n m : Nat), i ≤ j → qs[i]? = some p → qs[j]? = some q → Di kvs p n → Di kvs q m → n ≤ m
  zero : Di kvs (s, x) 0
theorem Di.mem {ls : List Lk} {s : Str} {x : Int} {qs : List (Str × Int)} {kvs : Tb} (h : BF ls s x qs kvs) {q : Str × Int} {n : Nat} (d : Di kvs q n) : q ∈ qs := by
  have := h.has q
  unfold Di at d
  rw [d] at this
  exact of_decide_eq_true this.symm
theorem Di.old {ls : List Lk} {s : Str} {x : Int} {qs : List (Str × Int)} {kvs : Tb} (h : BF ls s x qs kvs) {q p : Str × Int} {d : D} (hq : q ∉ qs) {n : Nat} (hp : p ∈ qs) : Di (putA kvs (kS q) d) p n ↔ Di kvs p n := by
  unfold Di
  have e : kS p ≠ kS q := fun e => hq (by rw [← kS_inj e]; exact hp)
  rw [valA_put, if_neg e]
theorem BL.add {ls : List Lk} {s : Str} {x : Int} {qs : List (Str × Int)} {kvs : Tb} (h : BL ls s x qs kvs) {h0 q : Str × Int} {n0 : Nat} (hq : q ∉ qs) (d0 : Di kvs h0 n0) (hg : ∀ p m, Di kvs p m → m ≤ n0 + 1) {ns : List Str} (w : WayL ls s x q.1 q.2 ns) (hl : ns.length = n0 + 1) :
    BL ls s x (qs ++ [q]) (putA kvs (kS q) (.int ((n0 : Int) + 1))) ∧ Di (putA kvs (kS q) (.int ((n0 : Int) + 1))) q (n0 + 1) ∧ (∀ p m, Di (putA kvs (kS q) (.int ((n0 : Int) + 1))) p m → m ≤ n0 + 1) := by
  have hnew : Di (putA kvs (kS q) (.int ((n0 : Int) + 1))) q (n0 + 1) := by
    unfold Di
    rw [valA_put, if_pos rfl]
    rfl
  have hb := h.bf.add hq w.way ((n0 : Int) + 1)
  have gap : ∀ p m, Di (putA kvs (kS q) (.int ((n0 : Int) + 1))) p m → m ≤ n0 + 1 := fun p m hp => by
    by_cases e : p = q
    · subst e
      exact Nat.le_of_eq (hp.same hnew)
    · have hm := hp.mem hb
      rcases List.mem_append.mp hm with hm | hm
      · exact hg p m ((Di.old h.bf hq hm).mp hp)
      · exact absurd (List.mem_singleton.mp hm) e
  refine ⟨⟨hb, fun p hp => ?_, fun i j p r n m hij hi hj hn hm => ?_, ?_⟩, hnew, gap⟩
  · rcases List.mem_append.mp hp with hp | hp
    · obtain ⟨n, hn, w⟩ := h.di p hp
      exact ⟨n, (Di.old h.bf hq hp).mpr hn, w⟩
    · obtain rfl := List.mem_singleton.mp hp
      exact ⟨_, hnew, ns, w, hl⟩
  · by_cases hjl : j < qs.length
    · rw [List.getElem?_append_left hjl] at hj
      rw [List.getElem?_append_left (by omega)] at hi
      exact h.mono i j p r n m hij hi hj ((Di.old h.bf hq (List.mem_of_getElem? hi)).mp hn) ((Di.old h.bf hq (List.mem_of_getElem? hj)).mp hm)
    · have hjb := (List.getElem?_eq_some_iff.mp hj).1
      rw [List.length_append] at hjb
      have h1 : [q].length = 1 := rfl
      have hje : j = qs.length := by omega
      subst hje
      rw [List.getElem?_append_right (Nat.le_refl _), Nat.sub_self] at hj
      cases hj
      rw [hm.same hnew]
      exact gap p n hn
  · exact (Di.old h.bf hq h.bf.beg).mpr h.zero
theorem bl_all {ls : List Lk} {s : Str} {x : Int} {kvs : Tb} (hz : Di kvs (s, x) 0) (hc : ∀ q n, Di kvs q n → ∀ l ∈ ls, l.src = q.1 → ∃ m, Di kvs (l.tgt, l.F q.2) m ∧ m ≤ n + 1) {t : Str} {y : Int} {ns : List Str} (w : WayL ls s x t y ns) : ∃ n, Di kvs (t, y) n ∧ n ≤ ns.length := by
  induction w with
  | refl => exact ⟨0, hz, Nat.le_refl _⟩
  | step _ hl e ih =>
    obtain ⟨n, hn, hle⟩ := ih
    obtain ⟨m, hm, hle2⟩ := hc _ n hn _ hl e
    refine ⟨m, hm, ?_⟩
    rw [List.length_append]
    show m ≤ _ + 1
    omega
def F_ldist2 : FT := fun args st Ret _ => ∃ (most many great : Int) (hs : List Hd) (ts : List Ti) (s : Str) (x : Int), args = [.dat (tolD hs ts), .dat (stD (s, x))] ∧ TolOk most many great hs ts ∧ most ≤ 16 ∧ many ≤ 16 ∧ great ≤ 90 ∧ s ∈ hs.map (·.1) ∧ 0 ≤ x ∧ x ≤ tpA (hs.map scOf) s ∧
  ∀ (qs : List (Str × Int)) (kvs : Tb), qs.Nodup → kvs.map (·.1) = qs.map kS → qs.length ≤ 1500 → (∀ t y, (t, y) ∈ qs ↔ Way (ts.map (lkOf hs)) s x t y) → (∀ t y, (t, y) ∈ qs → ∃ n, Di kvs (t, y) n ∧ (∃ ns, WayL (ts.map (lkOf hs)) s x t y ns ∧ ns.length = n) ∧ ∀ ns, WayL (ts.map (lkOf hs)) s x t y ns → n ≤ ns.length) → Ret (.dat (.dt kvs)) st
theorem ok_ldist2 {f : Addr} {fd : FuncData} (B : Bl mg) (Fn : Fun K "_law_distances" "_law_distances" s__law_distances f fd) (b : Binds K fd p__law_distances []) : FnG P w K mg base (L2.CX P w) 1 f (spD K F_ldist2) := by
  refine fnD Fn sc__law_distances b (fun args st0 Ret Exc h => ?_) ?_
  · obtain ⟨most, many, great, hs, ts, s, x, rfl, _⟩ := h
    rfl
  intro cdv A outer s0 H E H0 Al args st0 Ret Exc hr xk hp hal hcl hF
  obtain ⟨most, many, great, hs, ts, s, x, rfl, T, hm1, hm2, hg, hsm, x0, x1, q⟩ := hF
  have S := sy_of (C := f) (N := 91) T hm1 hm2 (by omega) (by omega)
  rw [← nm_scOf] at hsm
  generalize hls : ts.map (lkOf hs) = ls at S q
  have hln : (hs.map scOf).length * 91 ≤ 1456 := by
    have := T.ln
    rw [List.length_map]
    omega
  have e1 : ∀ a c : Ob, (st0 ++ [a, c])[st0.length]? = some a := fun a c => by simp
  have e2 : ∀ a c : Ob, (st0 ++ [a, c])[st0.length + 1]? = some c := fun a c => by simp
  have u1 : ∀ a c o : Ob, (st0 ++ [a, c]).set st0.length o = st0 ++ [o, c] := fun a c o => by simp
  have u2 : ∀ a c o : Ob, (st0 ++ [a, c]).set (st0.length + 1) o = st0 ++ [a, o] := fun a c o => by
    rw [List.set_append_right _ _ (Nat.le_succ _), show st0.length.succ - st0.length = 1 by omega]; rfl
  refine sw_cons ?_
  refine sw_par3 2 3 4 rfl ?_ sc__law_distances.nd
  refine aw_cons ?_
  refine ew_disp1T (g := kS (s, x)) (v := .int 0) (Nat.lt_of_succ_lt hr.u1) (fun G' => ?_) ?_
  · refine ew_name 1 rfl ?_
    refine ⟨rfl, rfl, ?_⟩
    refine ew_int ?_
    exact ⟨rfl, rfl⟩
  refine aw_cons ?_
  refine ew_lstM ?_
  refine aw_cons ?_
  refine ew_name 1 rfl ?_
  refine aw_nil ?_
  refine ⟨(by show 1 ≤ sizeLine; decide), ?_⟩
  refine aw_cons ?_
  refine ew_int ?_
  refine aw_nil ?_
  refine ⟨_, _, _, rfl, ?_⟩
  rw [List.length_append, List.append_assoc]
  show SW _ _ _ [some (.dat (tolD hs ts)), some (.dat (stD (s, x))), some (.ptr st0.length), some (.ptr (st0.length + 1)), some (.dat (.int 0)), none, none, none, none, none] (st0 ++ [.dtt (tbW [(kS (s, x), .int 0)]), .lst (([(s, x)].map stD).map W.dat)]) _
  refine sw_cut (fun sl st => ∃ (qs : List (Str × Int)) (kvs : Tb) (at_ : Int) (x5 x6 x7 x8 x9 : Option W), BL ls s x qs kvs ∧ (∀ q n, Di kvs q n → ∀ l ∈ ls, l.src = q.1 → ∃ m, Di kvs (l.tgt, l.F q.2) m ∧ m ≤ n + 1) ∧ sl = [some (.dat (tolD hs ts)), some (.dat (stD (s, x))), some (.ptr st0.length), some (.ptr (st0.length + 1)), some (.dat (.int at_)), x5, x6, x7, x8, x9] ∧ st = st0 ++ [.dtt (tbW kvs), .lst ((qs.map stD).map W.dat)]) ?_ ?_
  · refine sw_while hp (fun m sl st => ∃ (qs : List (Str × Int)) (kvs : Tb) (at_ : Nat) (x5 x6 x7 x8 x9 : Option W), BL ls s x qs kvs ∧ at_ ≤ qs.length ∧ m = 2000 - at_ ∧ (∀ q ∈ qs.take at_, ∀ n, Di kvs q n → ∀ l ∈ ls, l.src = q.1 → ∃ m, Di kvs (l.tgt, l.F q.2) m ∧ m ≤ n + 1) ∧ (∀ h0 n0, qs[at_]? = some h0 → Di kvs h0 n0 → ∀ p m, Di kvs p m → m ≤ n0 + 1) ∧ sl = [some (.dat (tolD hs ts)), some (.dat (stD (s, x))), some (.ptr st0.length), some (.ptr (st0.length + 1)), some (.dat (.int (at_ : Int))), x5, x6, x7, x8, x9] ∧ st = st0 ++ [.dtt (tbW kvs), .lst ((qs.map stD).map W.dat)]) 2000 ?_ (fun m sl st hI => ?_)
    · have z0 : Di [(kS (s, x), D.int 0)] (s, x) 0 := by
        unfold Di
        rw [valA_cons, if_pos rfl]
        rfl
      have b0 : BF ls s x [(s, x)] [(kS (s, x), D.int 0)] := ⟨rfl, fun p hp => by
        obtain rfl := List.mem_singleton.mp hp
        exact ⟨0, rfl⟩, by simp, fun q hq => by
        obtain rfl := List.mem_singleton.mp hq
        exact .refl _ _, by simp⟩
      have on : ∀ (i : Nat) (p : Str × Int), [(s, x)][i]? = some p → p = (s, x) := fun i p h => List.mem_singleton.mp (List.mem_of_getElem? h)
      refine ⟨[(s, x)], [(kS (s, x), .int 0)], 0, none, none, none, none, none, ⟨b0, fun q hq => ?_, fun i j p q n m _ hi hj hn hm => ?_, z0⟩, Nat.zero_le _, rfl, fun q hq => absurd hq (by simp), fun h0 n0 h e p m hm => ?_, rfl, rfl⟩
      · obtain rfl := List.mem_singleton.mp hq
        exact ⟨0, z0, [], .refl _ _, rfl⟩
      · rw [on i p hi] at hn
        rw [on j q hj] at hm
        exact Nat.le_of_eq (hn.same hm)
      · have := List.mem_singleton.mp (hm.mem b0)
        rw [this] at hm
        rw [hm.same z0]
        exact Nat.zero_le _
    · obtain ⟨qs, kvs, at_, x5, x6, x7, x8, x9, hL, hat, rfl, hcl', hgap, rfl, rfl⟩ := hI
      have hB := hL.bf
      refine tw_cmp (nomark _) ?_
      refine ew_name 4 rfl ?_
      refine ew_blt bt_len B.len ?_
      refine aw_cons ?_
      refine ew_name 3 rfl ?_
      refine aw_nil ?_
      refine c_len (n := qs.length) (by
        show (match (st0 ++ [Ob.dtt (tbW kvs), Ob.lst ((qs.map stD).map W.dat)])[st0.length + 1]? with | some (.lst xs) => some xs.length | _ => none) = _
        rw [e2]
        show some ((qs.map stD).map W.dat).length = _
        rw [List.length_map, List.length_map]) ?_
      refine o_lt ?_
      refine ⟨_, rfl, ?_⟩
      refine ifD (fun h => ?_) (fun h => ?_)
      · have hlt : at_ < qs.length := by omega
        have hql := hB.len S hsm x0 x1
        obtain ⟨h0, hq0⟩ : ∃ h0, qs[at_]? = some h0 := ⟨_, List.getElem?_eq_getElem hlt⟩
        have hm0 := List.mem_of_getElem? hq0
        have r0 := (hB.reach h0 hm0).rng S hsm x0 x1
        obtain ⟨n0, d0, nl0, w0, hw0⟩ := hL.di h0 hm0
        have g0 := hgap h0 n0 hq0 d0
        refine sw_cons ?_
        refine sw_set 5 ?_ sc__law_distances.nd
        refine ew_ix ?_
        refine ew_name 3 rfl ?_
        refine ew_name 4 rfl ?_
        refine ⟨_, _, rfl, itm_ptr (e2 _ _) rfl (by rw [List.getElem?_map, List.getElem?_map, hq0]; rfl), ?_⟩
        refine sw_cons ?_
        refine sw_set 4 ?_ sc__law_distances.nd
        refine ew_bin ?_
        refine ew_name 4 rfl ?_
        refine ew_int ?_
        refine o_add ?_
        show SW _ _ _ [some (.dat (tolD hs ts)), some (.dat (stD (s, x))), some (.ptr st0.length), some (.ptr (st0.length + 1)), some (.dat (.int ((at_ : Int) + 1))), some (.dat (stD h0)), x6, x7, x8, x9] _ _
        refine sw_cons ?_
        refine sw_for hp rfl ?_
        refine iw_list ?_
        refine ew_ix ?_
        refine ew_name 0 rfl ?_
        refine ew_int ?_
        refine ⟨1, _, rfl, itm_tup (j := 1) rfl rfl, ?_⟩
        refine ⟨ts.map tiD, rfl, ?_⟩
        refine ⟨fun k sl st => ∃ (qs' : List (Str × Int)) (kvs : Tb) (x6 x7 x8 x9 : Option W), BL ls s x qs' kvs ∧ qs'.take qs.length = qs ∧ Di kvs h0 n0 ∧ (∀ p m, Di kvs p m → m ≤ n0 + 1) ∧ (∀ q ∈ qs.take at_, ∀ n, Di kvs q n → ∀ l ∈ ls, l.src = q.1 → ∃ m, Di kvs (l.tgt, l.F q.2) m ∧ m ≤ n + 1) ∧ (∀ l ∈ ls.take k, l.src = h0.1 → ∃ m, Di kvs (l.tgt, l.F h0.2) m ∧ m ≤ n0 + 1) ∧ sl = [some (.dat (tolD hs ts)), some (.dat (stD (s, x))), some (.ptr st0.length), some (.ptr (st0.length + 1)), some (.dat (.int ((at_ : Int) + 1))), some (.dat (stD h0)), x6, x7, x8, x9] ∧ st = st0 ++ [.dtt (tbW kvs), .lst ((qs'.map stD).map W.dat)],
          ⟨qs, kvs, x6, x7, x8, x9, hL, List.take_length, d0, g0, hcl', fun l hl => absurd hl (by simp), rfl, rfl⟩, fun k w sl st hw hI => ?_, fun sl st hI => ?_⟩
        · obtain ⟨qs', kvs', x6, x7, x8, x9, hL', hpre, dh, gp, cl2, hall, rfl, rfl⟩ := hI
          have hB' := hL'.bf
          have hsub : ∀ a ∈ qs, a ∈ qs' := fun a ha => by rw [← hpre] at ha; exact List.mem_of_mem_take ha
          have hle : qs.length ≤ qs'.length := by
            have := congrArg List.length hpre
            rw [List.length_take] at this
            omega
          have hql' := hB'.len S hsm x0 x1
          obtain ⟨d, hd', rfl⟩ := getElem?_mapW hw
          rw [List.getElem?_map] at hd'
          obtain ⟨t, ht, rfl⟩ := Option.map_eq_some_iff.mp hd'
          have htm := List.mem_of_getElem? ht
          have hlk : ls[k]? = some (lkOf hs t) := by rw [← hls, List.getElem?_map, ht]; rfl
          have hlm := List.mem_of_getElem? hlk
          obtain ⟨a, c, h1, h2, h3, h4⟩ := T.ok t htm
          refine gw_tup rfl ?_
          refine gs_cons ?_
          refine gw_name 6 ?_ sc__law_distances.nd
          refine gs_cons ?_
          refine gw_name 7 ?_ sc__law_distances.nd
          refine gs_cons ?_
          refine gw_name 8 ?_ sc__law_distances.nd
          refine gs_cons ?_
          refine gw_name 9 ?_ sc__law_distances.nd
          refine gs_nil ?_
          show SW _ _ _ [some (.dat (tolD hs ts)), some (.dat (stD (s, x))), some (.ptr st0.length), some (.ptr (st0.length + 1)), some (.dat (.int ((at_ : Int) + 1))), some (.dat (stD h0)), some (.dat (.str t.1)), some (.dat (.str t.2.1)), some (.dat (.str t.2.2.1)), some (.dat (.tup (t.2.2.2.map D.int)))] _ _
          have told : t.2.1 = h0.1 → t.2.2.2[h0.2.toNat]? = some (tabF t.2.2.2 h0.2) := fun e => by
            have e3 : tpA (hs.map scOf) h0.1 = a := tpA_scOf T.nd (by rw [← e]; exact h1)
            have r1 := r0.2.2
            have r2 := r0.2.1
            have hlt' : h0.2.toNat < t.2.2.2.length := by omega
            rw [List.getElem?_eq_getElem hlt']
            unfold tabF
            rw [List.getD_eq_getElem?_getD, List.getElem?_eq_getElem hlt']
            rfl
          refine sw_cons ?_
          refine sw_if ?_
          refine tw_mid (decide (t.2.1 = h0.1) && !decide ((t.2.2.1, tabF t.2.2.2 h0.2) ∈ qs')) ?_ ?_
          · refine tw_bool ?_
            refine bw_and ?_
            refine tw_cmp (nomark _) ?_
            refine ew_name 7 rfl ?_
            refine ew_ix ?_
            refine ew_name 5 rfl ?_
            refine ew_int ?_
            refine ⟨0, _, rfl, itm_tup (j := 0) rfl rfl, ?_⟩
            refine o_eqS ?_
            refine ⟨_, rfl, ?_⟩
            refine ifD (fun e => ?_) (fun e => ?_)
            · refine bw_and1 ?_
              refine tw_cmp (by rfl) ?_
              refine ew_tup ?_
              refine aw_cons ?_
              refine ew_name 8 rfl ?_
              refine aw_cons ?_
              refine ew_ix ?_
              refine ew_name 9 rfl ?_
              refine ew_ix ?_
              refine ew_name 5 rfl ?_
              refine ew_int ?_
              refine ⟨1, _, rfl, itm_tup (j := 1) rfl rfl, ?_⟩
              refine ⟨_, _, rfl, itm_tup (j := h0.2.toNat) (by rw [Int.toNat_of_nonneg r0.2.1]) (by rw [List.getElem?_map, told e]; rfl), ?_⟩
              refine aw_nil ?_
              refine ⟨_, rfl, (by show 2 ≤ sizeLine; decide), ?_⟩
              refine ew_name 2 rfl ?_
              refine o_notinDk hr (DLook.t (e1 _ _) (keyT_stD (t.2.2.1, tabF t.2.2.2 h0.2))) ?_
              rw [tbW_val, Option.isSome_map, hB'.has]
              refine ⟨_, rfl, ?_, rfl⟩
              rw [decide_eq_true e, Bool.true_and]
            · exact ⟨by rw [decide_eq_false e]; rfl, rfl⟩
          · by_cases hc : t.2.1 = h0.1 ∧ (t.2.2.1, tabF t.2.2.2 h0.2) ∉ qs'
            · obtain ⟨e, hn⟩ := hc
              refine ifT (by rw [decide_eq_true e, decide_eq_false hn]; rfl) ?_
              have hz : valA kvs' (kS h0) = some (.int (n0 : Int)) := dh
              refine sw_cons ?_
              refine sw_dputT hr ?_
              refine ew_bin ?_
              refine ew_dget hr ?_
              refine ew_name 2 rfl ?_
              refine ew_name 5 rfl ?_
              refine ⟨_, by have := DLook.t (e1 (.dtt (tbW kvs')) (Ob.lst ((qs'.map stD).map W.dat))) (keyT_stD h0); rw [tbW_val, hz] at this; exact this, ?_⟩
              refine ew_int ?_
              refine o_add ?_
              refine ew_name 2 rfl ?_
              refine ew_tup ?_
              refine aw_cons ?_
              refine ew_name 8 rfl ?_
              refine aw_cons ?_
              refine ew_ix ?_
              refine ew_name 9 rfl ?_
              refine ew_ix ?_
              refine ew_name 5 rfl ?_
              refine ew_int ?_
              refine ⟨1, _, rfl, itm_tup (j := 1) rfl rfl, ?_⟩
              refine ⟨_, _, rfl, itm_tup (j := h0.2.toNat) (by rw [Int.toNat_of_nonneg r0.2.1]) (by rw [List.getElem?_map, told e]; rfl), ?_⟩
              refine aw_nil ?_
              refine ⟨_, rfl, (by show 2 ≤ sizeLine; decide), ?_⟩
              refine ⟨_, _, _, rfl, e1 _ _, keyT_stD (t.2.2.1, tabF t.2.2.2 h0.2), ?_, ?_⟩
              · have := congrArg List.length hB'.keys
                rw [List.length_map, List.length_map] at this
                unfold tbW
                rw [List.length_map, this]
                exact szl (by omega)
              rw [u1, tbW_put]
              refine sw_cons ?_
              refine sw_expr ?_
              refine ew_append ?_
              refine ew_name 3 rfl ?_
              refine ⟨_, _, rfl, e2 _ _, ?_⟩
              refine ew_tup ?_
              refine aw_cons ?_
              refine ew_name 8 rfl ?_
              refine aw_cons ?_
              refine ew_ix ?_
              refine ew_name 9 rfl ?_
              refine ew_ix ?_
              refine ew_name 5 rfl ?_
              refine ew_int ?_
              refine ⟨1, _, rfl, itm_tup (j := 1) rfl rfl, ?_⟩
              refine ⟨_, _, rfl, itm_tup (j := h0.2.toNat) (by rw [Int.toNat_of_nonneg r0.2.1]) (by rw [List.getElem?_map, told e]; rfl), ?_⟩
              refine aw_nil ?_
              refine ⟨_, rfl, (by show 2 ≤ sizeLine; decide), ?_⟩
              refine ⟨_, e2 _ _, szl (by rw [List.length_map, List.length_map]; omega), ?_⟩
              rw [u2]
              refine sw_nil ?_
              refine sw_nil ?_
              have hw' : WayL ls s x (lkOf hs t).tgt ((lkOf hs t).F h0.2) (nl0 ++ [(lkOf hs t).nm]) := .step w0 hlm e
              obtain ⟨hL2, dn, gp2⟩ := hL'.add (q := (t.2.2.1, tabF t.2.2.2 h0.2)) hn dh gp hw' (by rw [List.length_append, hw0]; rfl)
              have keep : ∀ p m, Di kvs' p m → Di (putA kvs' (kS (t.2.2.1, tabF t.2.2.2 h0.2)) (.int ((n0 : Int) + 1))) p m := fun p m h => (Di.old hB' hn (h.mem hB')).mpr h
              refine ⟨qs' ++ [(t.2.2.1, tabF t.2.2.2 h0.2)], _, _, _, _, _, hL2, ?_, keep _ _ dh, gp2, fun a ha n hn2 l hl el => ?_, fun l hl el => ?_, rfl, by rw [List.map_append, List.map_append]; rfl⟩
              · rw [List.take_append_of_le_length hle, hpre]
              · obtain ⟨m, hm, hle2⟩ := cl2 a ha n ((Di.old hB' hn (hsub a (List.mem_of_mem_take ha))).mp hn2) l hl el
                exact ⟨m, keep _ _ hm, hle2⟩
              · rw [List.take_succ, hlk] at hl
                rcases List.mem_append.mp hl with hl | hl
                · obtain ⟨m, hm, hle2⟩ := hall l hl el
                  exact ⟨m, keep _ _ hm, hle2⟩
                · obtain rfl := List.mem_singleton.mp hl
                  exact ⟨_, dn, Nat.le_refl _⟩
            · refine ifF ?_ ?_
              · by_cases e : t.2.1 = h0.1
                · have hin : (t.2.2.1, tabF t.2.2.2 h0.2) ∈ qs' := Classical.byContradiction fun hn => hc ⟨e, hn⟩
                  rw [decide_eq_true hin, Bool.not_true, Bool.and_false]
                · rw [decide_eq_false e, Bool.false_and]
              refine sw_nil ?_
              refine sw_nil ?_
              refine ⟨qs', kvs', _, _, _, _, hL', hpre, dh, gp, cl2, fun l hl el => ?_, rfl, rfl⟩
              rw [List.take_succ, hlk] at hl
              rcases List.mem_append.mp hl with hl | hl
              · exact hall l hl el
              · obtain rfl := List.mem_singleton.mp hl
                have hin : (t.2.2.1, tabF t.2.2.2 h0.2) ∈ qs' := Classical.byContradiction fun hn => hc ⟨el, hn⟩
                obtain ⟨m, hm, _⟩ := hL'.di _ hin
                exact ⟨m, hm, gp _ m hm⟩
        · obtain ⟨qs', kvs', x6, x7, x8, x9, hL', hpre, dh, gp, cl2, hall, rfl, rfl⟩ := hI
          refine sw_nil ?_
          have hle : qs.length ≤ qs'.length := by
            have := congrArg List.length hpre
            rw [List.length_take] at this
            omega
          have ht : qs'.take (at_ + 1) = qs.take (at_ + 1) := by
            rw [← hpre, List.take_take, Nat.min_eq_left (by omega)]
          have hat0 : qs'[at_]? = some h0 := by
            have : (qs'.take qs.length)[at_]? = some h0 := by rw [hpre]; exact hq0
            rwa [List.getElem?_take_of_lt hlt] at this
          refine ⟨2000 - (at_ + 1), by omega, qs', kvs', at_ + 1, _, _, _, _, _, hL', by omega, rfl, fun a ha n hn l hl e => ?_, fun h1 n1 hq1 d1 p m hm => ?_, by push_cast; rfl, rfl⟩
          · rw [ht, List.take_succ, hq0] at ha
            rcases List.mem_append.mp ha with ha | ha
            · exact cl2 a ha n hn l hl e
            · obtain rfl := List.mem_singleton.mp ha
              rw [hn.same dh]
              refine hall l ?_ e
              rw [List.length_map, List.length_map, ← List.length_map (f := lkOf hs), hls, List.take_length]
              exact hl
          · have := hL'.mono at_ (at_ + 1) h0 h1 n0 n1 (Nat.le_succ _) hat0 hq1 dh d1
            have := gp p m hm
            omega
      · have hge : qs.length ≤ at_ := by omega
        rw [List.take_of_length_le hge] at hcl'
        exact ⟨qs, kvs, (at_ : Int), _, _, _, _, _, hL, fun a n hn l hl e => hcl' a (hn.mem hB) n hn l hl e, rfl, rfl⟩
  rintro sl st ⟨qs, kvs, at_, x5, x6, x7, x8, x9, hL, hall, rfl, rfl⟩
  have hB := hL.bf
  have hql := hB.len S hsm x0 x1
  refine sw_frzT 2 rfl (e1 _ _) ?_ ?_
  · show Al.length ≤ _
    omega
  rw [u1]
  refine sw_cons ?_
  refine sw_ret ?_
  refine ew_name 2 rfl ?_
  have all := fun t y (ns : List Str) (w : WayL ls s x t y ns) => bl_all hL.zero hall w
  refine krE_app hcl (q qs kvs hB.nd hB.keys (by omega) (fun t y => ⟨fun h => hB.reach _ h, fun w => ?_⟩) fun t y h => ?_)
  · obtain ⟨ns, wl⟩ := w.l
    obtain ⟨n, hn, _⟩ := all t y ns wl
    exact hn.mem hB
  · obtain ⟨n, hn, ns, w, hl⟩ := hL.di _ h
    refine ⟨n, hn, ⟨ns, w, hl⟩, fun ns' w' => ?_⟩
    obtain ⟨m, hm, hle⟩ := all t y ns' w'
    rw [hn.same hm]
    exact hle
end Kf
namespace Kf
open PySem PySem.Spec L2 StX ClX Dn
open PyProof.Rows hiding St
variable {P : Program} {w : World} {K : PySem.W.Frag} {mg : Str → Option Value} {base : Heap}
def wayD (ns : List Str) : D := .tup (ns.map D.str)
def Wy (kvs : Tb) (q : Str × Int) (ns : List Str) : Prop := valA kvs (kS q) = some (wayD ns)
theorem wayD_inj {a b : List Str} (h : wayD a = wayD b) : a = b := by
  simp only [wayD, D.tup.injEq] at h
  induction a generalizing b with
  | nil => cases b with
    | nil => rfl
    | cons => cases h
  | cons x a ih => cases b with
    | nil => cases h
    | cons y b =>
      simp only [List.map_cons, List.cons.injEq, D.str.injEq] at h
      rw [h.1, ih h.2]
theorem Wy.same {kvs : Tb} {q : Str × Int} {a b : List Str} (h : Wy kvs q a) (h2 : Wy kvs q b) : a = b := by
  unfold Wy at h h2
  rw [h] at h2
  exact wayD_inj (Option.some.inj h2)
structure Lv (ls : List Lk) (s : Str) (x : Int) (kvs : Tb) (k : Nat) (es : List (Str × Int)) : Prop where
  nd : (kvs.map (·.1)).Nodup
  ky : ∀ p ∈ kvs, ∃ q, p.1 = kS q
  ent : ∀ q d, valA kvs (kS q) = some d → ∃ ns, d = wayD ns ∧ WayL ls s x q.1 q.2 ns ∧ ns.length ≤ k
  all : ∀ t y ns, WayL ls s x t y ns → ns.length ≤ k → ∃ ns', Wy kvs (t, y) ns' ∧ ns'.length ≤ ns.length
  ends : ∀ q ns, Wy kvs q ns → ns.length = k → q ∈ es
  es_ : ∀ q ∈ es, ∃ ns, Wy kvs q ns ∧ ns.length = k
structure Lx (ls : List Lk) (s : Str) (x : Int) (kvs : Tb) (k : Nat) (cur : Tb) (fs : List (Str × Int)) : Prop where
  nd : (cur.map (·.1)).Nodup
  ky : ∀ p ∈ cur, ∃ q, p.1 = kS q
  old : ∀ q d, valA kvs (kS q) = some d → valA cur (kS q) = some d
  new : ∀ q d, valA cur (kS q) = some d → valA kvs (kS q) = some d ∨ (q ∈ fs ∧ ∃ ns, d = wayD ns ∧ WayL ls s x q.1 q.2 ns ∧ ns.length = k + 1)
  fs_ : ∀ q ∈ fs, ∃ ns, Wy cur q ns ∧ ns.length = k + 1
  len : cur.length = kvs.length + fs.length
theorem Lx.zero {ls : List Lk} {s : Str} {x : Int} {kvs : Tb} {k : Nat} {es : List (Str × Int)} (h : Lv ls s x kvs k es) : Lx ls s x kvs k kvs [] := ⟨h.nd, h.ky, fun _ _ h => h, fun _ _ h => .inl h, fun q hq => absurd hq List.not_mem_nil, rfl⟩
theorem Lx.add {ls : List Lk} {s : Str} {x : Int} {kvs cur : Tb} {k : Nat} {fs : List (Str × Int)} (h : Lx ls s x kvs k cur fs) {q : Str × Int} {ns : List Str} (hn : valA cur (kS q) = none) (w : WayL ls s x q.1 q.2 ns) (hl : ns.length = k + 1) : Lx ls s x kvs k (putA cur (kS q) (wayD ns)) (fs ++ [q]) := by
  have e : ∀ p d, valA cur (kS p) = some d → kS p ≠ kS q := fun p d h e => by
    rw [e, hn] at h
    cases h
  refine ⟨putA_nodup h.nd, fun p hp => ?_, fun p d hp => ?_, fun p d hp => ?_, fun p hp => ?_, ?_⟩
  · rw [putA_new _ hn] at hp
    rcases List.mem_append.mp hp with hp | hp
    · exact h.ky p hp
    · exact ⟨q, by rw [List.mem_singleton.mp hp]⟩
  · have := h.old p d hp
    rw [valA_put, if_neg (e p d this)]
    exact this
  · rw [valA_put] at hp
    split at hp
    · rename_i he
      cases hp
      rw [kS_inj he]
      exact .inr ⟨List.mem_append.mpr (.inr (List.mem_singleton.mpr rfl)), ns, rfl, w, hl⟩
    · rcases h.new p d hp with a | ⟨a, b⟩
      · exact .inl a
      · exact .inr ⟨List.mem_append.mpr (.inl a), b⟩
  · rcases List.mem_append.mp hp with hp | hp
    · obtain ⟨ns', hw, hl'⟩ := h.fs_ p hp
      refine ⟨ns', ?_, hl'⟩
      unfold Wy at hw ⊢
      rw [valA_put, if_neg (e p _ hw)]
      exact hw
    · rw [List.mem_singleton.mp hp]
      refine ⟨ns, ?_, hl⟩
      unfold Wy
      rw [valA_put, if_pos rfl]
  · rw [putA_new _ hn, List.length_append, List.length_append, h.len]
    rfl
theorem Lx.done {ls : List Lk} {s : Str} {x : Int} {kvs cur : Tb} {k : Nat} {es fs : List (Str × Int)} (L : Lv ls s x kvs k es) (h : Lx ls s x kvs k cur fs) (hd : ∀ q ∈ es, ∀ l ∈ ls, l.src = q.1 → (valA cur (kS (l.tgt, l.F q.2))).isSome = true) : Lv ls s x cur (k + 1) fs := by
  have ent : ∀ q d, valA cur (kS q) = some d → ∃ ns, d = wayD ns ∧ WayL ls s x q.1 q.2 ns ∧ ns.length ≤ k + 1 := fun q d hq => by
    rcases h.new q d hq with a | ⟨_, ns, e, w, hl⟩
    · obtain ⟨ns, e, w, hl⟩ := L.ent q d a
      exact ⟨ns, e, w, by omega⟩
    · exact ⟨ns, e, w, by omega⟩
  refine ⟨h.nd, h.ky, ent, fun t y ns w hl => ?_, fun q ns hq hl => ?_, h.fs_⟩
  · by_cases hk : ns.length ≤ k
    · obtain ⟨ns', a, b⟩ := L.all t y ns w hk
      exact ⟨ns', h.old _ _ a, b⟩
    · cases w with
      | refl => exact absurd (Nat.zero_le k) hk
      | @step a u ns0 l w0 hl0 e =>
        rw [List.length_append] at hl hk
        have h1 : [l.nm].length = 1 := rfl
        obtain ⟨ns', hw, hle⟩ := L.all a u ns0 w0 (by omega)
        obtain ⟨ns2, e2, w2, _⟩ := L.ent _ _ hw
        have e2 := wayD_inj e2
        subst e2
        by_cases hj : ns'.length < k
        · obtain ⟨ns3, hw3, hle3⟩ := L.all _ _ _ (WayL.step w2 hl0 e) (by rw [List.length_append]; omega)
          rw [List.length_append] at hle3
          exact ⟨ns3, h.old _ _ hw3, by rw [List.length_append]; omega⟩
        · have hm := L.ends (a, u) ns' hw (by omega)
          have := hd _ hm l hl0 e
          obtain ⟨d, hv⟩ := Option.isSome_iff_exists.mp this
          obtain ⟨ns3, e3, _, hl3⟩ := ent _ _ hv
          rw [e3] at hv
          exact ⟨ns3, hv, by rw [List.length_append]; omega⟩
  · rcases h.new q _ hq with a | ⟨a, _⟩
    · obtain ⟨ns', e, _, hl'⟩ := L.ent q _ a
      have := wayD_inj e
      subst this
      omega
    · exact a
theorem Lx.room {C : Addr} {N : Nat} {ss : List Sc} {ls : List Lk} {s : Str} {x : Int} {kvs cur : Tb} {k : Nat} {es fs : List (Str × Int)} (S : SyOk C N ss ls) (L : Lv ls s x kvs k es) (h : Lx ls s x kvs k cur fs) (hs : s ∈ ss.map (·.nm)) (x0 : 0 ≤ x) (x1 : x ≤ tpA ss s) : cur.length ≤ ss.length * N := by
  have h := h.nd.length_le_of_subset (l₂ := (ss.map (·.nm)).flatMap fun s => (List.range N).map fun i : Nat => kS (s, (i : Int))) fun ky hk => by
    obtain ⟨p, hp, rfl⟩ := List.mem_map.mp hk
    obtain ⟨q, e⟩ := h.ky p hp
    have hv := valA_of_mem h.nd (v := p.2) (k := p.1) hp
    rw [e] at hv
    have w : ∃ ns, WayL ls s x q.1 q.2 ns := by
      rcases h.new q _ hv with a | ⟨_, ns, _, w, _⟩
      · obtain ⟨ns, _, w, _⟩ := L.ent q _ a
        exact ⟨ns, w⟩
      · exact ⟨ns, w⟩
    obtain ⟨ns, w⟩ := w
    have r := w.way.rng S hs x0 x1
    have rg := S.rng r.1
    refine List.mem_flatMap.mpr ⟨q.1, r.1, List.mem_map.mpr ⟨q.2.toNat, List.mem_range.mpr (by omega), ?_⟩⟩
    rw [Int.toNat_of_nonneg r.2.1]
    exact e.symm
  rw [List.length_map, List.length_flatMap] at h
  simpa [Function.comp_def, List.map_const', List.sum_replicate_nat] using h
end Kf
namespace Kf
open PySem PySem.Spec L2 StX ClX Dn
open PyProof.Rows hiding St
variable {P : Program} {w : World} {K : PySem.W.Frag} {mg : Str → Option Value} {base : Heap}
theorem clo_tbWx {n : Nat} (kvs : Tb) : Clo n (.dtt (tbW kvs)) := fun p hp => by
  obtain ⟨q, _, rfl⟩ := List.mem_map.mp hp
  trivial
def F_extend (CY CS CL C : Addr) : FT := fun args st Ret _ => ∃ (N : Nat) (ss : List Sc) (ls : List Lk) (j : Nat) (s : Str) (x : Int) (kvs : Tb) (k : Nat) (es : List (Str × Int)), args = [.dat (syD CY CS CL C ss ls), .ptr j, .dat (.lst (es.map stD))] ∧ st[j]? = some (.dtt (tbW kvs)) ∧ SyOk C N ss ls ∧ s ∈ ss.map (·.nm) ∧ 0 ≤ x ∧ x ≤ tpA ss s ∧ Lv ls s x kvs k es ∧ k ≤ 200000 ∧
  ∀ (cur : Tb) (fs : List (Str × Int)), Lv ls s x cur (k + 1) fs → cur.length = kvs.length + fs.length → Ret (.dat (.lst (fs.map stD))) (st.set j (.dtt (tbW cur)))
theorem ok_extend {f CY CS CL C : Addr} {fd : FuncData} (T : PTxt K C) (TY : CTxt K CY syN) (TL : CTxt K CL lkN) (C_call : CalO P w K mg base 3 C (F_pcall C)) (Fn : Fun K "extend_ways" "extend_ways" s_extend_ways f fd) (b : Binds K fd p_extend_ways []) : FnG P w K mg base (L2.CX P w) 4 f (spD K (F_extend CY CS CL C)) := by
  refine fnD Fn sc_extend_ways b (fun args st0 Ret Exc h => ?_) ?_
  · obtain ⟨N, ss, ls, j, s, x, kvs, k, es, rfl, _⟩ := h
    rfl
  intro cdv A outer s0 H E H0 Al args st0 Ret Exc hr xk hp hal hcl hF
  obtain ⟨N, ss, ls, j, s, x, kvs, k, es, rfl, hj, S, hs, x0, x1, L, hkb, q⟩ := hF
  have hjl : j < st0.length := (List.getElem?_eq_some_iff.mp hj).1
  have n100 := S.n100
  have hbig : ss.length * N ≤ 1000 * 100 := Nat.mul_le_mul S.sc.2.1 n100
  have e1 : ∀ (o : Ob) (u : Ob), (st0.set j o ++ [u])[j]? = some o := fun o u => by
    rw [List.getElem?_append_left (by rw [List.length_set]; exact hjl)]
    exact List.getElem?_set_self hjl
  have e2 : ∀ (o : Ob) (u : Ob), (st0.set j o ++ [u])[st0.length]? = some u := fun o u => by
    rw [List.getElem?_append_right (by rw [List.length_set]; exact Nat.le_refl _), List.length_set, Nat.sub_self]
    rfl
  have u1 : ∀ (o o' : Ob) (u : Ob), (st0.set j o ++ [u]).set j o' = st0.set j o' ++ [u] := fun o o' u => by
    rw [List.set_append_left _ _ (by rw [List.length_set]; exact hjl), List.set_set]
  have u2 : ∀ (o : Ob) (u u' : Ob), (st0.set j o ++ [u]).set st0.length u' = st0.set j o ++ [u'] := fun o u u' => by
    rw [List.set_append_right _ _ (by rw [List.length_set]; exact Nat.le_refl _), List.length_set, Nat.sub_self]
    rfl
  have st_eq : st0 = st0.set j (.dtt (tbW kvs)) := by
    refine List.ext_getElem? fun i => ?_
    by_cases e : j = i
    · subst e
      rw [List.getElem?_set_self hjl, hj]
    · rw [List.getElem?_set_ne e]
  refine sw_cons ?_
  refine sw_set 3 ?_ sc_extend_ways.nd
  refine ew_lstM ?_
  refine aw_nil ?_
  refine ⟨Nat.zero_le _, ?_⟩
  show SW _ _ _ [some (.dat (syD CY CS CL C ss ls)), some (.ptr j), some (.dat (.lst (es.map stD))), some (.ptr st0.length), none, none, none, none] (st0 ++ [.lst []]) _
  rw [show st0 ++ [Ob.lst []] = st0.set j (.dtt (tbW kvs)) ++ [Ob.lst ((([] : List (Str × Int)).map stD).map W.dat)] by rw [← st_eq]; rfl]
  refine sw_cut (fun sl st => ∃ (cur : Tb) (fs : List (Str × Int)) (x4 x5 x6 x7 : Option W), Lx ls s x kvs k cur fs ∧ (∀ q ∈ es, ∀ l ∈ ls, l.src = q.1 → (valA cur (kS (l.tgt, l.F q.2))).isSome = true) ∧ sl = [some (.dat (syD CY CS CL C ss ls)), some (.ptr j), some (.dat (.lst (es.map stD))), some (.ptr st0.length), x4, x5, x6, x7] ∧ st = st0.set j (.dtt (tbW cur)) ++ [.lst ((fs.map stD).map W.dat)]) ?_ ?_
  · refine sw_for hp rfl ?_
    refine iw_list ?_
    refine ew_name 2 rfl ?_
    refine ⟨_, rfl, ?_⟩
    refine ⟨fun i sl st => ∃ (cur : Tb) (fs : List (Str × Int)) (x4 x5 x6 x7 : Option W), Lx ls s x kvs k cur fs ∧ (∀ q ∈ es.take i, ∀ l ∈ ls, l.src = q.1 → (valA cur (kS (l.tgt, l.F q.2))).isSome = true) ∧ sl = [some (.dat (syD CY CS CL C ss ls)), some (.ptr j), some (.dat (.lst (es.map stD))), some (.ptr st0.length), x4, x5, x6, x7] ∧ st = st0.set j (.dtt (tbW cur)) ++ [.lst ((fs.map stD).map W.dat)],
      ⟨kvs, [], none, none, none, none, Lx.zero L, fun q hq => absurd hq (by simp), rfl, rfl⟩, fun i w sl st hw hI => ?_, fun sl st hI => ?_⟩
    · obtain ⟨cur, fs, x4, x5, x6, x7, hX, hd, rfl, rfl⟩ := hI
      obtain ⟨d, hd', rfl⟩ := getElem?_mapW hw
      rw [List.getElem?_map] at hd'
      obtain ⟨p, hp', rfl⟩ := Option.map_eq_some_iff.mp hd'
      have hpm := List.mem_of_getElem? hp'
      obtain ⟨np, hwp, hnp⟩ := L.es_ p hpm
      obtain ⟨np', ep, wp, _⟩ := L.ent _ _ hwp
      have ep := wayD_inj ep
      subst ep
      have rp := wp.way.rng S hs x0 x1
      refine gw_tup rfl ?_
      refine gs_cons ?_
      refine gw_name 4 ?_ sc_extend_ways.nd
      refine gs_cons ?_
      refine gw_name 5 ?_ sc_extend_ways.nd
      refine gs_nil ?_
      show SW _ _ _ [some (.dat (syD CY CS CL C ss ls)), some (.ptr j), some (.dat (.lst (es.map stD))), some (.ptr st0.length), some (.dat (.str p.1)), some (.dat (.int p.2)), x6, x7] _ _
      refine sw_cons ?_
      refine sw_for hp rfl ?_
      refine iw_tup ?_
      refine ew_fld ?_
      refine ew_name 0 rfl ?_
      refine ⟨_, _, _, rfl, TY.cls, TY.no _ (by simp), syF_links _ _ _ _ _, _, rfl, ?_⟩
      refine ⟨fun m sl st => ∃ (cur : Tb) (fs : List (Str × Int)) (x6 x7 : Option W), Lx ls s x kvs k cur fs ∧ (∀ q ∈ es.take i, ∀ l ∈ ls, l.src = q.1 → (valA cur (kS (l.tgt, l.F q.2))).isSome = true) ∧ (∀ l ∈ ls.take m, l.src = p.1 → (valA cur (kS (l.tgt, l.F p.2))).isSome = true) ∧ sl = [some (.dat (syD CY CS CL C ss ls)), some (.ptr j), some (.dat (.lst (es.map stD))), some (.ptr st0.length), some (.dat (.str p.1)), some (.dat (.int p.2)), x6, x7] ∧ st = st0.set j (.dtt (tbW cur)) ++ [.lst ((fs.map stD).map W.dat)],
        ⟨cur, fs, x6, x7, hX, hd, fun l hl => absurd hl (by simp), rfl, rfl⟩, fun m w sl st hw2 hI => ?_, fun sl st hI => ?_⟩
      · clear hX hd cur fs x4 x5 x6 x7
        obtain ⟨cur, fs, x6, x7, hX, hd, hm, rfl, rfl⟩ := hI
        have hroom := hX.room S L hs x0 x1
        have hlen := hX.len
        obtain ⟨d, hd', rfl⟩ := getElem?_mapW hw2
        rw [List.getElem?_map] at hd'
        obtain ⟨l, hl, rfl⟩ := Option.map_eq_some_iff.mp hd'
        have hlm := List.mem_of_getElem? hl
        have hlk := S.link hlm
        have hIs := S.ps l hlm
        refine gw_name 6 ?_ sc_extend_ways.nd
        show SW _ _ _ [some (.dat (syD CY CS CL C ss ls)), some (.ptr j), some (.dat (.lst (es.map stD))), some (.ptr st0.length), some (.dat (.str p.1)), some (.dat (.int p.2)), some (.dat (lkD CL C l)), x7] _ _
        refine sw_cons ?_
        refine sw_if ?_
        refine tw_cmp (nomark _) ?_
        refine ew_fld ?_
        refine ew_name 6 rfl ?_
        refine ⟨_, _, _, rfl, TL.cls, TL.no _ (by simp), lkF_source _ _, ?_⟩
        refine ew_name 4 rfl ?_
        refine o_eqS ?_
        refine ⟨_, rfl, ?_⟩
        refine ifD (fun e => ?_) (fun e => ?_)
        · have p0 : 0 ≤ p.2 := rp.2.1
          have p1 : p.2 ≤ l.t := by rw [← hlk.1.2, e]; exact rp.2.2
          refine sw_cons ?_
          refine sw_set 7 ?_ sc_extend_ways.nd
          refine ew_tup ?_
          refine aw_cons ?_
          refine ew_fld ?_
          refine ew_name 6 rfl ?_
          refine ⟨_, _, _, rfl, TL.cls, TL.no _ (by simp), lkF_target _ _, ?_⟩
          refine aw_cons ?_
          refine ew_callFld C_call hr (by decide) xk ?_
          refine ew_name 6 rfl ?_
          refine ⟨CL, lkF C l, _, rfl, TL.cls, TL.no _ (by simp), lkF_passage _ _, ?_⟩
          refine aw_cons ?_
          refine ew_name 5 rfl ?_
          refine aw_nil ?_
          refine ⟨l.t, l.g, nf l.F l.t, p.2, rfl, p0, p1, isP_ne hIs, by have := hIs.2.2.2.2; omega, ?_⟩
          rw [isP_val hIs p0 p1]
          refine aw_nil ?_
          refine ⟨_, rfl, (by show 2 ≤ sizeLine; decide), ?_⟩
          show SW _ _ _ [some (.dat (syD CY CS CL C ss ls)), some (.ptr j), some (.dat (.lst (es.map stD))), some (.ptr st0.length), some (.dat (.str p.1)), some (.dat (.int p.2)), some (.dat (lkD CL C l)), some (.dat (stD (l.tgt, l.F p.2)))] _ _
          refine sw_cons ?_
          refine sw_if ?_
          refine tw_cmp (by rfl) ?_
          refine ew_name 7 rfl ?_
          refine ew_name 1 rfl ?_
          refine o_notinDk hr (DLook.t (e1 _ _) (keyT_stD (l.tgt, l.F p.2))) ?_
          refine ⟨_, rfl, ?_⟩
          rw [tbW_val, Option.isSome_map]
          cases hv : valA cur (kS (l.tgt, l.F p.2)) with
          | some d =>
            refine ifF rfl ?_
            refine sw_nil ?_
            refine sw_nil ?_
            refine sw_nil ?_
            refine ⟨cur, fs, _, _, hX, hd, fun l' hl' el => ?_, rfl, rfl⟩
            rw [List.take_succ, hl] at hl'
            rcases List.mem_append.mp hl' with h | h
            · exact hm l' h el
            · obtain rfl := List.mem_singleton.mp h
              rw [hv]; rfl
          | none =>
            refine ifT rfl ?_
            refine sw_cons ?_
            refine sw_dputT hr ?_
            refine ew_tup ?_
            refine aw_starT ?_
            refine ew_dget hr ?_
            refine ew_name 1 rfl ?_
            refine ew_tup ?_
            refine aw_cons ?_
            refine ew_name 4 rfl ?_
            refine aw_cons ?_
            refine ew_name 5 rfl ?_
            refine aw_nil ?_
            refine ⟨_, rfl, (by show 2 ≤ sizeLine; decide), ?_⟩
            refine ⟨_, by have := DLook.t (e1 (.dtt (tbW cur)) (Ob.lst ((fs.map stD).map W.dat))) (keyT_stD p); rw [tbW_val, hX.old p _ hwp] at this; exact this, ?_⟩
            refine ⟨np.map D.str, rfl, ?_⟩
            refine aw_cons ?_
            refine ew_fld ?_
            refine ew_name 6 rfl ?_
            refine ⟨_, _, _, rfl, TL.cls, TL.no _ (by simp), lkF_name _ _, ?_⟩
            refine aw_nil ?_
            have ed : (np.map D.str).map W.dat ++ [W.dat (.str l.nm)] = ((np ++ [l.nm]).map D.str).map W.dat := by rw [List.map_append, List.map_append]; rfl
            refine ⟨(np ++ [l.nm]).map D.str, by rw [ed]; exact datsOf_map _, ?_, ?_⟩
            · rw [List.length_map, List.length_append, hnp]
              exact Nat.le_trans (Nat.add_le_add_right hkb 1) (by decide)
            refine ew_name 1 rfl ?_
            refine ew_name 7 rfl ?_
            refine ⟨j, _, _, rfl, e1 _ _, keyT_stD (l.tgt, l.F p.2), ?_, ?_⟩
            · unfold tbW
              rw [List.length_map]
              exact Nat.lt_of_le_of_lt (Nat.le_trans hroom hbig) (by decide)
            rw [u1, show W.dat (D.tup ((np ++ [l.nm]).map D.str)) = W.dat (wayD (np ++ [l.nm])) from rfl, tbW_put]
            refine sw_cons ?_
            refine sw_expr ?_
            refine ew_append ?_
            refine ew_name 3 rfl ?_
            refine ⟨_, _, rfl, e2 _ _, ?_⟩
            refine ew_name 7 rfl ?_
            refine ⟨_, e2 _ _, ?_, ?_⟩
            · rw [List.length_map, List.length_map]
              exact Nat.lt_of_le_of_lt (Nat.le_trans (by omega : fs.length ≤ cur.length) (Nat.le_trans hroom hbig)) (by decide)
            rw [u2]
            refine sw_nil ?_
            refine sw_nil ?_
            refine sw_nil ?_
            have hw' : WayL ls s x l.tgt (l.F p.2) (np ++ [l.nm]) := .step wp hlm e
            have hX2 := hX.add (q := (l.tgt, l.F p.2)) hv hw' (by rw [List.length_append, hnp]; rfl)
            have keep : ∀ q, (valA cur (kS q)).isSome = true → (valA (putA cur (kS (l.tgt, l.F p.2)) (wayD (np ++ [l.nm]))) (kS q)).isSome = true := fun q h => by
              rw [valA_put]
              split
              · rfl
              · exact h
            refine ⟨_, fs ++ [(l.tgt, l.F p.2)], _, _, hX2, fun a ha l' hl' el => keep _ (hd a ha l' hl' el), fun l' hl' el => ?_, rfl, by rw [List.map_append, List.map_append]; rfl⟩
            rw [List.take_succ, hl] at hl'
            rcases List.mem_append.mp hl' with h | h
            · exact keep _ (hm l' h el)
            · obtain rfl := List.mem_singleton.mp h
              rw [valA_put, if_pos rfl]
              rfl
        · refine sw_nil ?_
          refine sw_nil ?_
          refine ⟨cur, fs, _, _, hX, hd, fun l' hl' el => ?_, rfl, rfl⟩
          rw [List.take_succ, hl] at hl'
          rcases List.mem_append.mp hl' with h | h
          · exact hm l' h el
          · obtain rfl := List.mem_singleton.mp h
            exact absurd el e
      · clear hX hd cur fs x4 x5 x6 x7
        obtain ⟨cur, fs, x6, x7, hX, hd, hm, rfl, rfl⟩ := hI
        refine sw_nil ?_
        refine ⟨cur, fs, _, _, _, _, hX, fun a ha l hl e => ?_, rfl, rfl⟩
        rw [List.take_succ, hp'] at ha
        rcases List.mem_append.mp ha with h | h
        · exact hd a h l hl e
        · obtain rfl := List.mem_singleton.mp h
          refine hm l ?_ e
          rw [List.length_map, List.length_map, List.take_length]
          exact hl
    · obtain ⟨cur, fs, x4, x5, x6, x7, hX, hd, rfl, rfl⟩ := hI
      rw [List.length_map, List.length_map, List.take_length] at hd
      exact ⟨cur, fs, x4, x5, x6, x7, hX, hd, rfl, rfl⟩
  rintro sl st ⟨cur, fs, x4, x5, x6, x7, hX, hd, rfl, rfl⟩
  refine sw_frz 3 rfl (e2 _ _) ?_ ?_
  · show Al.length ≤ _
    omega
  rw [u2]
  refine sw_cons ?_
  refine sw_ret ?_
  refine ew_name 3 rfl ?_
  refine ⟨st0.set j (.dtt (tbW cur)), [.gone], rfl, by simp, clos_set hcl (clo_tbWx _), trivial, q cur fs (hX.done L hd) hX.len⟩
end Kf
namespace Kf
open PySem PySem.Spec L2 StX ClX Dn
open PyProof.Rows hiding St
variable {P : Program} {w : World} {K : PySem.W.Frag} {mg : Str → Option Value} {base : Heap}
def F_reach (CY CS CL C : Addr) : FT := fun args st Ret _ => ∃ (N : Nat) (ss : List Sc) (ls : List Lk) (s t : Str) (x y : Int), args = [.dat (syD CY CS CL C ss ls), .dat (.str s), .dat (.int x), .dat (.str t), .dat (.int y)] ∧ SyOk C N ss ls ∧ s ∈ ss.map (·.nm) ∧ t ∈ ss.map (·.nm) ∧ 0 ≤ x ∧ x ≤ tpA ss s ∧ 0 ≤ y ∧ y ≤ tpA ss t ∧
  ((∀ ns, ¬ WayL ls s x t y ns) → Ret (.dat .non) st) ∧ ∀ ns, WayL ls s x t y ns → (∀ ns', WayL ls s x t y ns' → ns.length ≤ ns'.length) → Ret (.dat (wayD ns)) st
theorem syF_nosc {CS CL C : Addr} (ss : List Sc) (ls : List Lk) : (syF CS CL C ss ls).lookup ("scale" : Str) = none := by
  have h1 : (("scale" : Str) == ("scales" : Str)) = false := by decide +kernel
  have h2 : (("scale" : Str) == ("links" : Str)) = false := by decide +kernel
  simp [syF, List.lookup, h1, h2]
theorem find_nm {ss : List Sc} {x : Str} (h : x ∈ ss.map (·.nm)) : ∃ s, (ss.find? fun s => decide (s.nm = x)) = some s ∧ s.nm = x ∧ s ∈ ss := by
  obtain ⟨a, ha, rfl⟩ := List.mem_map.mp h
  cases e : ss.find? (fun s => decide (s.nm = a.nm)) with
  | none => exact absurd (List.find?_eq_none.mp e a ha) (by simp)
  | some s => exact ⟨s, rfl, by simpa using List.find?_some e, List.mem_of_find?_eq_some e⟩
theorem lv_zero {ls : List Lk} {s : Str} {x : Int} : Lv ls s x [(kS (s, x), wayD [])] 0 [(s, x)] := by
  have z : ∀ q d, valA [(kS (s, x), wayD [])] (kS q) = some d → q = (s, x) ∧ d = wayD [] := fun q d h => by
    rw [valA_cons] at h
    split at h
    · rename_i e
      exact ⟨(kS_inj e).symm, (Option.some.inj h).symm⟩
    · cases h
  have me : Wy [(kS (s, x), wayD [])] (s, x) [] := by
    unfold Wy
    rw [valA_cons, if_pos rfl]
  refine ⟨by simp, fun p hp => ⟨(s, x), by rw [List.mem_singleton.mp hp]⟩, fun q d h => ?_, fun t y ns w hl => ?_, fun q ns h _ => ?_, fun q hq => ?_⟩
  · obtain ⟨rfl, rfl⟩ := z q d h
    exact ⟨[], rfl, .refl _ _, Nat.le_refl _⟩
  · cases w with
    | refl => exact ⟨[], me, Nat.le_refl _⟩
    | step => rw [List.length_append] at hl; exact absurd hl (by simp)
  · rw [(z q _ h).1]; simp
  · rw [List.mem_singleton.mp hq]
    exact ⟨[], me, rfl⟩
theorem Lv.full {ls : List Lk} {s : Str} {x : Int} {kvs : Tb} {k : Nat} (h : Lv ls s x kvs k []) {t : Str} {y : Int} {ns : List Str} (w : WayL ls s x t y ns) : ∃ ns', Wy kvs (t, y) ns' ∧ ns'.length ≤ ns.length := by
  induction w with
  | refl => exact h.all _ _ _ (.refl _ _) (Nat.zero_le _)
  | @step a u ns0 l w0 hl e ih =>
    obtain ⟨ns', hw, hle⟩ := ih
    obtain ⟨ns2, e2, w2, hk⟩ := h.ent _ _ hw
    have e2 := wayD_inj e2
    subst e2
    have hne : ns'.length ≠ k := fun hk => absurd (h.ends _ _ hw hk) List.not_mem_nil
    obtain ⟨ns3, hw3, hle3⟩ := h.all _ _ _ (WayL.step w2 hl e) (by rw [List.length_append]; show ns'.length + 1 ≤ k; omega)
    rw [List.length_append] at hle3
    exact ⟨ns3, hw3, by rw [List.length_append]; omega⟩
theorem ok_reach {f CY CS CL C : Addr} {fd : FuncData} (B : Bl mg) (TS : CTxt K CS scN) (C_isval : Cal P w K mg base 2 "is_value" F_is_value) (C_scale : Met P w K mg base 2 CY "scale" (F_syscale0 CY CS CL C)) (C_ext : Cal P w K mg base 4 "extend_ways" (F_extend CY CS CL C)) (Fn : Fun K "reach" "reach" s_reach f fd) (b : Binds K fd p_reach []) : FnG P w K mg base (L2.CX P w) 5 f (spD K (F_reach CY CS CL C)) := by
  refine fnD Fn sc_reach b (fun args st0 Ret Exc h => ?_) ?_
  · obtain ⟨N, ss, ls, s, t, x, y, rfl, _⟩ := h
    rfl
  intro cdv A outer s0 H E H0 Al args st0 Ret Exc hr xk hp hal hcl hF
  obtain ⟨N, ss, ls, s, t, x, y, rfl, S, hs, ht, x0, x1, y0, y1, q1, q2⟩ := hF
  obtain ⟨a, fa, ea, ma⟩ := find_nm hs
  obtain ⟨c, fc, ec, mc⟩ := find_nm ht
  have ta : tpA ss s = a.top := by rw [← ea]; exact tpA_mem S.sc.2.2 ma
  have tc : tpA ss t = c.top := by rw [← ec]; exact tpA_mem S.sc.2.2 mc
  refine sw_cons ?_
  refine sw_set 5 ?_ sc_reach.nd
  refine ew_meth (fs := []) C_scale hr (by decide) xk ?_
  refine ew_name 0 rfl ?_
  refine ⟨_, rfl, syF_nosc _ _, ?_⟩
  refine aw_cons ?_
  refine ew_name 1 rfl ?_
  refine aw_nil ?_
  refine ⟨ss, ls, s, a, rfl, fa, ?_⟩
  refine sw_cons ?_
  refine sw_set 6 ?_ sc_reach.nd
  refine ew_meth (fs := []) C_scale hr (by decide) xk ?_
  refine ew_name 0 rfl ?_
  refine ⟨_, rfl, syF_nosc _ _, ?_⟩
  refine aw_cons ?_
  refine ew_name 3 rfl ?_
  refine aw_nil ?_
  refine ⟨ss, ls, t, c, rfl, fc, ?_⟩
  show SW _ _ _ [some (.dat (syD CY CS CL C ss ls)), some (.dat (.str s)), some (.dat (.int x)), some (.dat (.str t)), some (.dat (.int y)), some (.dat (scD CS a)), some (.dat (scD CS c)), none, none, none] _ _
  refine sw_cons ?_
  refine sw_if ?_
  refine tw_mid false ?_ ?_
  · refine tw_not ?_
    refine tw_val ?_
    refine ew_call C_isval hr (by decide) xk ?_
    refine aw_cons ?_
    refine ew_name 2 rfl ?_
    refine aw_cons ?_
    refine ew_fld ?_
    refine ew_name 5 rfl ?_
    refine ⟨_, _, _, rfl, TS.cls, TS.no _ (by simp), scF_top _, ?_⟩
    refine aw_nil ?_
    refine ⟨_, _, _, rfl, rfl, ?_⟩
    refine ⟨_, rfl, ?_, rfl⟩
    show (!(decide (0 ≤ x) && decide (x ≤ a.top))) = false
    rw [decide_eq_true x0, decide_eq_true (by omega)]
    rfl
  refine ifF rfl ?_
  refine sw_nil ?_
  refine sw_cons ?_
  refine sw_if ?_
  refine tw_mid false ?_ ?_
  · refine tw_not ?_
    refine tw_val ?_
    refine ew_call C_isval hr (by decide) xk ?_
    refine aw_cons ?_
    refine ew_name 4 rfl ?_
    refine aw_cons ?_
    refine ew_fld ?_
    refine ew_name 6 rfl ?_
    refine ⟨_, _, _, rfl, TS.cls, TS.no _ (by simp), scF_top _, ?_⟩
    refine aw_nil ?_
    refine ⟨_, _, _, rfl, rfl, ?_⟩
    refine ⟨_, rfl, ?_, rfl⟩
    show (!(decide (0 ≤ y) && decide (y ≤ c.top))) = false
    rw [decide_eq_true y0, decide_eq_true (by omega)]
    rfl
  refine ifF rfl ?_
  refine sw_nil ?_
  refine sw_cons ?_
  refine sw_set 7 ?_ sc_reach.nd
  refine ew_tup ?_
  refine aw_cons ?_
  refine ew_fld ?_
  refine ew_name 6 rfl ?_
  refine ⟨_, _, _, rfl, TS.cls, TS.no _ (by simp), scF_name _, ?_⟩
  refine aw_cons ?_
  refine ew_name 4 rfl ?_
  refine aw_nil ?_
  refine ⟨_, rfl, (by show 2 ≤ sizeLine; decide), ?_⟩
  rw [ec]
  refine sw_cons ?_
  refine sw_set 8 ?_ sc_reach.nd
  refine ew_lst ?_
  refine aw_cons ?_
  refine ew_tup ?_
  refine aw_cons ?_
  refine ew_fld ?_
  refine ew_name 5 rfl ?_
  refine ⟨_, _, _, rfl, TS.cls, TS.no _ (by simp), scF_name _, ?_⟩
  refine aw_cons ?_
  refine ew_name 2 rfl ?_
  refine aw_nil ?_
  refine ⟨_, rfl, (by show 2 ≤ sizeLine; decide), ?_⟩
  refine aw_nil ?_
  refine ⟨_, rfl, (by show 1 ≤ sizeLine; decide), ?_⟩
  rw [ea]
  refine sw_cons ?_
  refine sw_set 9 ?_ sc_reach.nd
  refine ew_disp1T (g := kS (s, x)) (v := wayD []) (Nat.lt_of_succ_lt hr.u1) (fun G' => ?_) ?_
  · refine ew_ix ?_
    refine ew_name 8 rfl ?_
    refine ew_int ?_
    refine ⟨0, .dat (stD (s, x)), rfl, itm_lst (j := 0) rfl rfl, rfl, rfl, ?_⟩
    refine ew_tup ?_
    refine aw_nil ?_
    exact ⟨[], rfl, (by show 0 ≤ sizeLine; decide), rfl, rfl⟩
  show SW _ _ _ [some (.dat (syD CY CS CL C ss ls)), some (.dat (.str s)), some (.dat (.int x)), some (.dat (.str t)), some (.dat (.int y)), some (.dat (scD CS a)), some (.dat (scD CS c)), some (.dat (stD (t, y))), some (.dat (.lst ([(s, x)].map stD))), some (.ptr st0.length)] (st0 ++ [.dtt (tbW [(kS (s, x), wayD [])])]) _
  have e1 : ∀ o : Ob, (st0 ++ [o])[st0.length]? = some o := fun o => by simp
  have u1 : ∀ o o' : Ob, (st0 ++ [o]).set st0.length o' = st0 ++ [o'] := fun o o' => by simp
  have hbig : ss.length * N ≤ 100000 := Nat.le_trans (Nat.mul_le_mul S.sc.2.1 S.n100) (by decide)
  refine sw_cut (fun sl st => ∃ (kvs : Tb) (k : Nat) (es : List (Str × Int)), Lv ls s x kvs k es ∧ ((valA kvs (kS (t, y))).isSome = true ∨ es = []) ∧ sl = [some (.dat (syD CY CS CL C ss ls)), some (.dat (.str s)), some (.dat (.int x)), some (.dat (.str t)), some (.dat (.int y)), some (.dat (scD CS a)), some (.dat (scD CS c)), some (.dat (stD (t, y))), some (.dat (.lst (es.map stD))), some (.ptr st0.length)] ∧ st = st0 ++ [.dtt (tbW kvs)]) ?_ ?_
  · refine sw_while hp (fun m sl st => ∃ (kvs : Tb) (k : Nat) (es : List (Str × Int)), Lv ls s x kvs k es ∧ k + 1 ≤ kvs.length + (if es = [] then 1 else 0) ∧ m = 2 * (100001 - kvs.length) + (if es = [] then 0 else 1) ∧ sl = [some (.dat (syD CY CS CL C ss ls)), some (.dat (.str s)), some (.dat (.int x)), some (.dat (.str t)), some (.dat (.int y)), some (.dat (scD CS a)), some (.dat (scD CS c)), some (.dat (stD (t, y))), some (.dat (.lst (es.map stD))), some (.ptr st0.length)] ∧ st = st0 ++ [.dtt (tbW kvs)]) (2 * (100001 - 1) + 1) ?_ (fun m sl st hI => ?_)
    · exact ⟨_, 0, [(s, x)], lv_zero, by simp, by simp, rfl, rfl⟩
    · obtain ⟨kvs, k, es, hL, hk, rfl, rfl, rfl⟩ := hI
      have hroom := (Lx.zero hL).room S hL hs x0 x1
      refine tw_mid (!(valA kvs (kS (t, y))).isSome && decide (es ≠ [])) ?_ ?_
      · refine tw_bool ?_
        refine bw_and ?_
        refine tw_cmp (by rfl) ?_
        refine ew_name 7 rfl ?_
        refine ew_name 9 rfl ?_
        refine o_notinDk hr (DLook.t (e1 _) (keyT_stD (t, y))) ?_
        rw [tbW_val, Option.isSome_map]
        refine ⟨_, rfl, ?_⟩
        cases hv : (valA kvs (kS (t, y))).isSome with
        | true => exact ⟨rfl, rfl⟩
        | false =>
          refine ifT rfl ?_
          refine bw_and1 ?_
          refine tw_cmp (nomark _) ?_
          refine ew_blt bt_len B.len ?_
          refine aw_cons ?_
          refine ew_name 8 rfl ?_
          refine aw_nil ?_
          refine c_len rfl ?_
          refine ew_int ?_
          refine o_gt ?_
          refine ⟨_, rfl, ?_, rfl⟩
          rw [List.length_map]
          cases es with
          | nil => rfl
          | cons => simp
      · by_cases hc : (valA kvs (kS (t, y))).isSome = false ∧ es ≠ []
        · refine ifT (by rw [hc.1, decide_eq_true hc.2]; rfl) ?_
          rw [if_neg hc.2] at hk
          refine sw_cons ?_
          refine sw_set 8 ?_ sc_reach.nd
          refine ew_call C_ext hr (by decide) xk ?_
          refine aw_cons ?_
          refine ew_name 0 rfl ?_
          refine aw_cons ?_
          refine ew_name 9 rfl ?_
          refine aw_cons ?_
          refine ew_name 8 rfl ?_
          refine aw_nil ?_
          refine ⟨N, ss, ls, st0.length, s, x, kvs, k, es, rfl, e1 _, S, hs, x0, x1, hL, by omega, fun cur fs hL2 hlen => ?_⟩
          have hroom2 := (Lx.zero hL2).room S hL2 hs x0 x1
          rw [u1]
          refine sw_nil ?_
          refine ⟨2 * (100001 - cur.length) + (if fs = [] then 0 else 1), ?_, cur, k + 1, fs, hL2, ?_, rfl, rfl, rfl⟩
          · rw [if_neg hc.2]
            cases fs with
            | nil => simp at hlen ⊢; omega
            | cons f fs => simp at hlen ⊢; omega
          · cases fs with
            | nil => simp at hlen ⊢; omega
            | cons f fs => simp at hlen ⊢; omega
        · refine ifF ?_ ?_
          · cases hv : (valA kvs (kS (t, y))).isSome with
            | true => rfl
            | false =>
              have : es = [] := Classical.byContradiction fun h => hc ⟨hv, h⟩
              rw [this]; rfl
          refine ⟨kvs, k, es, hL, ?_, rfl, rfl⟩
          cases hv : (valA kvs (kS (t, y))).isSome with
          | true => exact .inl rfl
          | false => exact .inr (Classical.byContradiction fun h => hc ⟨hv, h⟩)
  rintro sl st ⟨kvs, k, es, hL, hdone, rfl, rfl⟩
  refine sw_cons ?_
  refine sw_ret ?_
  refine ew_dget1 hr ?_
  refine ew_name 9 rfl ?_
  refine ⟨.inr (.inl ⟨_, _, rfl, e1 _⟩), ?_⟩
  refine ew_name 7 rfl ?_
  refine ⟨_, DLook.t (e1 _) (keyT_stD (t, y)), ?_⟩
  rw [tbW_val]
  cases hv : valA kvs (kS (t, y)) with
  | none =>
    refine krE_app hcl (q1 fun ns w => ?_)
    rcases hdone with h | rfl
    · rw [hv] at h; cases h
    · obtain ⟨ns', hw, _⟩ := hL.full w
      unfold Wy at hw
      rw [hv] at hw
      cases hw
  | some d =>
    obtain ⟨ns, rfl, w, hl⟩ := hL.ent (t, y) d hv
    refine krE_app hcl (q2 ns w fun ns' w' => ?_)
    by_cases h : ns'.length ≤ k
    · obtain ⟨ns2, h2, h3⟩ := hL.all t y ns' w' h
      rw [Wy.same hv h2]
      exact h3
    · omega
end Kf
namespace Kf
open PySem PySem.Spec L2 StX ClX Dn
open PyProof.Rows hiding St
variable {P : Program} {w : World} {K : PySem.W.Frag} {mg : Str → Option Value} {base : Heap}
theorem wl_nil {ls : List Lk} {a : Str} {u : Int} {t : Str} {y : Int} {ns : List Str} (w : WayL ls a u t y ns) (e : ns = []) : a = t ∧ u = y := by
  cases w with
  | refl => exact ⟨rfl, rfl⟩
  | step => exact absurd e (by simp)
theorem wl_head {ls : List Lk} {a : Str} {u : Int} {t : Str} {y : Int} {ns : List Str} (w : WayL ls a u t y ns) : ∀ {n : Str} {r : List Str}, ns = n :: r → ∃ l ∈ ls, l.nm = n ∧ l.src = a ∧ WayL ls l.tgt (l.F u) t y r := by
  induction w with
  | refl => intro n r e; cases e
  | @step b v ns0 l w hl el ih =>
    intro n r e
    cases hns : ns0 with
    | nil =>
      rw [hns] at e
      simp only [List.nil_append, List.cons.injEq] at e
      obtain ⟨h1, h2⟩ := wl_nil w hns
      subst h1 h2
      rw [← e.2]
      exact ⟨l, hl, e.1, el, .refl _ _⟩
    | cons m r0 =>
      rw [hns] at e
      simp only [List.cons_append, List.cons.injEq] at e
      obtain ⟨l0, h0, e0, es, w0⟩ := ih hns
      exact ⟨l0, h0, e0.trans e.1, es, by rw [← e.2]; exact .step w0 hl el⟩
def F_lend : FT := fun args st Ret _ => ∃ (most many great : Int) (hs : List Hd) (ts : List Ti) (s t : Str) (x y : Int) (ns : List Str), args = [.dat (tolD hs ts), .dat (wayD ns), .dat (.str s), .dat (.int x)] ∧ TolOk most many great hs ts ∧ most ≤ 16 ∧ many ≤ 16 ∧ great ≤ 90 ∧ s ∈ hs.map (·.1) ∧ 0 ≤ x ∧ x ≤ tpA (hs.map scOf) s ∧ WayL (ts.map (lkOf hs)) s x t y ns ∧ Ret (.dat (stD (t, y))) st
theorem ok_lend {f : Addr} {fd : FuncData} (hdct : mg "dict" = none) (Fn : Fun K "_law_end" "_law_end" s__law_end f fd) (b : Binds K fd p__law_end []) : FnG P w K mg base (L2.CX P w) 1 f (spD K F_lend) := by
  refine fnD Fn sc__law_end b (fun args st0 Ret Exc h => ?_) ?_
  · obtain ⟨most, many, great, hs, ts, s, t, x, y, ns, rfl, _⟩ := h
    rfl
  intro cdv A outer s0 H E H0 Al args st0 Ret Exc hr xk hp hal hcl hF
  obtain ⟨most, many, great, hs, ts, s, t, x, y, ns, rfl, T, hm1, hm2, hg, hsm, x0, x1, w, q⟩ := hF
  have S := sy_of (C := f) (N := 91) T hm1 hm2 (by omega) (by omega)
  rw [← nm_scOf] at hsm
  generalize hls : ts.map (lkOf hs) = ls at S w
  have ln2 := T.ln2
  refine sw_cons ?_
  refine sw_set 4 ?_ sc__law_end.nd
  refine ew_bty (by rfl) hdct ?_
  refine aw_cons ?_
  refine ew_lc (own := [("_law_one", 9)]) (tb := false) (is := [9]) rfl sc__law_end.nd (blkOk_by (N := n__law_end) (sc := defScope s__law_end) (by decide +kernel)) (fun _ _ _ _ _ => pg_name (i := 9) sc__law_end.nd rfl (Or.inl rfl)) (by decide) ?_
  refine lcj_map ts tiD (fun t : Ti => D.tup [.str t.1, .tup [.str t.2.1, .str t.2.2.1, .tup (t.2.2.2.map D.int)]]) (szl (by omega)) ?_ ?_ ?_
  · refine iw_list ?_
    refine ew_ix ?_
    refine ew_name 0 rfl ?_
    refine ew_int ?_
    refine ⟨1, _, rfl, itm_tup (j := 1) rfl rfl, ?_⟩
    exact ⟨_, rfl, rfl, rfl⟩
  · intro t ht
    refine ⟨_, rfl, fun G1 sb Hb Cb cl fp => ?_⟩
    refine ew_tup ?_
    refine aw_cons ?_
    refine ew_ix ?_
    refine ew_name 9 rfl ?_
    refine ew_int ?_
    refine ⟨0, _, rfl, itm_tup (j := 0) rfl rfl, ?_⟩
    refine aw_cons ?_
    refine ew_sliceT ?_
    refine ew_name 9 rfl ?_
    refine pt_some ?_
    refine ew_int ?_
    refine ⟨1, rfl, ?_⟩
    refine pt_none ?_
    refine ⟨_, rfl, (by show ¬ (HT.sIx 4 0 (some 1) = 0 ∧ _); exact fun h => absurd h.1 (by decide)), ?_⟩
    refine aw_nil ?_
    exact ⟨_, rfl, (by show 2 ≤ sizeLine; decide), rfl, rfl⟩
  refine aw_nil ?_
  refine c_dictP (kvs := ts.map fun t : Ti => ((Sum.inr t.1 : Key), D.tup [.str t.2.1, .str t.2.2.1, .tup (t.2.2.2.map D.int)])) rfl (by rw [List.map_map]; rfl) ?_ ?_
  · rw [List.map_map]
    exact nodup_keys (f := fun t : Ti => t.1) T.nd2
  generalize hkv : (ts.map fun t : Ti => ((Sum.inr t.1 : Key), D.tup [.str t.2.1, .str t.2.2.1, .tup (t.2.2.2.map D.int)])) = kvs
  have hval : ∀ τ ∈ ts, valA kvs (.inr τ.1) = some (D.tup [.str τ.2.1, .str τ.2.2.1, .tup (τ.2.2.2.map D.int)]) := fun τ hτ => by
    rw [← hkv]
    refine valA_of_mem ?_ (List.mem_map.mpr ⟨τ, hτ, rfl⟩)
    rw [List.map_map]
    exact nodup_keys (f := fun t : Ti => t.1) T.nd2
  show SW _ _ _ [some (.dat (tolD hs ts)), some (.dat (wayD ns)), some (.dat (.str s)), some (.dat (.int x)), some (.ptr st0.length), none, none, none, none, none] (st0 ++ [.dct (kvs.map fun p => (p.1, W.dat p.2))]) _
  refine sw_frzK (kvs := kvs) 4 rfl (by simp) ?_ ?_
  · show Al.length ≤ _
    omega
  rw [List.set_append_right _ _ (Nat.le_refl _), Nat.sub_self]
  show SW _ _ _ [some (.dat (tolD hs ts)), some (.dat (wayD ns)), some (.dat (.str s)), some (.dat (.int x)), some (.dat (.dk kvs)), none, none, none, none, none] (st0 ++ [.gone]) _
  refine sw_cut (fun sl st => ∃ (x5 x6 x7 x8 : Option W), sl = [some (.dat (tolD hs ts)), some (.dat (wayD ns)), some (.dat (.str t)), some (.dat (.int y)), some (.dat (.dk kvs)), x5, x6, x7, x8, none] ∧ st = st0 ++ [.gone]) ?_ ?_
  · refine sw_for hp rfl ?_
    refine iw_tup ?_
    refine ew_name 1 rfl ?_
    refine ⟨_, rfl, ?_⟩
    refine ⟨fun i sl st => ∃ (a : Str) (u : Int) (x5 x6 x7 x8 : Option W), a ∈ (hs.map scOf).map (·.nm) ∧ 0 ≤ u ∧ u ≤ tpA (hs.map scOf) a ∧ WayL ls a u t y (ns.drop i) ∧ sl = [some (.dat (tolD hs ts)), some (.dat (wayD ns)), some (.dat (.str a)), some (.dat (.int u)), some (.dat (.dk kvs)), x5, x6, x7, x8, none] ∧ st = st0 ++ [.gone], ⟨s, x, none, none, none, none, hsm, x0, x1, w, rfl, rfl⟩, fun i w' sl st hw hI => ?_, fun sl st hI => ?_⟩
    · obtain ⟨a, u, x5, x6, x7, x8, ha, u0, u1, wa, rfl, rfl⟩ := hI
      obtain ⟨d, hd, rfl⟩ := getElem?_mapW hw
      rw [List.getElem?_map] at hd
      obtain ⟨n, hn, rfl⟩ := Option.map_eq_some_iff.mp hd
      have hin := (List.getElem?_eq_some_iff.mp hn).1
      have edr : ns.drop i = n :: ns.drop (i + 1) := by
        rw [List.drop_eq_getElem_cons hin, (List.getElem?_eq_some_iff.mp hn).2]
      obtain ⟨l, hl, el, es, w1⟩ := wl_head wa edr
      have hlk := S.link hl
      have hl' := hl
      rw [← hls] at hl'
      obtain ⟨τ, hτ, rfl⟩ := List.mem_map.mp hl'
      obtain ⟨a1, c1, h1, h2, h3, h4⟩ := T.ok τ hτ
      have el : τ.1 = n := el
      have es : τ.2.1 = a := es
      have ea : tpA (hs.map scOf) a = a1 := tpA_scOf T.nd (by rw [← es]; exact h1)
      have hlt : u.toNat < τ.2.2.2.length := by omega
      have told : τ.2.2.2[u.toNat]? = some (tabF τ.2.2.2 u) := by
        rw [List.getElem?_eq_getElem hlt]
        unfold tabF
        rw [List.getD_eq_getElem?_getD, List.getElem?_eq_getElem hlt]
        rfl
      have r1 := (Way.step (Way.refl a u) hl (by exact es)).rng S ha u0 u1
      refine gw_name 5 ?_ sc__law_end.nd
      refine sw_cons ?_
      refine sw_asg ?_
      refine ew_dget hr ?_
      refine ew_name 4 rfl ?_
      refine ew_name 5 rfl ?_
      refine ⟨_, by have := DLook.dk (st := st0 ++ [.gone]) (kvs := kvs) (k := W.dat (.str n)) rfl; rw [← el, hval τ hτ, el] at this; exact this, ?_⟩
      refine gw_tup rfl ?_
      refine gs_cons ?_
      refine gw_name 6 ?_ sc__law_end.nd
      refine gs_cons ?_
      refine gw_name 7 ?_ sc__law_end.nd
      refine gs_cons ?_
      refine gw_name 8 ?_ sc__law_end.nd
      refine gs_nil ?_
      show SW _ _ _ [some (.dat (tolD hs ts)), some (.dat (wayD ns)), some (.dat (.str a)), some (.dat (.int u)), some (.dat (.dk kvs)), some (.dat (.str n)), some (.dat (.str τ.2.1)), some (.dat (.str τ.2.2.1)), some (.dat (.tup (τ.2.2.2.map D.int))), none] _ _
      refine sw_cons ?_
      refine sw_if ?_
      refine tw_cmp (nomark _) ?_
      refine ew_name 6 rfl ?_
      refine ew_name 2 rfl ?_
      refine o_neS ?_
      refine ⟨_, rfl, ?_⟩
      refine ifF (by rw [decide_eq_true es]; rfl) ?_
      refine sw_nil ?_
      refine sw_cons ?_
      refine sw_par 2 3 rfl ?_ sc__law_end.nd
      refine aw_cons ?_
      refine ew_name 7 rfl ?_
      refine aw_cons ?_
      refine ew_ix ?_
      refine ew_name 8 rfl ?_
      refine ew_name 3 rfl ?_
      refine ⟨_, _, rfl, itm_tup (j := u.toNat) (by rw [Int.toNat_of_nonneg u0]) (by rw [List.getElem?_map, told]; rfl), ?_⟩
      refine aw_nil ?_
      refine ⟨_, _, rfl, ?_⟩
      refine sw_nil ?_
      exact ⟨τ.2.2.1, tabF τ.2.2.2 u, _, _, _, _, r1.1, r1.2.1, r1.2.2, w1, rfl, rfl⟩
    · obtain ⟨a, u, x5, x6, x7, x8, ha, u0, u1, wa, rfl, rfl⟩ := hI
      rw [List.length_map, List.length_map, List.drop_length] at wa
      obtain ⟨rfl, rfl⟩ := wl_nil wa rfl
      exact ⟨_, _, _, _, rfl, rfl⟩
  rintro sl st ⟨x5, x6, x7, x8, rfl, rfl⟩
  refine sw_cons ?_
  refine sw_ret ?_
  refine ew_tup ?_
  refine aw_cons ?_
  refine ew_name 2 rfl ?_
  refine aw_cons ?_
  refine ew_name 3 rfl ?_
  refine aw_nil ?_
  exact ⟨_, rfl, (by show 2 ≤ sizeLine; decide), krE_app hcl q⟩
end Kf
namespace Kf
open PySem PySem.Spec L2 StX ClX Dn
open PyProof.Rows hiding St
variable {P : Program} {w : World} {K : PySem.W.Frag} {mg : Str → Option Value} {base : Heap}
def Kn (ls : List Lk) (s : Str) (x : Int) (kvs : Tb) : Prop := ∀ t y, ((valA kvs (kS (t, y))).isSome = true ↔ Way ls s x t y) ∧ ∀ ns, WayL ls s x t y ns → ∃ n, Di kvs (t, y) n ∧ (∃ ns, WayL ls s x t y ns ∧ ns.length = n) ∧ ∀ ns, WayL ls s x t y ns → n ≤ ns.length
def Fo (ls : List Lk) (s t : Str) (x y : Int) (w : W) : Prop := (w = .dat .non ∧ ∀ ns, ¬ WayL ls s x t y ns) ∨ ∃ ns, w = .dat (wayD ns) ∧ WayL ls s x t y ns ∧ ∀ ns', WayL ls s x t y ns' → ns.length ≤ ns'.length
theorem kn_of {ls : List Lk} {s : Str} {x : Int} {qs : List (Str × Int)} {kvs : Tb} (keys : kvs.map (·.1) = qs.map kS) (all : ∀ t y, (t, y) ∈ qs ↔ Way ls s x t y) (di : ∀ t y, (t, y) ∈ qs → ∃ n, Di kvs (t, y) n ∧ (∃ ns, WayL ls s x t y ns ∧ ns.length = n) ∧ ∀ ns, WayL ls s x t y ns → n ≤ ns.length) : Kn ls s x kvs := fun t y => by
  refine ⟨?_, fun ns w => di t y ((all t y).mpr w.way)⟩
  rw [valA_some, keys, ← all t y, List.mem_map]
  exact ⟨fun ⟨a, ha, e⟩ => by rw [← kS_inj e]; exact ha, fun hq => ⟨(t, y), hq, rfl⟩⟩
theorem Fo.none_iff {ls : List Lk} {s t : Str} {x y : Int} {w : W} {kvs : Tb} (h : Fo ls s t x y w) (k : Kn ls s x kvs) : isNon w = !(valA kvs (kS (t, y))).isSome := by
  have k1 := (k t y).1
  rcases h with ⟨rfl, hno⟩ | ⟨ns, rfl, hw, _⟩
  · cases hv : (valA kvs (kS (t, y))).isSome with
    | false => rfl
    | true =>
      obtain ⟨ns, hw⟩ := (k1.mp hv).l
      exact absurd hw (hno ns)
  · rw [k1.mpr hw.way]
    rfl
theorem o_neBB {X : Cx} {G : Ent} {sl : Sls} {st : List Ob} {Φ : WK} {i k : Bool} (h : Φ (.dat (.bl (!decide (i = k)))) st) : OW X G (compareOp .NotEq) sl st (.dat (.bl i)) (.dat (.bl k)) Φ := o_ne rfl rfl rfl (by
  have : decide (V.bl i = V.bl k) = decide (i = k) := by simp
  rw [this]; exact h)
theorem toPy_stD (q : Str × Int) : toPy (stD q) = some (.tuple [.str q.1, .int q.2]) := rfl
theorem shaped_stD (q : Str × Int) (h : PyData.strOk q.1 = true) : SeqAt.shaped (.tuple [.str q.1, .int q.2]) = true := by
  show (PyData.canLay0 (.tuple [.str q.1, .int q.2]) && _) = true
  simp [PyData.canLay0, PyData.canLayAll0, PyData.depth, PyData.depthAll, h]
theorem eqv_stD (q : Str × Int) (h : PyData.canLay0 (.str q.1) = true) : (!PyData.eqv (.tuple [.str q.1, .int q.2]) (.tuple [.str q.1, .int q.2])) = false := by
  rw [SeqAt.eqv_refl _ (by simp only [PyData.canLay0, PyData.canLayAll0, Bool.and_true]; exact h)]
  rfl
end Kf
namespace Kf
open PySem PySem.Spec L2 StX ClX Dn
open PyProof.Rows hiding St
variable {P : Program} {w : World} {K : PySem.W.Frag} {mg : Str → Option Value} {base : Heap}
def F_far : FT := fun args st Ret _ => ∃ (S : List Ob) (cs : List Int) (m : Int), args = [.ptr (S.length + 1)] ∧ st = dst S [] cs m ∧ cs.length ≤ 63 ∧ ∀ (cs' : List Int) (m' : Int), cs'.length ≤ 63 → Ret (.dat (.bl true)) (dst S [] cs' m')
theorem lst_pick {hs : List Hd} {d : D} (h : d ∈ hs.map hdD) : ∃ p ∈ hs, d = hdD p := by
  obtain ⟨p, hp, rfl⟩ := List.mem_map.mp h
  exact ⟨p, hp, rfl⟩
theorem fo_short {C : Addr} {N : Nat} {ss : List Sc} {ls : List Lk} {s : Str} {x : Int} {kvs : Tb} (k : Kn ls s x kvs) : True := trivial
theorem ok_far {f C CY CS CL : Addr} {fd : FuncData} (B : Bl mg) (C_draw : Cal P w K mg base 1 "_law_draw" F_draw) (C_pick : Cal P w K mg base 2 "_law_pick" F_pick) (C_sys : Cal P w K mg base 4 "_law_system" F_msystem) (C_sysof : Cal P w K mg base 8 "_law_system_of" (F_lsysof CY CS CL C)) (C_dist : Cal P w K mg base 1 "_law_distances" F_ldist2) (C_reach : Cal P w K mg base 5 "reach" (F_reach CY CS CL C)) (C_end : Cal P w K mg base 1 "_law_end" F_lend) (Fn : Fun K "_law_far_right" "_law_far_right" s__law_far_right f fd) (b : Binds K fd p__law_far_right []) : FnG P w K mg base (L2.CX P w) 9 f (spD K F_far) := by
  refine fnD Fn sc__law_far_right b (fun args st0 Ret Exc h => ?_) ?_
  · obtain ⟨S, cs, m, rfl, _⟩ := h
    rfl
  intro cdv A outer s0 H E H0 Al args st0 Ret Exc hr xk hp hal hcl hF
  obtain ⟨S, cs, m, rfl, rfl, hcs, q⟩ := hF
  refine sw_cons ?_
  refine sw_set 1 ?_ sc__law_far_right.nd
  refine ew_call C_sys hr (by decide) xk ?_
  refine aw_cons ?_
  refine ew_name 0 rfl ?_
  refine aw_cons ?_
  refine ew_int ?_
  refine aw_cons ?_
  refine ew_int ?_
  refine aw_cons ?_
  refine ew_int ?_
  refine aw_nil ?_
  refine ⟨S, [], cs, m, 4, 7, 39, rfl, rfl, by omega, by decide, by decide, by decide, by decide, by decide, by decide, fun hs ts cs1 m1 TT hl1 => ?_⟩
  have SS := sy_of (C := C) (N := 40) TT (by decide) (by decide) (by decide) (by decide)
  have hln := TT.ln
  have hne : 0 < hs.length := List.length_pos_iff.mpr TT.ne
  refine sw_cons ?_
  refine sw_set 2 ?_ sc__law_far_right.nd
  refine ew_call C_sysof hr (by decide) xk ?_
  refine aw_cons ?_
  refine ew_name 1 rfl ?_
  refine aw_nil ?_
  refine ⟨4, 7, 39, hs, ts, rfl, TT, by decide, by decide, by decide, ?_⟩
  generalize hSD : syD CY CS CL C (hs.map scOf) (ts.map (lkOf hs)) = sd
  show SW _ _ _ [some (.ptr (S.length + 1)), some (.dat (tolD hs ts)), some (.dat sd), none, none, none, none, none, none, none, none, none] _ _
  refine sw_cut (fun sl st => ∃ (cs2 : List Int) (m2 : Int) (x3 x4 x5 x6 x7 x8 x9 x10 x11 : Option W), cs2.length ≤ 63 ∧ sl = [some (.ptr (S.length + 1)), some (.dat (tolD hs ts)), some (.dat sd), x3, x4, x5, x6, x7, x8, x9, x10, x11] ∧ st = dst S [] cs2 m2) ?_ ?_
  · refine sw_for hp rfl ?_
    refine iw_range1 B.range ?_
    refine aw_cons ?_
    refine ew_int ?_
    refine aw_nil ?_
    refine ⟨_, rfl, by decide, by decide, ?_⟩
    refine ⟨fun i sl st => ∃ (cs2 : List Int) (m2 : Int) (x3 x4 x5 x6 x7 x8 x9 x10 x11 : Option W), cs2.length ≤ 63 ∧ sl = [some (.ptr (S.length + 1)), some (.dat (tolD hs ts)), some (.dat sd), x3, x4, x5, x6, x7, x8, x9, x10, x11] ∧ st = dst S [] cs2 m2, ⟨cs1, m1, none, none, none, none, none, none, none, none, none, by omega, rfl, rfl⟩, fun i w sl st hw hI => ?_, fun sl st hI => hI⟩
    obtain ⟨cs2, m2, x3, x4, x5, x6, x7, x8, x9, x10, x11, hl2, rfl, rfl⟩ := hI
    obtain ⟨hi, rfl⟩ := getElem?_rng hw
    refine gw_name 3 ?_ sc__law_far_right.nd
    refine sw_cons ?_
    refine sw_asg ?_
    refine ew_tup ?_
    refine aw_cons ?_
    refine ew_call C_pick hr (by decide) xk ?_
    refine aw_cons ?_
    refine ew_name 0 rfl ?_
    refine aw_cons ?_
    refine ew_ix ?_
    refine ew_name 1 rfl ?_
    refine ew_int ?_
    refine ⟨0, _, rfl, itm_tup (j := 0) rfl rfl, ?_⟩
    refine aw_nil ?_
    refine ⟨S, [], cs2, m2, hs.map hdD, rfl, rfl, by omega, by rw [List.length_map]; omega, by rw [List.length_map]; omega, fun d3 cs3 m3 hd3 hl3 => ?_⟩
    obtain ⟨h, hm3, rfl⟩ := lst_pick hd3
    refine aw_cons ?_
    refine ew_call C_pick hr (by decide) xk ?_
    refine aw_cons ?_
    refine ew_name 0 rfl ?_
    refine aw_cons ?_
    refine ew_ix ?_
    refine ew_name 1 rfl ?_
    refine ew_int ?_
    refine ⟨0, _, rfl, itm_tup (j := 0) rfl rfl, ?_⟩
    refine aw_nil ?_
    refine ⟨S, [], cs3, m3, hs.map hdD, rfl, rfl, by omega, by rw [List.length_map]; omega, by rw [List.length_map]; omega, fun d4 cs4 m4 hd4 hl4 => ?_⟩
    obtain ⟨k, hm4, rfl⟩ := lst_pick hd4
    refine aw_nil ?_
    refine ⟨[hdD h, hdD k], rfl, (by show 2 ≤ sizeLine; decide), ?_⟩
    refine gw_tup rfl ?_
    refine gs_cons ?_
    refine gw_tup (ds := [.str h.1, .int h.2]) rfl ?_
    refine gs_cons ?_
    refine gw_name 8 ?_ sc__law_far_right.nd
    refine gs_cons ?_
    refine gw_name 9 ?_ sc__law_far_right.nd
    refine gs_nil ?_
    refine gs_cons ?_
    refine gw_tup (ds := [.str k.1, .int k.2]) rfl ?_
    refine gs_cons ?_
    refine gw_name 10 ?_ sc__law_far_right.nd
    refine gs_cons ?_
    refine gw_name 11 ?_ sc__law_far_right.nd
    refine gs_nil ?_
    refine gs_nil ?_
    have hh := TT.tp h hm3
    have hk := TT.tp k hm4
    have hsm : h.1 ∈ hs.map (·.1) := List.mem_map_of_mem (f := fun h : Hd => h.1) hm3
    have hkm : k.1 ∈ hs.map (·.1) := List.mem_map_of_mem (f := fun h : Hd => h.1) hm4
    have hth : tpA (hs.map scOf) h.1 = h.2 := tpA_scOf TT.nd hm3
    have htk : tpA (hs.map scOf) k.1 = k.2 := tpA_scOf TT.nd hm4
    have hstr := (nm16_ok _ (TT.nm k hm4)).2
    refine sw_cons ?_
    refine sw_par 4 5 rfl ?_ sc__law_far_right.nd
    refine aw_cons ?_
    refine ew_call C_draw hr (by decide) xk ?_
    refine aw_cons ?_
    refine ew_name 0 rfl ?_
    refine aw_cons ?_
    refine ew_bin ?_
    refine ew_name 9 rfl ?_
    refine ew_int ?_
    refine o_add ?_
    refine aw_nil ?_
    refine ⟨S, [], cs4, m4, _, rfl, rfl, by omega, by omega, by omega, fun u cs5 m5 u0 u1 hl5 => ?_⟩
    refine aw_cons ?_
    refine ew_call C_draw hr (by decide) xk ?_
    refine aw_cons ?_
    refine ew_name 0 rfl ?_
    refine aw_cons ?_
    refine ew_bin ?_
    refine ew_name 11 rfl ?_
    refine ew_int ?_
    refine o_add ?_
    refine aw_nil ?_
    refine ⟨S, [], cs5, m5, _, rfl, rfl, by omega, by omega, by omega, fun v cs6 m6 v0 v1 hl6 => ?_⟩
    refine aw_nil ?_
    refine ⟨_, _, rfl, ?_⟩
    have hx0 := u0
    have hx1 : u ≤ tpA (hs.map scOf) h.1 := by omega
    show SW _ _ _ [some (.ptr (S.length + 1)), some (.dat (tolD hs ts)), some (.dat sd), some (.dat (.int (0 + (i : Int)))), some (.dat (.int u)), some (.dat (.int v)), x6, x7, some (.dat (.str h.1)), some (.dat (.int h.2)), some (.dat (.str k.1)), some (.dat (.int k.2))] _ _
    refine sw_cons ?_
    refine sw_par 6 7 rfl ?_ sc__law_far_right.nd
    refine aw_cons ?_
    refine ew_call C_dist hr (by decide) xk ?_
    refine aw_cons ?_
    refine ew_name 1 rfl ?_
    refine aw_cons ?_
    refine ew_tup ?_
    refine aw_cons ?_
    refine ew_name 8 rfl ?_
    refine aw_cons ?_
    refine ew_name 4 rfl ?_
    refine aw_nil ?_
    refine ⟨_, rfl, (by show 2 ≤ sizeLine; decide), ?_⟩
    refine aw_nil ?_
    refine ⟨4, 7, 39, hs, ts, h.1, u, rfl, TT, by decide, by decide, by decide, hsm, hx0, hx1, fun qs kvs _ keys _ all di => ?_⟩
    have hkn := kn_of keys all di
    refine aw_cons ?_
    refine EW.imp (Φ' := fun w st' => st' = dst S [] cs6 m6 ∧ Fo (ts.map (lkOf hs)) h.1 k.1 u v w) ?_ ?_
    · refine ew_call C_reach hr (by decide) xk ?_
      refine aw_cons ?_
      refine ew_name 2 rfl ?_
      refine aw_cons ?_
      refine ew_name 8 rfl ?_
      refine aw_cons ?_
      refine ew_name 4 rfl ?_
      refine aw_cons ?_
      refine ew_name 10 rfl ?_
      refine aw_cons ?_
      refine ew_name 5 rfl ?_
      refine aw_nil ?_
      refine ⟨40, hs.map scOf, ts.map (lkOf hs), h.1, k.1, u, v, by rw [hSD], SS, by rw [nm_scOf]; exact hsm, by rw [nm_scOf]; exact hkm, hx0, hx1, by omega, by omega, fun hno => ⟨rfl, .inl ⟨rfl, hno⟩⟩, fun ns hw hmin => ⟨rfl, .inr ⟨ns, rfl, hw, hmin⟩⟩⟩
    rintro wf _ ⟨rfl, hfo⟩
    refine aw_nil ?_
    refine ⟨_, _, rfl, ?_⟩
    show SW _ _ _ [some (.ptr (S.length + 1)), some (.dat (tolD hs ts)), some (.dat sd), some (.dat (.int (0 + (i : Int)))), some (.dat (.int u)), some (.dat (.int v)), some (.dat (.dt kvs)), some wf, some (.dat (.str h.1)), some (.dat (.int h.2)), some (.dat (.str k.1)), some (.dat (.int k.2))] _ _
    refine sw_cons ?_
    refine sw_if ?_
    refine tw_mid false ?_ ?_
    · refine tw_cmp (nomark _) ?_
      refine ew_cmp (nomark _) ?_
      refine ew_name 7 rfl ?_
      refine ew_non ?_
      refine o_isN ?_
      refine ew_cmp (by rfl) ?_
      refine ew_tup ?_
      refine aw_cons ?_
      refine ew_name 10 rfl ?_
      refine aw_cons ?_
      refine ew_name 5 rfl ?_
      refine aw_nil ?_
      refine ⟨_, rfl, (by show 2 ≤ sizeLine; decide), ?_⟩
      refine ew_name 6 rfl ?_
      refine o_notinDk hr (DLook.dt (keyT_stD (k.1, v))) ?_
      refine o_neBB ?_
      rw [hfo.none_iff hkn, Option.isSome_map]
      exact ⟨_, rfl, by simp, rfl⟩
    refine ifF rfl ?_
    refine sw_nil ?_
    refine sw_cons ?_
    refine sw_if ?_
    refine tw_mid false ?_ ?_
    · refine tw_bool ?_
      refine bw_and ?_
      refine tw_cmp (nomark _) ?_
      refine ew_name 7 rfl ?_
      refine ew_non ?_
      refine o_notN ?_
      refine ⟨_, rfl, ?_⟩
      rcases hfo with ⟨rfl, _⟩ | ⟨nw, rfl, hw, hmin⟩
      · refine ifF rfl ?_
        exact ⟨rfl, rfl⟩
      · refine ifT rfl ?_
        refine bw_and1 ?_
        obtain ⟨nn, hdi, ⟨ns1, hw1, hl1⟩, hm1⟩ := (hkn k.1 v).2 nw hw
        have hnn : nn = nw.length := Nat.le_antisymm (hm1 nw hw) (by rw [← hl1]; exact hmin ns1 hw1)
        refine tw_cmp (nomark _) ?_
        refine ew_blt bt_len B.len ?_
        refine aw_cons ?_
        refine ew_name 7 rfl ?_
        refine aw_nil ?_
        refine c_len (n := nw.length) (by show some (nw.map D.str).length = _; rw [List.length_map]) ?_
        refine ew_dget hr ?_
        refine ew_name 6 rfl ?_
        refine ew_tup ?_
        refine aw_cons ?_
        refine ew_name 10 rfl ?_
        refine aw_cons ?_
        refine ew_name 5 rfl ?_
        refine aw_nil ?_
        refine ⟨_, rfl, (by show 2 ≤ sizeLine; decide), ?_⟩
        refine ⟨_, by have := DLook.dt (st := dst S [] cs6 m6) (kvs := kvs) (keyT_stD (k.1, v)); rw [show valA kvs (kS (k.1, v)) = some (.int (nn : Int)) from hdi] at this; exact this, ?_⟩
        refine o_neI ?_
        rw [hnn]
        exact ⟨_, rfl, by simp, rfl⟩
    refine ifF rfl ?_
    refine sw_nil ?_
    refine sw_cons ?_
    refine sw_if ?_
    refine tw_mid false ?_ ?_
    · refine tw_bool ?_
      refine bw_and ?_
      refine tw_cmp (nomark _) ?_
      refine ew_name 7 rfl ?_
      refine ew_non ?_
      refine o_notN ?_
      refine ⟨_, rfl, ?_⟩
      rcases hfo with ⟨rfl, _⟩ | ⟨nw, rfl, hw, hmin⟩
      · refine ifF rfl ?_
        exact ⟨rfl, rfl⟩
      · refine ifT rfl ?_
        refine bw_and1 ?_
        refine tw_cmp (nomark _) ?_
        refine ew_call C_end hr (by decide) xk ?_
        refine aw_cons ?_
        refine ew_name 1 rfl ?_
        refine aw_cons ?_
        refine ew_name 7 rfl ?_
        refine aw_cons ?_
        refine ew_name 8 rfl ?_
        refine aw_cons ?_
        refine ew_name 4 rfl ?_
        refine aw_nil ?_
        refine ⟨_, _, _, hs, ts, h.1, k.1, u, v, nw, rfl, TT, by decide, by decide, by decide, hsm, hx0, hx1, hw, ?_⟩
        refine ew_tup ?_
        refine aw_cons ?_
        refine ew_name 10 rfl ?_
        refine aw_cons ?_
        refine ew_name 5 rfl ?_
        refine aw_nil ?_
        refine ⟨_, rfl, (by show 2 ≤ sizeLine; decide), ?_⟩
        refine o_neD hr (toPy_stD (k.1, v)) (toPy_stD (k.1, v)) (shaped_stD (k.1, v) hstr) (shaped_stD (k.1, v) hstr) ?_
        rw [eqv_stD (k.1, v) hstr]
        exact ⟨_, rfl, rfl, rfl⟩
    refine ifF rfl ?_
    refine sw_nil ?_
    refine sw_nil ?_
    exact ⟨cs6, m6, _, _, _, _, _, _, _, _, _, by omega, rfl, rfl⟩
  rintro sl st ⟨cs2, m2, x3, x4, x5, x6, x7, x8, x9, x10, x11, hl2, rfl, rfl⟩
  refine sw_cons ?_
  refine sw_ret ?_
  refine ew_bl ?_
  exact krE_dst hcl (q cs2 m2 hl2)
end Kf
namespace Kf
open PySem PySem.Spec L2 StX ClX Dn
open PyProof.Rows hiding St
variable {P : Program} {w : World} {K : PySem.W.Frag} {mg : Str → Option Value} {base : Heap}
theorem ok_law {f C CY CS CL : Addr} {fd : FuncData} (B : Bl mg) (C_pick : Cal P w K mg base 2 "_law_pick" F_pick) (C_deal : Cal P w K mg base 1 "_law_deal" F_mdeal) (C_sys : Cal P w K mg base 4 "_law_system" F_msystem) (C_sysof : Cal P w K mg base 8 "_law_system_of" (F_lsysof CY CS CL C)) (C_dist : Cal P w K mg base 1 "_law_distances" F_ldist2) (C_reach : Cal P w K mg base 5 "reach" (F_reach CY CS CL C)) (C_end : Cal P w K mg base 1 "_law_end" F_lend) (C_far : Cal P w K mg base 9 "_law_far_right" F_far) (Fn : Fun K "law" "law" s_law f fd) : FnGo P w K mg base (L2.CX P w) 13 f fd p_law (spD K LawF) := by
  refine fnDok Fn sc_law (fun args st0 Ret Exc h => ?_) ?_
  · obtain ⟨ns, _, rfl, _⟩ := h
    rfl
  intro cdv A outer s H E H0 Al args st0 Ret Exc hr xk hp hal hcl hF
  obtain ⟨ns, hns, rfl, q⟩ := hF
  refine sw_cons ?_
  refine sw_set 1 ?_ sc_law.nd
  refine ew_call C_deal hr (by decide) xk ?_
  refine aw_cons ?_
  refine ew_name 0 rfl ?_
  refine aw_nil ?_
  refine ⟨ns, rfl, hns, fun cs0 m0 hcs0 => ?_⟩
  show SW _ _ _ [some (.dat (.scr ns)), some (.ptr (st0.length + 1)), none, none, none, none, none, none, none, none, none, none, none] _ _
  refine sw_cut (fun sl st => ∃ (cs : List Int) (m : Int) (x2 x3 x4 x5 x6 x7 x8 x9 x10 x11 x12 : Option W), cs.length ≤ 63 ∧ sl = [some (.dat (.scr ns)), some (.ptr (st0.length + 1)), x2, x3, x4, x5, x6, x7, x8, x9, x10, x11, x12] ∧ st = dst st0 [] cs m) ?_ ?_
  · refine sw_for hp rfl ?_
    refine iw_range1 B.range ?_
    refine aw_cons ?_
    refine ew_int ?_
    refine aw_nil ?_
    refine ⟨_, rfl, by decide, by decide, ?_⟩
    refine ⟨fun i sl st => ∃ (cs : List Int) (m : Int) (x2 x3 x4 x5 x6 x7 x8 x9 x10 x11 x12 : Option W), cs.length ≤ 63 ∧ sl = [some (.dat (.scr ns)), some (.ptr (st0.length + 1)), x2, x3, x4, x5, x6, x7, x8, x9, x10, x11, x12] ∧ st = dst st0 [] cs m, ⟨cs0, m0, none, none, none, none, none, none, none, none, none, none, none, hcs0, rfl, rfl⟩, fun i w sl st hw hI => ?_, fun sl st hI => hI⟩
    obtain ⟨cs, m, x2, x3, x4, x5, x6, x7, x8, x9, x10, x11, x12, hcs, rfl, rfl⟩ := hI
    obtain ⟨hi, rfl⟩ := getElem?_rng hw
    refine gw_name 2 ?_ sc_law.nd
    refine sw_cons ?_
    refine sw_set 3 ?_ sc_law.nd
    refine ew_call C_sys hr (by decide) xk ?_
    refine aw_cons ?_
    refine ew_name 1 rfl ?_
    refine aw_cons ?_
    refine ew_int ?_
    refine aw_cons ?_
    refine ew_int ?_
    refine aw_cons ?_
    refine ew_int ?_
    refine aw_nil ?_
    refine ⟨st0, [], cs, m, 5, 8, 11, rfl, rfl, by omega, by decide, by decide, by decide, by decide, by decide, by decide, fun hs ts cs1 m1 TT hl1 => ?_⟩
    have SS := sy_of (C := C) (N := 12) TT (by decide) (by decide) (by decide) (by decide)
    have hln := TT.ln
    have hne : 0 < hs.length := List.length_pos_iff.mpr TT.ne
    refine sw_cons ?_
    refine sw_set 4 ?_ sc_law.nd
    refine ew_call C_sysof hr (by decide) xk ?_
    refine aw_cons ?_
    refine ew_name 3 rfl ?_
    refine aw_nil ?_
    refine ⟨5, 8, 11, hs, ts, rfl, TT, by decide, by decide, by decide, ?_⟩
    generalize hSD : syD CY CS CL C (hs.map scOf) (ts.map (lkOf hs)) = sd
    refine sw_cons ?_
    refine sw_asg ?_
    refine ew_call C_pick hr (by decide) xk ?_
    refine aw_cons ?_
    refine ew_name 1 rfl ?_
    refine aw_cons ?_
    refine ew_ix ?_
    refine ew_name 3 rfl ?_
    refine ew_int ?_
    refine ⟨0, _, rfl, itm_tup (j := 0) rfl rfl, ?_⟩
    refine aw_nil ?_
    refine ⟨st0, [], cs1, m1, hs.map hdD, rfl, rfl, by omega, by rw [List.length_map]; omega, by rw [List.length_map]; omega, fun d3 cs2 m2 hd3 hl3 => ?_⟩
    obtain ⟨h, hm3, rfl⟩ := lst_pick hd3
    refine gw_tup rfl ?_
    refine gs_cons ?_
    refine gw_name 6 ?_ sc_law.nd
    refine gs_cons ?_
    refine gw_name 7 ?_ sc_law.nd
    refine gs_nil ?_
    have hh := TT.tp h hm3
    have hsm : h.1 ∈ hs.map (·.1) := List.mem_map_of_mem (f := fun h : Hd => h.1) hm3
    have hth : tpA (hs.map scOf) h.1 = h.2 := tpA_scOf TT.nd hm3
    have hcs2 : cs2.length ≤ 63 := by omega
    clear hl3 hl1
    show SW _ _ _ [some (.dat (.scr ns)), some (.ptr (st0.length + 1)), some (.dat (.int (0 + (i : Int)))), some (.dat (tolD hs ts)), some (.dat sd), x5, some (.dat (.str h.1)), some (.dat (.int h.2)), x8, x9, x10, x11, x12] _ _
    refine sw_cut (fun sl st => ∃ (cs3 : List Int) (m3 : Int) (x5 x8 x9 x10 x11 x12 : Option W), cs3.length ≤ 63 ∧ sl = [some (.dat (.scr ns)), some (.ptr (st0.length + 1)), some (.dat (.int (0 + (i : Int)))), some (.dat (tolD hs ts)), some (.dat sd), x5, some (.dat (.str h.1)), some (.dat (.int h.2)), x8, x9, x10, x11, x12] ∧ st = dst st0 [] cs3 m3) ?_ ?_
    · refine sw_for hp rfl ?_
      refine iw_range1 B.range ?_
      refine aw_cons ?_
      refine ew_bin ?_
      refine ew_name 7 rfl ?_
      refine ew_int ?_
      refine o_add ?_
      refine aw_nil ?_
      refine ⟨_, rfl, by omega, by omega, ?_⟩
      refine ⟨fun i2 sl st => ∃ (cs3 : List Int) (m3 : Int) (x5 x8 x9 x10 x11 x12 : Option W), cs3.length ≤ 63 ∧ sl = [some (.dat (.scr ns)), some (.ptr (st0.length + 1)), some (.dat (.int (0 + (i : Int)))), some (.dat (tolD hs ts)), some (.dat sd), x5, some (.dat (.str h.1)), some (.dat (.int h.2)), x8, x9, x10, x11, x12] ∧ st = dst st0 [] cs3 m3, ⟨cs2, m2, _, _, _, _, _, _, hcs2, rfl, rfl⟩, fun i2 w sl st hw2 hI => ?_, fun sl st hI => hI⟩
      clear x5 x6 x7 x8 x9 x10 x11 x12
      obtain ⟨cs3, m3, x5, x8, x9, x10, x11, x12, hcs3, rfl, rfl⟩ := hI
      obtain ⟨hi2, rfl⟩ := getElem?_rng hw2
      refine gw_name 5 ?_ sc_law.nd
      generalize hu : (0 + (i2 : Int)) = u
      have hx0 : 0 ≤ u := by omega
      have hx1 : u ≤ tpA (hs.map scOf) h.1 := by omega
      refine sw_cons ?_
      refine sw_set 8 ?_ sc_law.nd
      refine ew_call C_dist hr (by decide) xk ?_
      refine aw_cons ?_
      refine ew_name 3 rfl ?_
      refine aw_cons ?_
      refine ew_tup ?_
      refine aw_cons ?_
      refine ew_name 6 rfl ?_
      refine aw_cons ?_
      refine ew_name 5 rfl ?_
      refine aw_nil ?_
      refine ⟨_, rfl, (by show 2 ≤ sizeLine; decide), ?_⟩
      refine aw_nil ?_
      refine ⟨5, 8, 11, hs, ts, h.1, u, rfl, TT, by decide, by decide, by decide, hsm, hx0, hx1, fun qs kvs _ keys _ all di => ?_⟩
      have hkn := kn_of keys all di
      refine sw_cons ?_
      refine sw_asg ?_
      refine ew_call C_pick hr (by decide) xk ?_
      refine aw_cons ?_
      refine ew_name 1 rfl ?_
      refine aw_cons ?_
      refine ew_ix ?_
      refine ew_name 3 rfl ?_
      refine ew_int ?_
      refine ⟨0, _, rfl, itm_tup (j := 0) rfl rfl, ?_⟩
      refine aw_nil ?_
      refine ⟨st0, [], cs3, m3, hs.map hdD, rfl, rfl, by omega, by rw [List.length_map]; omega, by rw [List.length_map]; omega, fun d4 cs4 m4 hd4 hl4 => ?_⟩
      obtain ⟨k, hm4, rfl⟩ := lst_pick hd4
      refine gw_tup rfl ?_
      refine gs_cons ?_
      refine gw_name 10 ?_ sc_law.nd
      refine gs_cons ?_
      refine gw_name 11 ?_ sc_law.nd
      refine gs_nil ?_
      have hk := TT.tp k hm4
      have hkm : k.1 ∈ hs.map (·.1) := List.mem_map_of_mem (f := fun h : Hd => h.1) hm4
      have htk : tpA (hs.map scOf) k.1 = k.2 := tpA_scOf TT.nd hm4
      have hstr := (nm16_ok _ (TT.nm k hm4)).2
      show SW _ _ _ [some (.dat (.scr ns)), some (.ptr (st0.length + 1)), some (.dat (.int (0 + (i : Int)))), some (.dat (tolD hs ts)), some (.dat sd), some (.dat (.int u)), some (.dat (.str h.1)), some (.dat (.int h.2)), some (.dat (.dt kvs)), x9, some (.dat (.str k.1)), some (.dat (.int k.2)), x12] _ _
      refine sw_cut (fun sl st => ∃ (x9 x12 : Option W), sl = [some (.dat (.scr ns)), some (.ptr (st0.length + 1)), some (.dat (.int (0 + (i : Int)))), some (.dat (tolD hs ts)), some (.dat sd), some (.dat (.int u)), some (.dat (.str h.1)), some (.dat (.int h.2)), some (.dat (.dt kvs)), x9, some (.dat (.str k.1)), some (.dat (.int k.2)), x12] ∧ st = dst st0 [] cs4 m4) ?_ ?_
      · refine sw_for hp rfl ?_
        refine iw_range1 B.range ?_
        refine aw_cons ?_
        refine ew_bin ?_
        refine ew_name 11 rfl ?_
        refine ew_int ?_
        refine o_add ?_
        refine aw_nil ?_
        refine ⟨_, rfl, by omega, by omega, ?_⟩
        refine ⟨fun i3 sl st => ∃ (x9 x12 : Option W), sl = [some (.dat (.scr ns)), some (.ptr (st0.length + 1)), some (.dat (.int (0 + (i : Int)))), some (.dat (tolD hs ts)), some (.dat sd), some (.dat (.int u)), some (.dat (.str h.1)), some (.dat (.int h.2)), some (.dat (.dt kvs)), x9, some (.dat (.str k.1)), some (.dat (.int k.2)), x12] ∧ st = dst st0 [] cs4 m4, ⟨_, _, rfl, rfl⟩, fun i3 w sl st hw3 hI => ?_, fun sl st hI => hI⟩
        clear x9 x12
        obtain ⟨x9, x12, rfl, rfl⟩ := hI
        obtain ⟨hi3, rfl⟩ := getElem?_rng hw3
        refine gw_name 9 ?_ sc_law.nd
        generalize hv : (0 + (i3 : Int)) = v
        refine sw_cons ?_
        refine sw_set 12 ?_ sc_law.nd
        refine EW.imp (Φ' := fun w st' => st' = dst st0 [] cs4 m4 ∧ Fo (ts.map (lkOf hs)) h.1 k.1 u v w) ?_ ?_
        · refine ew_call C_reach hr (by decide) xk ?_
          refine aw_cons ?_
          refine ew_name 4 rfl ?_
          refine aw_cons ?_
          refine ew_name 6 rfl ?_
          refine aw_cons ?_
          refine ew_name 5 rfl ?_
          refine aw_cons ?_
          refine ew_name 10 rfl ?_
          refine aw_cons ?_
          refine ew_name 9 rfl ?_
          refine aw_nil ?_
          refine ⟨12, hs.map scOf, ts.map (lkOf hs), h.1, k.1, u, v, by rw [hSD], SS, by rw [nm_scOf]; exact hsm, by rw [nm_scOf]; exact hkm, hx0, hx1, by omega, by omega, fun hno => ⟨rfl, .inl ⟨rfl, hno⟩⟩, fun ns hw hmin => ⟨rfl, .inr ⟨ns, rfl, hw, hmin⟩⟩⟩
        rintro wf _ ⟨rfl, hfo⟩
        show SW _ _ _ [some (.dat (.scr ns)), some (.ptr (st0.length + 1)), some (.dat (.int (0 + (i : Int)))), some (.dat (tolD hs ts)), some (.dat sd), some (.dat (.int u)), some (.dat (.str h.1)), some (.dat (.int h.2)), some (.dat (.dt kvs)), some (.dat (.int v)), some (.dat (.str k.1)), some (.dat (.int k.2)), some wf] _ _
        refine sw_cons ?_
        refine sw_if ?_
        refine tw_mid false ?_ ?_
        · refine tw_cmp (nomark _) ?_
          refine ew_cmp (nomark _) ?_
          refine ew_name 12 rfl ?_
          refine ew_non ?_
          refine o_isN ?_
          refine ew_cmp (by rfl) ?_
          refine ew_tup ?_
          refine aw_cons ?_
          refine ew_name 10 rfl ?_
          refine aw_cons ?_
          refine ew_name 9 rfl ?_
          refine aw_nil ?_
          refine ⟨_, rfl, (by show 2 ≤ sizeLine; decide), ?_⟩
          refine ew_name 8 rfl ?_
          refine o_notinDk hr (DLook.dt (keyT_stD (k.1, v))) ?_
          refine o_neBB ?_
          rw [hfo.none_iff hkn, Option.isSome_map]
          exact ⟨_, rfl, by simp, rfl⟩
        refine ifF rfl ?_
        refine sw_nil ?_
        refine sw_cons ?_
        refine sw_if ?_
        refine tw_mid false ?_ ?_
        · refine tw_bool ?_
          refine bw_and ?_
          refine tw_cmp (nomark _) ?_
          refine ew_name 12 rfl ?_
          refine ew_non ?_
          refine o_notN ?_
          refine ⟨_, rfl, ?_⟩
          rcases hfo with ⟨rfl, _⟩ | ⟨nw, rfl, hw, hmin⟩
          · refine ifF rfl ?_
            exact ⟨rfl, rfl⟩
          · refine ifT rfl ?_
            refine bw_and1 ?_
            obtain ⟨nn, hdi, ⟨ns1, hw1, hl1⟩, hm1⟩ := (hkn k.1 v).2 nw hw
            have hnn : nn = nw.length := Nat.le_antisymm (hm1 nw hw) (by rw [← hl1]; exact hmin ns1 hw1)
            refine tw_mid false ?_ ⟨rfl, rfl⟩
            refine tw_bool ?_
            refine bw_or ?_
            refine tw_not ?_
            refine tw_val ?_
            refine ew_blt bt_isinstance B.isinstance ?_
            refine aw_cons ?_
            refine ew_name 12 rfl ?_
            refine aw_cons ?_
            refine ew_gty bt_tuple B.tuple ?_
            refine aw_nil ?_
            refine c_is1 (t := "tuple") rfl (by decide) ?_
            refine ⟨_, rfl, ?_⟩
            refine ifF rfl ?_
            refine bw_or1 ?_
            refine tw_cmp (nomark _) ?_
            refine ew_blt bt_len B.len ?_
            refine aw_cons ?_
            refine ew_name 12 rfl ?_
            refine aw_nil ?_
            refine c_len (n := nw.length) (by show some (nw.map D.str).length = _; rw [List.length_map]) ?_
            refine ew_dget hr ?_
            refine ew_name 8 rfl ?_
            refine ew_tup ?_
            refine aw_cons ?_
            refine ew_name 10 rfl ?_
            refine aw_cons ?_
            refine ew_name 9 rfl ?_
            refine aw_nil ?_
            refine ⟨_, rfl, (by show 2 ≤ sizeLine; decide), ?_⟩
            refine ⟨_, by have := DLook.dt (st := dst st0 [] cs4 m4) (kvs := kvs) (keyT_stD (k.1, v)); rw [show valA kvs (kS (k.1, v)) = some (.int (nn : Int)) from hdi] at this; exact this, ?_⟩
            refine o_neI ?_
            rw [hnn]
            exact ⟨_, rfl, by simp, rfl⟩
        refine ifF rfl ?_
        refine sw_nil ?_
        refine sw_cons ?_
        refine sw_if ?_
        refine tw_mid false ?_ ?_
        · refine tw_bool ?_
          refine bw_and ?_
          refine tw_cmp (nomark _) ?_
          refine ew_name 12 rfl ?_
          refine ew_non ?_
          refine o_notN ?_
          refine ⟨_, rfl, ?_⟩
          rcases hfo with ⟨rfl, _⟩ | ⟨nw, rfl, hw, hmin⟩
          · refine ifF rfl ?_
            exact ⟨rfl, rfl⟩
          · refine ifT rfl ?_
            refine bw_and1 ?_
            refine tw_cmp (nomark _) ?_
            refine ew_call C_end hr (by decide) xk ?_
            refine aw_cons ?_
            refine ew_name 3 rfl ?_
            refine aw_cons ?_
            refine ew_name 12 rfl ?_
            refine aw_cons ?_
            refine ew_name 6 rfl ?_
            refine aw_cons ?_
            refine ew_name 5 rfl ?_
            refine aw_nil ?_
            refine ⟨_, _, _, hs, ts, h.1, k.1, u, v, nw, rfl, TT, by decide, by decide, by decide, hsm, hx0, hx1, hw, ?_⟩
            refine ew_tup ?_
            refine aw_cons ?_
            refine ew_name 10 rfl ?_
            refine aw_cons ?_
            refine ew_name 9 rfl ?_
            refine aw_nil ?_
            refine ⟨_, rfl, (by show 2 ≤ sizeLine; decide), ?_⟩
            refine o_neD hr (toPy_stD (k.1, v)) (toPy_stD (k.1, v)) (shaped_stD (k.1, v) hstr) (shaped_stD (k.1, v) hstr) ?_
            rw [eqv_stD (k.1, v) hstr]
            exact ⟨_, rfl, rfl, rfl⟩
        refine ifF rfl ?_
        refine sw_nil ?_
        refine sw_nil ?_
        exact ⟨_, _, rfl, rfl⟩
      rintro sl st ⟨x9, x12, rfl, rfl⟩
      refine sw_cons ?_
      refine sw_if ?_
      refine tw_mid false ?_ ?_
      · refine tw_cmp (nomark _) ?_
        refine ew_call C_reach hr (by decide) xk ?_
        refine aw_cons ?_
        refine ew_name 4 rfl ?_
        refine aw_cons ?_
        refine ew_name 6 rfl ?_
        refine aw_cons ?_
        refine ew_name 5 rfl ?_
        refine aw_cons ?_
        refine ew_name 6 rfl ?_
        refine aw_cons ?_
        refine ew_name 5 rfl ?_
        refine aw_nil ?_
        refine ⟨12, hs.map scOf, ts.map (lkOf hs), h.1, h.1, u, u, by rw [hSD], SS, by rw [nm_scOf]; exact hsm, by rw [nm_scOf]; exact hsm, hx0, hx1, by omega, by omega, fun hno => absurd (WayL.refl _ _) (hno []), fun nw hw hmin => ?_⟩
        have hz : nw = [] := List.length_eq_zero_iff.mp (Nat.le_zero.mp (hmin [] (.refl _ _)))
        subst hz
        refine ew_tup ?_
        refine aw_nil ?_
        refine ⟨[], rfl, (by show 0 ≤ sizeLine; decide), ?_⟩
        refine o_neD hr (p1 := .tuple []) (p2 := .tuple []) rfl rfl (by rfl) (by rfl) ?_
        exact ⟨_, rfl, by simp [PyData.eqv, PyData.eqvAll], rfl⟩
      refine ifF rfl ?_
      refine sw_nil ?_
      refine sw_nil ?_
      exact ⟨cs4, m4, _, _, _, _, _, _, by omega, rfl, rfl⟩
    rintro sl st ⟨cs3, m3, x5, x8, x9, x10, x11, x12, hcs3, rfl, rfl⟩
    refine sw_nil ?_
    exact ⟨cs3, m3, _, _, _, _, _, _, _, _, _, _, _, hcs3, rfl, rfl⟩
  rintro sl st ⟨cs, m, x2, x3, x4, x5, x6, x7, x8, x9, x10, x11, x12, hcs, rfl, rfl⟩
  refine sw_cons ?_
  refine sw_ret ?_
  refine ew_call C_far hr (by decide) xk ?_
  refine aw_cons ?_
  refine ew_name 1 rfl ?_
  refine aw_nil ?_
  refine ⟨st0, cs, m, rfl, rfl, hcs, fun cs' m' _ => ?_⟩
  exact ⟨_, _, (show dst st0 [] cs' m' = st0 ++ (obW cs' :: dl st0.length m' :: []) from rfl), Nat.le_refl _, hcl, trivial, q⟩
end Kf
namespace Kf
open PySem PySem.Spec L2 StX ClX Dn
open PyProof.Rows hiding St
variable {P : Program} {w : World} {K : PySem.W.Frag} {mg : Str → Option Value} {base : Heap}
theorem all_mk {l : PySem.W.OpenLaw} {w : World} {K : PySem.W.Frag} {h : Heap} {mg : Str → Option Value} {fa C CE fE CS Tscinit Escinit CL CY Tsyinit Esyinit fis_number fis_value fis_sequence fis_table fvalue_at fvalue_on flast_value fstays_within fnormal fstretches fis_piece fare_pieces fis_name fare_words fare_scales fjoins fare_links fnamed flaw_deal fextend_ways freach flaw_draw flaw_pick flaw_mixed flaw_names flaw_map flaw_system flaw_passage_of flaw_system_of flaw_distances flaw_end flaw_far_right flaw finit fctable fcall fscinit flkinit fsyinit fsyscale ptable : Addr} (X : K.In h) (G : h.Ns mainGlobals mg) (hfa : mg "law" = some (.ref fa))
    {odis_number anis_number odis_value anis_value odis_sequence anis_sequence odis_table anis_table odvalue_at anvalue_at odvalue_on anvalue_on odlast_value anlast_value odstays_within anstays_within odnormal annormal odstretches anstretches odis_piece anis_piece odare_pieces anare_pieces odis_name anis_name odare_words anare_words odare_scales anare_scales odjoins anjoins odare_links anare_links odnamed annamed odlaw_deal anlaw_deal odextend_ways anextend_ways odreach anreach odlaw_draw anlaw_draw odlaw_pick anlaw_pick odlaw_mixed anlaw_mixed odlaw_names anlaw_names odlaw_map anlaw_map odlaw_system anlaw_system odlaw_passage_of anlaw_passage_of odlaw_system_of anlaw_system_of odlaw_distances anlaw_distances odlaw_end anlaw_end odlaw_far_right anlaw_far_right odlaw anlaw odinit aninit odctable anctable odcall ancall odscinit anscinit odlkinit anlkinit odsyinit ansyinit odsyscale ansyscale : Option Addr} {slis_number slis_value slis_sequence slis_table slvalue_at slvalue_on sllast_value slstays_within slnormal slstretches slis_piece slare_pieces slis_name slare_words slare_scales sljoins slare_links slnamed sllaw_deal slextend_ways slreach sllaw_draw sllaw_pick sllaw_mixed sllaw_names sllaw_map sllaw_system sllaw_passage_of sllaw_system_of sllaw_distances sllaw_end sllaw_far_right sllaw slinit slctable slcall slscinit sllkinit slsyinit slsyscale : Array (Option Value)} {ocis_number kVis_number dcis_number pmis_number cdis_number ctis_number ocis_value kVis_value dcis_value pmis_value cdis_value ctis_value ocis_sequence kVis_sequence dcis_sequence pmis_sequence cdis_sequence ctis_sequence ocis_table kVis_table dcis_table pmis_table cdis_table ctis_table ocvalue_at kVvalue_at dcvalue_at pmvalue_at cdvalue_at ctvalue_at ocvalue_on kVvalue_on dcvalue_on pmvalue_on cdvalue_on ctvalue_on oclast_value kVlast_value dclast_value pmlast_value cdlast_value ctlast_value ocstays_within kVstays_within dcstays_within pmstays_within cdstays_within ctstays_within ocnormal kVnormal dcnormal pmnormal cdnormal ctnormal ocstretches kVstretches dcstretches pmstretches cdstretches ctstretches ocis_piece kVis_piece dcis_piece pmis_piece cdis_piece ctis_piece ocare_pieces kVare_pieces dcare_pieces pmare_pieces cdare_pieces ctare_pieces ocis_name kVis_name dcis_name pmis_name cdis_name ctis_name ocare_words kVare_words dcare_words pmare_words cdare_words ctare_words ocare_scales kVare_scales dcare_scales pmare_scales cdare_scales ctare_scales ocjoins kVjoins dcjoins pmjoins cdjoins ctjoins ocare_links kVare_links dcare_links pmare_links cdare_links ctare_links ocnamed kVnamed dcnamed pmnamed cdnamed ctnamed oclaw_deal kVlaw_deal dclaw_deal pmlaw_deal cdlaw_deal ctlaw_deal ocextend_ways kVextend_ways dcextend_ways pmextend_ways cdextend_ways ctextend_ways ocreach kVreach dcreach pmreach cdreach ctreach oclaw_draw kVlaw_draw dclaw_draw pmlaw_draw cdlaw_draw ctlaw_draw oclaw_pick kVlaw_pick dclaw_pick pmlaw_pick cdlaw_pick ctlaw_pick oclaw_mixed kVlaw_mixed dclaw_mixed pmlaw_mixed cdlaw_mixed ctlaw_mixed oclaw_names kVlaw_names dclaw_names pmlaw_names cdlaw_names ctlaw_names oclaw_map kVlaw_map dclaw_map pmlaw_map cdlaw_map ctlaw_map oclaw_system kVlaw_system dclaw_system pmlaw_system cdlaw_system ctlaw_system oclaw_passage_of kVlaw_passage_of dclaw_passage_of pmlaw_passage_of cdlaw_passage_of ctlaw_passage_of oclaw_system_of kVlaw_system_of dclaw_system_of pmlaw_system_of cdlaw_system_of ctlaw_system_of oclaw_distances kVlaw_distances dclaw_distances pmlaw_distances cdlaw_distances ctlaw_distances oclaw_end kVlaw_end dclaw_end pmlaw_end cdlaw_end ctlaw_end oclaw_far_right kVlaw_far_right dclaw_far_right pmlaw_far_right cdlaw_far_right ctlaw_far_right oclaw kVlaw dclaw pmlaw cdlaw ctlaw ocinit kVinit dcinit pminit cdinit ctinit occtable kVctable dcctable pmctable cdctable ctctable occall kVcall dccall pmcall cdcall ctcall ocscinit kVscinit dcscinit pmscinit cdscinit ctscinit oclkinit kVlkinit dclkinit pmlkinit cdlkinit ctlkinit ocsyinit kVsyinit dcsyinit pmsyinit cdsyinit ctsyinit ocsyscale kVsyscale dcsyscale pmsyscale cdsyscale ctsyscale : Value}
    {nm q : Str} {N : Addr} {bs bm : List Value} {sn : List Str} {sub : List Value} {ab : Bool} {col : Option Bool} {dd : Option Addr} {m0 m1 m2 m3 m5 : Option Value} {ocE dcE pmE cdE ctE mc : Value} {odE anE : Option Addr} {slE : Array (Option Value)} {otscinit : Value} {odtscinit odescinit : Option Addr} {ntscinit nescinit : Nat} {sltscinit slescinit : Array (Option Value)} {otsyinit : Value} {odtsyinit odesyinit : Option Addr} {ntsyinit nesyinit : Nat} {sltsyinit slesyinit : Array (Option Value)} {tIMOST_LETTERS : _} {rtable : List Value}
    {nmC qC : Str} {NC : Addr} {bsC : List Value} {hdC : Bool} {snC : List Str} {subC : List Value} {abC : Bool} {colC : Option Bool} {ddC : Option Addr} {n0 n1 n2 n3 n5 : Option Value} {nwC : String}
    (ais_number : PySem.W.nsIn K mainGlobals "is_number" = some (some (.ref fis_number))) (lis_number : K.lookup fis_number = some ⟨ocis_number, odis_number, .func (PySem.W.fnOf "is_number" "is_number" (defArgs s_is_number) (defBody s_is_number) (defScope s_is_number) .none kVis_number dcis_number pmis_number anis_number cdis_number ctis_number), slis_number⟩) (cis_number : PySem.W.codeIn K cdis_number "is_number" = true) (kis_number : PySem.W.keepIn K (.ref fis_number) = true)
    (ais_value : PySem.W.nsIn K mainGlobals "is_value" = some (some (.ref fis_value))) (lis_value : K.lookup fis_value = some ⟨ocis_value, odis_value, .func (PySem.W.fnOf "is_value" "is_value" (defArgs s_is_value) (defBody s_is_value) (defScope s_is_value) .none kVis_value dcis_value pmis_value anis_value cdis_value ctis_value), slis_value⟩) (cis_value : PySem.W.codeIn K cdis_value "is_value" = true) (kis_value : PySem.W.keepIn K (.ref fis_value) = true)
    (ais_sequence : PySem.W.nsIn K mainGlobals "is_sequence" = some (some (.ref fis_sequence))) (lis_sequence : K.lookup fis_sequence = some ⟨ocis_sequence, odis_sequence, .func (PySem.W.fnOf "is_sequence" "is_sequence" (defArgs s_is_sequence) (defBody s_is_sequence) (defScope s_is_sequence) .none kVis_sequence dcis_sequence pmis_sequence anis_sequence cdis_sequence ctis_sequence), slis_sequence⟩) (cis_sequence : PySem.W.codeIn K cdis_sequence "is_sequence" = true) (kis_sequence : PySem.W.keepIn K (.ref fis_sequence) = true)
    (ais_table : PySem.W.nsIn K mainGlobals "is_table" = some (some (.ref fis_table))) (lis_table : K.lookup fis_table = some ⟨ocis_table, odis_table, .func (PySem.W.fnOf "is_table" "is_table" (defArgs s_is_table) (defBody s_is_table) (defScope s_is_table) .none kVis_table dcis_table pmis_table anis_table cdis_table ctis_table), slis_table⟩) (cis_table : PySem.W.codeIn K cdis_table "is_table" = true) (kis_table : PySem.W.keepIn K (.ref fis_table) = true)
    (avalue_at : PySem.W.nsIn K mainGlobals "value_at" = some (some (.ref fvalue_at))) (lvalue_at : K.lookup fvalue_at = some ⟨ocvalue_at, odvalue_at, .func (PySem.W.fnOf "value_at" "value_at" (defArgs s_value_at) (defBody s_value_at) (defScope s_value_at) .none kVvalue_at dcvalue_at pmvalue_at anvalue_at cdvalue_at ctvalue_at), slvalue_at⟩) (cvalue_at : PySem.W.codeIn K cdvalue_at "value_at" = true) (kvalue_at : PySem.W.keepIn K (.ref fvalue_at) = true)
    (avalue_on : PySem.W.nsIn K mainGlobals "value_on" = some (some (.ref fvalue_on))) (lvalue_on : K.lookup fvalue_on = some ⟨ocvalue_on, odvalue_on, .func (PySem.W.fnOf "value_on" "value_on" (defArgs s_value_on) (defBody s_value_on) (defScope s_value_on) .none kVvalue_on dcvalue_on pmvalue_on anvalue_on cdvalue_on ctvalue_on), slvalue_on⟩) (cvalue_on : PySem.W.codeIn K cdvalue_on "value_on" = true) (kvalue_on : PySem.W.keepIn K (.ref fvalue_on) = true)
    (alast_value : PySem.W.nsIn K mainGlobals "last_value" = some (some (.ref flast_value))) (llast_value : K.lookup flast_value = some ⟨oclast_value, odlast_value, .func (PySem.W.fnOf "last_value" "last_value" (defArgs s_last_value) (defBody s_last_value) (defScope s_last_value) .none kVlast_value dclast_value pmlast_value anlast_value cdlast_value ctlast_value), sllast_value⟩) (clast_value : PySem.W.codeIn K cdlast_value "last_value" = true) (klast_value : PySem.W.keepIn K (.ref flast_value) = true)
    (astays_within : PySem.W.nsIn K mainGlobals "stays_within" = some (some (.ref fstays_within))) (lstays_within : K.lookup fstays_within = some ⟨ocstays_within, odstays_within, .func (PySem.W.fnOf "stays_within" "stays_within" (defArgs s_stays_within) (defBody s_stays_within) (defScope s_stays_within) .none kVstays_within dcstays_within pmstays_within anstays_within cdstays_within ctstays_within), slstays_within⟩) (cstays_within : PySem.W.codeIn K cdstays_within "stays_within" = true) (kstays_within : PySem.W.keepIn K (.ref fstays_within) = true)
    (anormal : PySem.W.nsIn K mainGlobals "normal" = some (some (.ref fnormal))) (lnormal : K.lookup fnormal = some ⟨ocnormal, odnormal, .func (PySem.W.fnOf "normal" "normal" (defArgs s_normal) (defBody s_normal) (defScope s_normal) .none kVnormal dcnormal pmnormal annormal cdnormal ctnormal), slnormal⟩) (cnormal : PySem.W.codeIn K cdnormal "normal" = true) (knormal : PySem.W.keepIn K (.ref fnormal) = true)
    (astretches : PySem.W.nsIn K mainGlobals "stretches" = some (some (.ref fstretches))) (lstretches : K.lookup fstretches = some ⟨ocstretches, odstretches, .func (PySem.W.fnOf "stretches" "stretches" (defArgs s_stretches) (defBody s_stretches) (defScope s_stretches) .none kVstretches dcstretches pmstretches anstretches cdstretches ctstretches), slstretches⟩) (cstretches : PySem.W.codeIn K cdstretches "stretches" = true) (kstretches : PySem.W.keepIn K (.ref fstretches) = true)
    (ais_piece : PySem.W.nsIn K mainGlobals "is_piece" = some (some (.ref fis_piece))) (lis_piece : K.lookup fis_piece = some ⟨ocis_piece, odis_piece, .func (PySem.W.fnOf "is_piece" "is_piece" (defArgs s_is_piece) (defBody s_is_piece) (defScope s_is_piece) .none kVis_piece dcis_piece pmis_piece anis_piece cdis_piece ctis_piece), slis_piece⟩) (cis_piece : PySem.W.codeIn K cdis_piece "is_piece" = true) (kis_piece : PySem.W.keepIn K (.ref fis_piece) = true)
    (aare_pieces : PySem.W.nsIn K mainGlobals "are_pieces" = some (some (.ref fare_pieces))) (lare_pieces : K.lookup fare_pieces = some ⟨ocare_pieces, odare_pieces, .func (PySem.W.fnOf "are_pieces" "are_pieces" (defArgs s_are_pieces) (defBody s_are_pieces) (defScope s_are_pieces) .none kVare_pieces dcare_pieces pmare_pieces anare_pieces cdare_pieces ctare_pieces), slare_pieces⟩) (care_pieces : PySem.W.codeIn K cdare_pieces "are_pieces" = true) (kare_pieces : PySem.W.keepIn K (.ref fare_pieces) = true)
    (ais_name : PySem.W.nsIn K mainGlobals "is_name" = some (some (.ref fis_name))) (lis_name : K.lookup fis_name = some ⟨ocis_name, odis_name, .func (PySem.W.fnOf "is_name" "is_name" (defArgs s_is_name) (defBody s_is_name) (defScope s_is_name) .none kVis_name dcis_name pmis_name anis_name cdis_name ctis_name), slis_name⟩) (cis_name : PySem.W.codeIn K cdis_name "is_name" = true) (kis_name : PySem.W.keepIn K (.ref fis_name) = true)
    (aare_words : PySem.W.nsIn K mainGlobals "are_words" = some (some (.ref fare_words))) (lare_words : K.lookup fare_words = some ⟨ocare_words, odare_words, .func (PySem.W.fnOf "are_words" "are_words" (defArgs s_are_words) (defBody s_are_words) (defScope s_are_words) .none kVare_words dcare_words pmare_words anare_words cdare_words ctare_words), slare_words⟩) (care_words : PySem.W.codeIn K cdare_words "are_words" = true) (kare_words : PySem.W.keepIn K (.ref fare_words) = true)
    (aare_scales : PySem.W.nsIn K mainGlobals "are_scales" = some (some (.ref fare_scales))) (lare_scales : K.lookup fare_scales = some ⟨ocare_scales, odare_scales, .func (PySem.W.fnOf "are_scales" "are_scales" (defArgs s_are_scales) (defBody s_are_scales) (defScope s_are_scales) .none kVare_scales dcare_scales pmare_scales anare_scales cdare_scales ctare_scales), slare_scales⟩) (care_scales : PySem.W.codeIn K cdare_scales "are_scales" = true) (kare_scales : PySem.W.keepIn K (.ref fare_scales) = true)
    (ajoins : PySem.W.nsIn K mainGlobals "joins" = some (some (.ref fjoins))) (ljoins : K.lookup fjoins = some ⟨ocjoins, odjoins, .func (PySem.W.fnOf "joins" "joins" (defArgs s_joins) (defBody s_joins) (defScope s_joins) .none kVjoins dcjoins pmjoins anjoins cdjoins ctjoins), sljoins⟩) (cjoins : PySem.W.codeIn K cdjoins "joins" = true) (kjoins : PySem.W.keepIn K (.ref fjoins) = true)
    (aare_links : PySem.W.nsIn K mainGlobals "are_links" = some (some (.ref fare_links))) (lare_links : K.lookup fare_links = some ⟨ocare_links, odare_links, .func (PySem.W.fnOf "are_links" "are_links" (defArgs s_are_links) (defBody s_are_links) (defScope s_are_links) .none kVare_links dcare_links pmare_links anare_links cdare_links ctare_links), slare_links⟩) (care_links : PySem.W.codeIn K cdare_links "are_links" = true) (kare_links : PySem.W.keepIn K (.ref fare_links) = true)
    (anamed : PySem.W.nsIn K mainGlobals "named" = some (some (.ref fnamed))) (lnamed : K.lookup fnamed = some ⟨ocnamed, odnamed, .func (PySem.W.fnOf "named" "named" (defArgs s_named) (defBody s_named) (defScope s_named) .none kVnamed dcnamed pmnamed annamed cdnamed ctnamed), slnamed⟩) (cnamed : PySem.W.codeIn K cdnamed "named" = true) (knamed : PySem.W.keepIn K (.ref fnamed) = true)
    (alaw_deal : PySem.W.nsIn K mainGlobals "_law_deal" = some (some (.ref flaw_deal))) (llaw_deal : K.lookup flaw_deal = some ⟨oclaw_deal, odlaw_deal, .func (PySem.W.fnOf "_law_deal" "_law_deal" (defArgs s__law_deal) (defBody s__law_deal) (defScope s__law_deal) .none kVlaw_deal dclaw_deal pmlaw_deal anlaw_deal cdlaw_deal ctlaw_deal), sllaw_deal⟩) (claw_deal : PySem.W.codeIn K cdlaw_deal "_law_deal" = true) (klaw_deal : PySem.W.keepIn K (.ref flaw_deal) = true)
    (aextend_ways : PySem.W.nsIn K mainGlobals "extend_ways" = some (some (.ref fextend_ways))) (lextend_ways : K.lookup fextend_ways = some ⟨ocextend_ways, odextend_ways, .func (PySem.W.fnOf "extend_ways" "extend_ways" (defArgs s_extend_ways) (defBody s_extend_ways) (defScope s_extend_ways) .none kVextend_ways dcextend_ways pmextend_ways anextend_ways cdextend_ways ctextend_ways), slextend_ways⟩) (cextend_ways : PySem.W.codeIn K cdextend_ways "extend_ways" = true) (kextend_ways : PySem.W.keepIn K (.ref fextend_ways) = true)
    (areach : PySem.W.nsIn K mainGlobals "reach" = some (some (.ref freach))) (lreach : K.lookup freach = some ⟨ocreach, odreach, .func (PySem.W.fnOf "reach" "reach" (defArgs s_reach) (defBody s_reach) (defScope s_reach) .none kVreach dcreach pmreach anreach cdreach ctreach), slreach⟩) (creach : PySem.W.codeIn K cdreach "reach" = true) (kreach : PySem.W.keepIn K (.ref freach) = true)
    (alaw_draw : PySem.W.nsIn K mainGlobals "_law_draw" = some (some (.ref flaw_draw))) (llaw_draw : K.lookup flaw_draw = some ⟨oclaw_draw, odlaw_draw, .func (PySem.W.fnOf "_law_draw" "_law_draw" (defArgs s__law_draw) (defBody s__law_draw) (defScope s__law_draw) .none kVlaw_draw dclaw_draw pmlaw_draw anlaw_draw cdlaw_draw ctlaw_draw), sllaw_draw⟩) (claw_draw : PySem.W.codeIn K cdlaw_draw "_law_draw" = true) (klaw_draw : PySem.W.keepIn K (.ref flaw_draw) = true)
    (alaw_pick : PySem.W.nsIn K mainGlobals "_law_pick" = some (some (.ref flaw_pick))) (llaw_pick : K.lookup flaw_pick = some ⟨oclaw_pick, odlaw_pick, .func (PySem.W.fnOf "_law_pick" "_law_pick" (defArgs s__law_pick) (defBody s__law_pick) (defScope s__law_pick) .none kVlaw_pick dclaw_pick pmlaw_pick anlaw_pick cdlaw_pick ctlaw_pick), sllaw_pick⟩) (claw_pick : PySem.W.codeIn K cdlaw_pick "_law_pick" = true) (klaw_pick : PySem.W.keepIn K (.ref flaw_pick) = true)
    (alaw_mixed : PySem.W.nsIn K mainGlobals "_law_mixed" = some (some (.ref flaw_mixed))) (llaw_mixed : K.lookup flaw_mixed = some ⟨oclaw_mixed, odlaw_mixed, .func (PySem.W.fnOf "_law_mixed" "_law_mixed" (defArgs s__law_mixed) (defBody s__law_mixed) (defScope s__law_mixed) .none kVlaw_mixed dclaw_mixed pmlaw_mixed anlaw_mixed cdlaw_mixed ctlaw_mixed), sllaw_mixed⟩) (claw_mixed : PySem.W.codeIn K cdlaw_mixed "_law_mixed" = true) (klaw_mixed : PySem.W.keepIn K (.ref flaw_mixed) = true)
    (alaw_names : PySem.W.nsIn K mainGlobals "_law_names" = some (some (.ref flaw_names))) (llaw_names : K.lookup flaw_names = some ⟨oclaw_names, odlaw_names, .func (PySem.W.fnOf "_law_names" "_law_names" (defArgs s__law_names) (defBody s__law_names) (defScope s__law_names) .none kVlaw_names dclaw_names pmlaw_names anlaw_names cdlaw_names ctlaw_names), sllaw_names⟩) (claw_names : PySem.W.codeIn K cdlaw_names "_law_names" = true) (klaw_names : PySem.W.keepIn K (.ref flaw_names) = true)
    (alaw_map : PySem.W.nsIn K mainGlobals "_law_map" = some (some (.ref flaw_map))) (llaw_map : K.lookup flaw_map = some ⟨oclaw_map, odlaw_map, .func (PySem.W.fnOf "_law_map" "_law_map" (defArgs s__law_map) (defBody s__law_map) (defScope s__law_map) .none kVlaw_map dclaw_map pmlaw_map anlaw_map cdlaw_map ctlaw_map), sllaw_map⟩) (claw_map : PySem.W.codeIn K cdlaw_map "_law_map" = true) (klaw_map : PySem.W.keepIn K (.ref flaw_map) = true)
    (alaw_system : PySem.W.nsIn K mainGlobals "_law_system" = some (some (.ref flaw_system))) (llaw_system : K.lookup flaw_system = some ⟨oclaw_system, odlaw_system, .func (PySem.W.fnOf "_law_system" "_law_system" (defArgs s__law_system) (defBody s__law_system) (defScope s__law_system) .none kVlaw_system dclaw_system pmlaw_system anlaw_system cdlaw_system ctlaw_system), sllaw_system⟩) (claw_system : PySem.W.codeIn K cdlaw_system "_law_system" = true) (klaw_system : PySem.W.keepIn K (.ref flaw_system) = true)
    (alaw_passage_of : PySem.W.nsIn K mainGlobals "_law_passage_of" = some (some (.ref flaw_passage_of))) (llaw_passage_of : K.lookup flaw_passage_of = some ⟨oclaw_passage_of, odlaw_passage_of, .func (PySem.W.fnOf "_law_passage_of" "_law_passage_of" (defArgs s__law_passage_of) (defBody s__law_passage_of) (defScope s__law_passage_of) .none kVlaw_passage_of dclaw_passage_of pmlaw_passage_of anlaw_passage_of cdlaw_passage_of ctlaw_passage_of), sllaw_passage_of⟩) (claw_passage_of : PySem.W.codeIn K cdlaw_passage_of "_law_passage_of" = true) (klaw_passage_of : PySem.W.keepIn K (.ref flaw_passage_of) = true)
    (alaw_system_of : PySem.W.nsIn K mainGlobals "_law_system_of" = some (some (.ref flaw_system_of))) (llaw_system_of : K.lookup flaw_system_of = some ⟨oclaw_system_of, odlaw_system_of, .func (PySem.W.fnOf "_law_system_of" "_law_system_of" (defArgs s__law_system_of) (defBody s__law_system_of) (defScope s__law_system_of) .none kVlaw_system_of dclaw_system_of pmlaw_system_of anlaw_system_of cdlaw_system_of ctlaw_system_of), sllaw_system_of⟩) (claw_system_of : PySem.W.codeIn K cdlaw_system_of "_law_system_of" = true) (klaw_system_of : PySem.W.keepIn K (.ref flaw_system_of) = true)
    (alaw_distances : PySem.W.nsIn K mainGlobals "_law_distances" = some (some (.ref flaw_distances))) (llaw_distances : K.lookup flaw_distances = some ⟨oclaw_distances, odlaw_distances, .func (PySem.W.fnOf "_law_distances" "_law_distances" (defArgs s__law_distances) (defBody s__law_distances) (defScope s__law_distances) .none kVlaw_distances dclaw_distances pmlaw_distances anlaw_distances cdlaw_distances ctlaw_distances), sllaw_distances⟩) (claw_distances : PySem.W.codeIn K cdlaw_distances "_law_distances" = true) (klaw_distances : PySem.W.keepIn K (.ref flaw_distances) = true)
    (alaw_end : PySem.W.nsIn K mainGlobals "_law_end" = some (some (.ref flaw_end))) (llaw_end : K.lookup flaw_end = some ⟨oclaw_end, odlaw_end, .func (PySem.W.fnOf "_law_end" "_law_end" (defArgs s__law_end) (defBody s__law_end) (defScope s__law_end) .none kVlaw_end dclaw_end pmlaw_end anlaw_end cdlaw_end ctlaw_end), sllaw_end⟩) (claw_end : PySem.W.codeIn K cdlaw_end "_law_end" = true) (klaw_end : PySem.W.keepIn K (.ref flaw_end) = true)
    (alaw_far_right : PySem.W.nsIn K mainGlobals "_law_far_right" = some (some (.ref flaw_far_right))) (llaw_far_right : K.lookup flaw_far_right = some ⟨oclaw_far_right, odlaw_far_right, .func (PySem.W.fnOf "_law_far_right" "_law_far_right" (defArgs s__law_far_right) (defBody s__law_far_right) (defScope s__law_far_right) .none kVlaw_far_right dclaw_far_right pmlaw_far_right anlaw_far_right cdlaw_far_right ctlaw_far_right), sllaw_far_right⟩) (claw_far_right : PySem.W.codeIn K cdlaw_far_right "_law_far_right" = true) (klaw_far_right : PySem.W.keepIn K (.ref flaw_far_right) = true)
    (alaw : PySem.W.nsIn K mainGlobals "law" = some (some (.ref flaw))) (llaw : K.lookup flaw = some ⟨oclaw, odlaw, .func (PySem.W.fnOf "law" "law" (defArgs s_law) (defBody s_law) (defScope s_law) .none kVlaw dclaw pmlaw anlaw cdlaw ctlaw), sllaw⟩) (claw : PySem.W.codeIn K cdlaw "law" = true) (klaw : PySem.W.keepIn K (.ref flaw) = true)
    (zisinstance : PySem.W.nsIn K mainGlobals "isinstance" = some none)
    (zint : PySem.W.nsIn K mainGlobals "int" = some none)
    (zbool : PySem.W.nsIn K mainGlobals "bool" = some none)
    (zstr : PySem.W.nsIn K mainGlobals "str" = some none)
    (zlist : PySem.W.nsIn K mainGlobals "list" = some none)
    (ztuple : PySem.W.nsIn K mainGlobals "tuple" = some none)
    (zlen : PySem.W.nsIn K mainGlobals "len" = some none)
    (zall : PySem.W.nsIn K mainGlobals "all" = some none)
    (zrange : PySem.W.nsIn K mainGlobals "range" = some none)
    (zenumerate : PySem.W.nsIn K mainGlobals "enumerate" = some none)
    (zmin : PySem.W.nsIn K mainGlobals "min" = some none)
    (zmax : PySem.W.nsIn K mainGlobals "max" = some none)
    (zabs : PySem.W.nsIn K mainGlobals "abs" = some none)
    (zsorted : PySem.W.nsIn K mainGlobals "sorted" = some none)
    (aIMOST_LETTERS : PySem.W.nsIn K mainGlobals "MOST_LETTERS" = some (some (.int 4 tIMOST_LETTERS)))
    (zset : PySem.W.nsIn K mainGlobals "set" = some none)
    (zdict : PySem.W.nsIn K mainGlobals "dict" = some none)
    (aP : PySem.W.nsIn K mainGlobals "Passage" = some (some (.ref C))) (aE : PySem.W.nsIn K mainGlobals "InvalidPassage" = some (some (.ref CE)))
    (xE : K.lookup CE = some (excClassObj nm q CE N bs bm true sn sub ab col dd m0 m1 m2 m3 m5 "ValueError.__new__")) (rE : PySem.HandSPX.refsVE bm = true)
    (saE : PySem.W.findIn K (.ref CE) "__setattr__" = some (some (.builtin "object.__setattr__"))) (gaE : PySem.W.findIn K (.ref CE) "__getattribute__" = some (some (.builtin "BaseException.__getattribute__"))) (ggE : PySem.W.findIn K (.ref CE) "__getattr__" = some none) (nbE : PySem.W.findIn K (.ref CE) "word" = some none)
    (iE : PySem.W.findIn K (.ref CE) "__init__" = some (some (.ref fE))) (tE : PySem.W.typeIn K (.ref fE) = some (.type "function"))
    (lE : K.lookup fE = some ⟨ocE, odE, .func (PySem.W.fnOf "__init__" "InvalidPassage.__init__" (L2.defArgs s_IP) (L2.defBody s_IP) (L2.defScope s_IP) .none .none dcE pmE anE cdE ctE), slE⟩) (cE : PySem.W.codeIn K cdE "InvalidPassage.__init__" = true)
    (kE : PySem.W.keepIn K (.ref CE) = true) (eE : PySem.W.subIn K (.ref CE) (.type "BaseException") = some true) (tyE : PySem.W.typeIn K (.ref CE) = some (.type "type")) (hE : PySem.W.hasDictIn K CE = true) (sE : PySem.W.subIn K (.ref CE) (.ref CE) = some true)
    (pg : PySem.W.plainGet K C Str.empty = true) (hd : PySem.W.hasDictIn K C = true) (po : PySem.W.plainOver K C = true) (sa : PySem.W.findIn K (.ref C) "__setattr__" = some (some (.builtin "object.__setattr__"))) (mk : PySem.W.makesIn K C = true) (kc : PySem.W.keepIn K (.ref C) = true)
    (nt : PySem.W.findIn K (.ref C) "top" = some none) (ng : PySem.W.findIn K (.ref C) "target" = some none) (np : PySem.W.findIn K (.ref C) "pieces" = some none)
    (clC : PySem.W.findIn K (.ref C) "__class__" = some (some (.builtin "object.__class__"))) (gsC : PySem.W.specialIn K (.builtin "object.__class__") "__get__" = some (some (.builtin "getset_descriptor.__get__"))) (ttC : PySem.W.takesIn K (.builtin "object.__class__") = some true) (moC : PySem.W.mroIn K C (.type "object") = some true)
    (sfC : PySem.W.selfFirst K C = true) (neC : PySem.W.findIn K (.ref C) "__ne__" = some (some (.builtin "object.__ne__"))) (xC : K.lookup C = some (excClassObj nmC qC C NC bsC [.type "object"] hdC snC subC abC colC ddC n0 n1 n2 n3 n5 nwC))
    (rd : PySem.W.readsIn K C mc = true) (ga : PySem.W.specialIn K (.ref C) "__getattribute__" = some (some (.builtin "type.__getattribute__")))
    (ainit : PySem.W.findIn K (.ref C) "__init__" = some (some (.ref finit))) (linit : K.lookup finit = some ⟨ocinit, odinit, .func (PySem.W.fnOf "__init__" "Passage.__init__" (defArgs s_init) (defBody s_init) (defScope s_init) .none kVinit dcinit pminit aninit cdinit ctinit), slinit⟩) (cinit : PySem.W.codeIn K cdinit "Passage.__init__" = true) (kinit : PySem.W.keepIn K (.ref finit) = true)
    (iinit : PySem.W.isFn K (.ref finit) = true)
    (gtable : PySem.W.findCls K (.ref C) mc "table" = some (.get (.builtin "classmethod.__get__") (.ref ptable) .none (.ref C)))
    (actable : PySem.W.recIn K ptable "classmethod" = some (.ref fctable :: rtable)) (lctable : K.lookup fctable = some ⟨occtable, odctable, .func (PySem.W.fnOf "table" "Passage.table" (defArgs s_table) (defBody s_table) (defScope s_table) .none kVctable dcctable pmctable anctable cdctable ctctable), slctable⟩) (cctable : PySem.W.codeIn K cdctable "Passage.table" = true) (kctable : PySem.W.keepIn K (.ref fctable) = true)
    (itable : PySem.W.fnIn K fctable = true)
    (acall : PySem.W.findIn K (.ref C) "__call__" = some (some (.ref fcall))) (lcall : K.lookup fcall = some ⟨occall, odcall, .func (PySem.W.fnOf "__call__" "Passage.__call__" (defArgs s_call) (defBody s_call) (defScope s_call) .none kVcall dccall pmcall ancall cdcall ctcall), slcall⟩) (ccall : PySem.W.codeIn K cdcall "Passage.__call__" = true) (kcall : PySem.W.keepIn K (.ref fcall) = true)
    (icall : PySem.W.isFn K (.ref fcall) = true) (jcall : PySem.W.fnIn K fcall = true)
    (aCS : PySem.W.nsIn K mainGlobals "Scale" = some (some (.ref CS)))
    (pgCS : PySem.W.plainGet K CS Str.empty = true) (hdCS : PySem.W.hasDictIn K CS = true) (poCS : PySem.W.plainOver K CS = true) (saCS : PySem.W.findIn K (.ref CS) "__setattr__" = some (some (.builtin "object.__setattr__"))) (mkCS : PySem.W.makesIn K CS = true) (kcCS : PySem.W.keepIn K (.ref CS) = true)
    (nCS_name : PySem.W.findIn K (.ref CS) "name" = some none)
    (nCS_top : PySem.W.findIn K (.ref CS) "top" = some none)
    (nCS_words : PySem.W.findIn K (.ref CS) "words" = some none)
    (clCS : PySem.W.findIn K (.ref CS) "__class__" = some (some (.builtin "object.__class__"))) (moCS : PySem.W.mroIn K CS (.type "object") = some true)
    (ascinit : PySem.W.findIn K (.ref CS) "__init__" = some (some (.ref fscinit))) (lscinit : K.lookup fscinit = some ⟨ocscinit, odscinit, .func (PySem.W.fnOf "__init__" "Scale.__init__" (defArgs s_scinit) (defBody s_scinit) (defScope s_scinit) (.ref Tscinit) kVscinit dcscinit pmscinit anscinit cdscinit ctscinit), slscinit⟩) (cscinit : PySem.W.codeIn K cdscinit "Scale.__init__" = true) (kscinit : PySem.W.keepIn K (.ref fscinit) = true)
    (tscinit : K.lookup Tscinit = some ⟨otscinit, odtscinit, .seq #[.ref Escinit] ntscinit, sltscinit⟩) (escinit : K.lookup Escinit = some ⟨.type "tuple", odescinit, .seq #[] nescinit, slescinit⟩)
    (iscinit : PySem.W.isFn K (.ref fscinit) = true)
    (aCL : PySem.W.nsIn K mainGlobals "Link" = some (some (.ref CL)))
    (pgCL : PySem.W.plainGet K CL Str.empty = true) (hdCL : PySem.W.hasDictIn K CL = true) (poCL : PySem.W.plainOver K CL = true) (saCL : PySem.W.findIn K (.ref CL) "__setattr__" = some (some (.builtin "object.__setattr__"))) (mkCL : PySem.W.makesIn K CL = true) (kcCL : PySem.W.keepIn K (.ref CL) = true)
    (nCL_name : PySem.W.findIn K (.ref CL) "name" = some none)
    (nCL_source : PySem.W.findIn K (.ref CL) "source" = some none)
    (nCL_target : PySem.W.findIn K (.ref CL) "target" = some none)
    (nCL_passage : PySem.W.findIn K (.ref CL) "passage" = some none)
    (clCL : PySem.W.findIn K (.ref CL) "__class__" = some (some (.builtin "object.__class__"))) (moCL : PySem.W.mroIn K CL (.type "object") = some true)
    (alkinit : PySem.W.findIn K (.ref CL) "__init__" = some (some (.ref flkinit))) (llkinit : K.lookup flkinit = some ⟨oclkinit, odlkinit, .func (PySem.W.fnOf "__init__" "Link.__init__" (defArgs s_lkinit) (defBody s_lkinit) (defScope s_lkinit) .none kVlkinit dclkinit pmlkinit anlkinit cdlkinit ctlkinit), sllkinit⟩) (clkinit : PySem.W.codeIn K cdlkinit "Link.__init__" = true) (klkinit : PySem.W.keepIn K (.ref flkinit) = true)
    (ilkinit : PySem.W.isFn K (.ref flkinit) = true)
    (aCY : PySem.W.nsIn K mainGlobals "System" = some (some (.ref CY)))
    (pgCY : PySem.W.plainGet K CY Str.empty = true) (hdCY : PySem.W.hasDictIn K CY = true) (poCY : PySem.W.plainOver K CY = true) (saCY : PySem.W.findIn K (.ref CY) "__setattr__" = some (some (.builtin "object.__setattr__"))) (mkCY : PySem.W.makesIn K CY = true) (kcCY : PySem.W.keepIn K (.ref CY) = true)
    (nCY_scales : PySem.W.findIn K (.ref CY) "scales" = some none)
    (nCY_links : PySem.W.findIn K (.ref CY) "links" = some none)
    (clCY : PySem.W.findIn K (.ref CY) "__class__" = some (some (.builtin "object.__class__"))) (moCY : PySem.W.mroIn K CY (.type "object") = some true)
    (asyinit : PySem.W.findIn K (.ref CY) "__init__" = some (some (.ref fsyinit))) (lsyinit : K.lookup fsyinit = some ⟨ocsyinit, odsyinit, .func (PySem.W.fnOf "__init__" "System.__init__" (defArgs s_syinit) (defBody s_syinit) (defScope s_syinit) (.ref Tsyinit) kVsyinit dcsyinit pmsyinit ansyinit cdsyinit ctsyinit), slsyinit⟩) (csyinit : PySem.W.codeIn K cdsyinit "System.__init__" = true) (ksyinit : PySem.W.keepIn K (.ref fsyinit) = true)
    (tsyinit : K.lookup Tsyinit = some ⟨otsyinit, odtsyinit, .seq #[.ref Esyinit] ntsyinit, sltsyinit⟩) (esyinit : K.lookup Esyinit = some ⟨.type "tuple", odesyinit, .seq #[] nesyinit, slesyinit⟩)
    (isyinit : PySem.W.isFn K (.ref fsyinit) = true)
    (asyscale : PySem.W.findIn K (.ref CY) "scale" = some (some (.ref fsyscale))) (lsyscale : K.lookup fsyscale = some ⟨ocsyscale, odsyscale, .func (PySem.W.fnOf "scale" "System.scale" (defArgs s_syscale) (defBody s_syscale) (defScope s_syscale) .none kVsyscale dcsyscale pmsyscale ansyscale cdsyscale ctsyscale), slsyscale⟩) (csyscale : PySem.W.codeIn K cdsyscale "System.scale" = true) (ksyscale : PySem.W.keepIn K (.ref fsyscale) = true)
    (isyscale : PySem.W.isFn K (.ref fsyscale) = true) :
    ∃ fd : FuncData, (∀ (s : Shared) (v : Value), BindsTo s fd ⟨[v], []⟩ [("_law_script", v)]) ∧ ∀ base : Heap, K.In base → base.Ns mainGlobals mg → FnGo l.prog w K mg base (L2.CX l.prog w) 13 fa fd ["_law_script"] (spD K LawF) := by
  have e := hfa.symm.trans (PySem.W.mg_of X G alaw)
  cases e
  have Fis_number := fun_mk (st := s_is_number) lis_number cis_number kis_number
  have bis_number : Binds K _ p_is_number [] := Fis_number.binds (ps := p_is_number) fun _ _ _ _ _ _ us hl => match us, hl with | [_], _ => rfl
  have Fis_value := fun_mk (st := s_is_value) lis_value cis_value kis_value
  have bis_value : Binds K _ p_is_value [] := Fis_value.binds (ps := p_is_value) fun _ _ _ _ _ _ us hl => match us, hl with | [_, _], _ => rfl
  have Fis_sequence := fun_mk (st := s_is_sequence) lis_sequence cis_sequence kis_sequence
  have bis_sequence : Binds K _ p_is_sequence [] := Fis_sequence.binds (ps := p_is_sequence) fun _ _ _ _ _ _ us hl => match us, hl with | [_], _ => rfl
  have Fis_table := fun_mk (st := s_is_table) lis_table cis_table kis_table
  have bis_table : Binds K _ p_is_table [] := Fis_table.binds (ps := p_is_table) fun _ _ _ _ _ _ us hl => match us, hl with | [_, _], _ => rfl
  have Fvalue_at := fun_mk (st := s_value_at) lvalue_at cvalue_at kvalue_at
  have bvalue_at : Binds K _ p_value_at [] := Fvalue_at.binds (ps := p_value_at) fun _ _ _ _ _ _ us hl => match us, hl with | [_, _], _ => rfl
  have Fvalue_on := fun_mk (st := s_value_on) lvalue_on cvalue_on kvalue_on
  have bvalue_on : Binds K _ p_value_on [] := Fvalue_on.binds (ps := p_value_on) fun _ _ _ _ _ _ us hl => match us, hl with | [_, _], _ => rfl
  have Flast_value := fun_mk (st := s_last_value) llast_value clast_value klast_value
  have blast_value : Binds K _ p_last_value [] := Flast_value.binds (ps := p_last_value) fun _ _ _ _ _ _ us hl => match us, hl with | [_], _ => rfl
  have Fstays_within := fun_mk (st := s_stays_within) lstays_within cstays_within kstays_within
  have bstays_within : Binds K _ p_stays_within [] := Fstays_within.binds (ps := p_stays_within) fun _ _ _ _ _ _ us hl => match us, hl with | [_, _], _ => rfl
  have Fnormal := fun_mk (st := s_normal) lnormal cnormal knormal
  have bnormal : Binds K _ p_normal [] := Fnormal.binds (ps := p_normal) fun _ _ _ _ _ _ us hl => match us, hl with | [_], _ => rfl
  have Fstretches := fun_mk (st := s_stretches) lstretches cstretches kstretches
  have bstretches : Binds K _ p_stretches [] := Fstretches.binds (ps := p_stretches) fun _ _ _ _ _ _ us hl => match us, hl with | [_, _], _ => rfl
  have Fis_piece := fun_mk (st := s_is_piece) lis_piece cis_piece kis_piece
  have bis_piece : Binds K _ p_is_piece [] := Fis_piece.binds (ps := p_is_piece) fun _ _ _ _ _ _ us hl => match us, hl with | [_], _ => rfl
  have Fare_pieces := fun_mk (st := s_are_pieces) lare_pieces care_pieces kare_pieces
  have bare_pieces : Binds K _ p_are_pieces [] := Fare_pieces.binds (ps := p_are_pieces) fun _ _ _ _ _ _ us hl => match us, hl with | [_, _], _ => rfl
  have Fis_name := fun_mk (st := s_is_name) lis_name cis_name kis_name
  have bis_name : Binds K _ p_is_name [] := Fis_name.binds (ps := p_is_name) fun _ _ _ _ _ _ us hl => match us, hl with | [_], _ => rfl
  have Fare_words := fun_mk (st := s_are_words) lare_words care_words kare_words
  have bare_words : Binds K _ p_are_words [] := Fare_words.binds (ps := p_are_words) fun _ _ _ _ _ _ us hl => match us, hl with | [_, _], _ => rfl
  have Fare_scales := fun_mk (st := s_are_scales) lare_scales care_scales kare_scales
  have bare_scales : Binds K _ p_are_scales [] := Fare_scales.binds (ps := p_are_scales) fun _ _ _ _ _ _ us hl => match us, hl with | [_], _ => rfl
  have Fjoins := fun_mk (st := s_joins) ljoins cjoins kjoins
  have bjoins : Binds K _ p_joins [] := Fjoins.binds (ps := p_joins) fun _ _ _ _ _ _ us hl => match us, hl with | [_, _], _ => rfl
  have Fare_links := fun_mk (st := s_are_links) lare_links care_links kare_links
  have bare_links : Binds K _ p_are_links [] := Fare_links.binds (ps := p_are_links) fun _ _ _ _ _ _ us hl => match us, hl with | [_, _], _ => rfl
  have Fnamed := fun_mk (st := s_named) lnamed cnamed knamed
  have bnamed : Binds K _ p_named [] := Fnamed.binds (ps := p_named) fun _ _ _ _ _ _ us hl => match us, hl with | [_, _], _ => rfl
  have Flaw_deal := fun_mk (st := s__law_deal) llaw_deal claw_deal klaw_deal
  have blaw_deal : Binds K _ p__law_deal [] := Flaw_deal.binds (ps := p__law_deal) fun _ _ _ _ _ _ us hl => match us, hl with | [_], _ => rfl
  have Fextend_ways := fun_mk (st := s_extend_ways) lextend_ways cextend_ways kextend_ways
  have bextend_ways : Binds K _ p_extend_ways [] := Fextend_ways.binds (ps := p_extend_ways) fun _ _ _ _ _ _ us hl => match us, hl with | [_, _, _], _ => rfl
  have Freach := fun_mk (st := s_reach) lreach creach kreach
  have breach : Binds K _ p_reach [] := Freach.binds (ps := p_reach) fun _ _ _ _ _ _ us hl => match us, hl with | [_, _, _, _, _], _ => rfl
  have Flaw_draw := fun_mk (st := s__law_draw) llaw_draw claw_draw klaw_draw
  have blaw_draw : Binds K _ p__law_draw [] := Flaw_draw.binds (ps := p__law_draw) fun _ _ _ _ _ _ us hl => match us, hl with | [_, _], _ => rfl
  have Flaw_pick := fun_mk (st := s__law_pick) llaw_pick claw_pick klaw_pick
  have blaw_pick : Binds K _ p__law_pick [] := Flaw_pick.binds (ps := p__law_pick) fun _ _ _ _ _ _ us hl => match us, hl with | [_, _], _ => rfl
  have Flaw_mixed := fun_mk (st := s__law_mixed) llaw_mixed claw_mixed klaw_mixed
  have blaw_mixed : Binds K _ p__law_mixed [] := Flaw_mixed.binds (ps := p__law_mixed) fun _ _ _ _ _ _ us hl => match us, hl with | [_, _], _ => rfl
  have Flaw_names := fun_mk (st := s__law_names) llaw_names claw_names klaw_names
  have blaw_names : Binds K _ p__law_names [] := Flaw_names.binds (ps := p__law_names) fun _ _ _ _ _ _ us hl => match us, hl with | [_, _], _ => rfl
  have Flaw_map := fun_mk (st := s__law_map) llaw_map claw_map klaw_map
  have blaw_map : Binds K _ p__law_map [] := Flaw_map.binds (ps := p__law_map) fun _ _ _ _ _ _ us hl => match us, hl with | [_, _, _], _ => rfl
  have Flaw_system := fun_mk (st := s__law_system) llaw_system claw_system klaw_system
  have blaw_system : Binds K _ p__law_system [] := Flaw_system.binds (ps := p__law_system) fun _ _ _ _ _ _ us hl => match us, hl with | [_, _, _, _], _ => rfl
  have Flaw_passage_of := fun_mk (st := s__law_passage_of) llaw_passage_of claw_passage_of klaw_passage_of
  have blaw_passage_of : Binds K _ p__law_passage_of [] := Flaw_passage_of.binds (ps := p__law_passage_of) fun _ _ _ _ _ _ us hl => match us, hl with | [_, _], _ => rfl
  have Flaw_system_of := fun_mk (st := s__law_system_of) llaw_system_of claw_system_of klaw_system_of
  have blaw_system_of : Binds K _ p__law_system_of [] := Flaw_system_of.binds (ps := p__law_system_of) fun _ _ _ _ _ _ us hl => match us, hl with | [_], _ => rfl
  have Flaw_distances := fun_mk (st := s__law_distances) llaw_distances claw_distances klaw_distances
  have blaw_distances : Binds K _ p__law_distances [] := Flaw_distances.binds (ps := p__law_distances) fun _ _ _ _ _ _ us hl => match us, hl with | [_, _], _ => rfl
  have Flaw_end := fun_mk (st := s__law_end) llaw_end claw_end klaw_end
  have blaw_end : Binds K _ p__law_end [] := Flaw_end.binds (ps := p__law_end) fun _ _ _ _ _ _ us hl => match us, hl with | [_, _, _, _], _ => rfl
  have Flaw_far_right := fun_mk (st := s__law_far_right) llaw_far_right claw_far_right klaw_far_right
  have blaw_far_right : Binds K _ p__law_far_right [] := Flaw_far_right.binds (ps := p__law_far_right) fun _ _ _ _ _ _ us hl => match us, hl with | [_], _ => rfl
  have Flaw := fun_mk (st := s_law) llaw claw klaw
  have Finit := fun_mk (st := s_init) linit cinit kinit
  have binit : Binds K _ p_init [] := Finit.binds (ps := p_init) fun _ _ _ _ _ _ us hl => match us, hl with | [_, _, _, _], _ => rfl
  have Fctable := fun_mk (st := s_table) lctable cctable kctable
  have bctable : Binds K _ p_table [] := Fctable.binds (ps := p_table) fun _ _ _ _ _ _ us hl => match us, hl with | [_, _, _], _ => rfl
  have Fcall := fun_mk (st := s_call) lcall ccall kcall
  have bcall : Binds K _ p_call [] := Fcall.binds (ps := p_call) fun _ _ _ _ _ _ us hl => match us, hl with | [_, _], _ => rfl
  have Fscinit : FunD K "__init__" "Scale.__init__" (defArgs s_scinit) (defBody s_scinit) (defScope s_scinit) [V.ref Escinit] [] fscinit (PySem.W.fnOf "__init__" "Scale.__init__" (defArgs s_scinit) (defBody s_scinit) (defScope s_scinit) (.ref Tscinit) kVscinit dcscinit pmscinit anscinit cdscinit ctscinit) := ⟨⟨_, _, _, _, _, _, _, _, _, _, rfl, lscinit, cscinit, .inr ⟨by simp, Tscinit, _, [.ref Escinit], ntscinit, rfl, tscinit, rfl, .cons rfl .nil⟩, .inl rfl⟩, kscinit⟩
  have bscinitf : L2.Binds K (PySem.W.fnOf "__init__" "Scale.__init__" (defArgs s_scinit) (defBody s_scinit) (defScope s_scinit) (.ref Tscinit) kVscinit dcscinit pmscinit anscinit cdscinit ctscinit) p_scinit [] := by
    obtain ⟨ds, hv, hb⟩ := Fscinit.binds1 (ps := p_scinit) 4 1 (by simp) rfl (fun _ _ _ _ _ _ _ us its hl hi => match us, its, hl, hi with | [_, _, _, _], [_], _, _ => ⟨_, rfl, rfl⟩)
    cases hv
    exact hb
  have bscinitd : L2.Binds K (PySem.W.fnOf "__init__" "Scale.__init__" (defArgs s_scinit) (defBody s_scinit) (defScope s_scinit) (.ref Tscinit) kVscinit dcscinit pmscinit anscinit cdscinit ctscinit) p_scinit [.ref Escinit] := by
    obtain ⟨ds, hv, hb⟩ := Fscinit.binds1 (ps := p_scinit) 3 0 (by simp) rfl (fun _ _ _ _ _ _ _ us its hl hi => match us, its, hl, hi with | [_, _, _], [_], _, _ => ⟨_, rfl, rfl⟩)
    cases hv with
    | cons h t =>
      cases t
      cases h
      exact hb
  have Flkinit := fun_mk (st := s_lkinit) llkinit clkinit klkinit
  have blkinit : Binds K _ p_lkinit [] := Flkinit.binds (ps := p_lkinit) fun _ _ _ _ _ _ us hl => match us, hl with | [_, _, _, _, _], _ => rfl
  have Fsyinit : FunD K "__init__" "System.__init__" (defArgs s_syinit) (defBody s_syinit) (defScope s_syinit) [V.ref Esyinit] [] fsyinit (PySem.W.fnOf "__init__" "System.__init__" (defArgs s_syinit) (defBody s_syinit) (defScope s_syinit) (.ref Tsyinit) kVsyinit dcsyinit pmsyinit ansyinit cdsyinit ctsyinit) := ⟨⟨_, _, _, _, _, _, _, _, _, _, rfl, lsyinit, csyinit, .inr ⟨by simp, Tsyinit, _, [.ref Esyinit], ntsyinit, rfl, tsyinit, rfl, .cons rfl .nil⟩, .inl rfl⟩, ksyinit⟩
  have bsyinitf : L2.Binds K (PySem.W.fnOf "__init__" "System.__init__" (defArgs s_syinit) (defBody s_syinit) (defScope s_syinit) (.ref Tsyinit) kVsyinit dcsyinit pmsyinit ansyinit cdsyinit ctsyinit) p_syinit [] := by
    obtain ⟨ds, hv, hb⟩ := Fsyinit.binds1 (ps := p_syinit) 3 1 (by simp) rfl (fun _ _ _ _ _ _ _ us its hl hi => match us, its, hl, hi with | [_, _, _], [_], _, _ => ⟨_, rfl, rfl⟩)
    cases hv
    exact hb
  have bsyinitd : L2.Binds K (PySem.W.fnOf "__init__" "System.__init__" (defArgs s_syinit) (defBody s_syinit) (defScope s_syinit) (.ref Tsyinit) kVsyinit dcsyinit pmsyinit ansyinit cdsyinit ctsyinit) p_syinit [.ref Esyinit] := by
    obtain ⟨ds, hv, hb⟩ := Fsyinit.binds1 (ps := p_syinit) 2 0 (by simp) rfl (fun _ _ _ _ _ _ _ us its hl hi => match us, its, hl, hi with | [_, _], [_], _, _ => ⟨_, rfl, rfl⟩)
    cases hv with
    | cons h t =>
      cases t
      cases h
      exact hb
  have Fsyscale := fun_mk (st := s_syscale) lsyscale csyscale ksyscale
  have bsyscale : Binds K _ p_syscale [] := Fsyscale.binds (ps := p_syscale) fun _ _ _ _ _ _ us hl => match us, hl with | [_, _], _ => rfl
  have B : Bl mg := ⟨PySem.W.mg_none_of X G zisinstance, PySem.W.mg_none_of X G zint, PySem.W.mg_none_of X G zbool, PySem.W.mg_none_of X G zstr, PySem.W.mg_none_of X G zlist, PySem.W.mg_none_of X G ztuple, PySem.W.mg_none_of X G zlen, PySem.W.mg_none_of X G zall, PySem.W.mg_none_of X G zrange, PySem.W.mg_none_of X G zenumerate, PySem.W.mg_none_of X G zmin, PySem.W.mg_none_of X G zmax, PySem.W.mg_none_of X G zabs⟩
  have T : PTxt K C := ⟨⟨pg, hd, po, sa⟩, nt, ng, np⟩
  have KT : KTxt K C := ⟨clC, gsC, ttC, moC⟩
  have oCS : ∀ f ∈ scN, NoAttr K CS f := fun f hf => by
    simp only [List.mem_cons, List.not_mem_nil, or_false] at hf
    rcases hf with rfl | rfl | rfl
    · exact nCS_name
    · exact nCS_top
    · exact nCS_words
  have TCS : CTxt K CS scN := ⟨⟨pgCS, hdCS, poCS, saCS⟩, oCS, ⟨clCS, gsC, ttC, moCS⟩⟩
  have gCS := PySem.W.mg_of X G aCS
  have oCL : ∀ f ∈ lkN, NoAttr K CL f := fun f hf => by
    simp only [List.mem_cons, List.not_mem_nil, or_false] at hf
    rcases hf with rfl | rfl | rfl | rfl
    · exact nCL_name
    · exact nCL_source
    · exact nCL_target
    · exact nCL_passage
  have TCL : CTxt K CL lkN := ⟨⟨pgCL, hdCL, poCL, saCL⟩, oCL, ⟨clCL, gsC, ttC, moCL⟩⟩
  have gCL := PySem.W.mg_of X G aCL
  have oCY : ∀ f ∈ syN, NoAttr K CY f := fun f hf => by
    simp only [List.mem_cons, List.not_mem_nil, or_false] at hf
    rcases hf with rfl | rfl
    · exact nCY_scales
    · exact nCY_links
  have TCY : CTxt K CY syN := ⟨⟨pgCY, hdCY, poCY, saCY⟩, oCY, ⟨clCY, gsC, ttC, moCY⟩⟩
  have gCY := PySem.W.mg_of X G aCY
  have gP := PySem.W.mg_of X G aP
  have TE : PySem.LowX_ip.LowTxt K mg CE fE :=
    { gC := PySem.W.mg_of X G aE, cls := ⟨nm, q, N, bs, bm, sn, sub, ab, col, dd, m0, m1, m2, m3, m5, xE, rE⟩, sa := saE, ga := gaE, gg := ggE, noN := nbE, iC := iE, tC := tE, kC := kE, exC := eE, tyC := tyE, hdC := hE, te := PySem.W.exm_ref eE hE tyE sE,
      fn := ⟨_, _, _, _, _, _, _, _, lE, cE⟩ }
  refine ⟨PySem.W.fnOf "law" "law" (defArgs s_law) (defBody s_law) (defScope s_law) .none kVlaw dclaw pmlaw anlaw cdlaw ctlaw, fun s v => .of_eq rfl, fun base _ _ => ?_⟩
  have Cis_number : Cal l.prog w K mg base 1 "is_number" F_is_number := ⟨fis_number, PySem.W.mg_of X G ais_number, kis_number, ok_is_number B Fis_number bis_number⟩
  have Cis_value : Cal l.prog w K mg base 2 "is_value" F_is_value := ⟨fis_value, PySem.W.mg_of X G ais_value, kis_value, ok_is_value Cis_number Fis_value bis_value⟩
  have Cis_sequence : Cal l.prog w K mg base 1 "is_sequence" F_is_sequence := ⟨fis_sequence, PySem.W.mg_of X G ais_sequence, kis_sequence, ok_is_sequence B Fis_sequence bis_sequence⟩
  have Cis_table : Cal l.prog w K mg base 3 "is_table" F_is_table := ⟨fis_table, PySem.W.mg_of X G ais_table, kis_table, ok_is_table B Cis_value Cis_sequence Fis_table bis_table⟩
  have Cvalue_on : Cal l.prog w K mg base 1 "value_on" F_value_on := ⟨fvalue_on, PySem.W.mg_of X G avalue_on, kvalue_on, ok_value_on  Fvalue_on bvalue_on⟩
  have Clast_value : Cal l.prog w K mg base 2 "last_value" F_last_value := ⟨flast_value, PySem.W.mg_of X G alast_value, klast_value, ok_last_value Cvalue_on Flast_value blast_value⟩
  have Cstays_within : Cal l.prog w K mg base 3 "stays_within" F_stays_within := ⟨fstays_within, PySem.W.mg_of X G astays_within, kstays_within, ok_stays_within Clast_value Fstays_within bstays_within⟩
  have Cnormal : Cal l.prog w K mg base 3 "normal" F_normal := ⟨fnormal, PySem.W.mg_of X G anormal, knormal, ok_normal B Cvalue_on Clast_value Fnormal bnormal⟩
  have Cvalue_at : Cal l.prog w K mg base 1 "value_at" F_value_at := ⟨fvalue_at, PySem.W.mg_of X G avalue_at, kvalue_at, ok_value_at B Fvalue_at bvalue_at⟩
  have Cstretches : Cal l.prog w K mg base 1 "stretches" F_stretches := ⟨fstretches, PySem.W.mg_of X G astretches, kstretches, ok_stretches B Fstretches bstretches⟩
  have Cis_piece : Cal l.prog w K mg base 2 "is_piece" F_is_piece := ⟨fis_piece, PySem.W.mg_of X G ais_piece, kis_piece, ok_is_piece B Cis_number Fis_piece bis_piece⟩
  have Care_pieces : Cal l.prog w K mg base 3 "are_pieces" F_are_pieces := ⟨fare_pieces, PySem.W.mg_of X G aare_pieces, kare_pieces, ok_are_pieces B Cis_piece Cis_sequence Fare_pieces bare_pieces⟩
  have Mp : Mak l.prog w K mg base 4 "Passage" C (F_init C CE) := ⟨finit, gP, ⟨mk, ainit, iinit, kc⟩, ok_init T TE Cis_number Care_pieces Cstretches Cstays_within Cnormal Finit binit⟩
  have Ct : CMt l.prog w K mg base 6 C "table" (F_table C CE) := ⟨mc, ptable, fctable, ⟨rd, ga⟩, ⟨gtable, ⟨_, actable⟩, itable⟩, ok_table B TE Cis_number Cis_table Mp Fctable bctable⟩
  have Cc : CalO l.prog w K mg base 3 C (F_pcall C) := ⟨fcall, ⟨acall, icall, jcall⟩, ok_pcall T Cis_value Cvalue_at Fcall bcall⟩
  have hset := PySem.W.mg_none_of X G zset
  have hdict := PySem.W.mg_none_of X G zdict
  have Cis_name : Cal l.prog w K mg base 1 "is_name" F_isname := ⟨fis_name, PySem.W.mg_of X G ais_name, kis_name, ok_isname B ⟨_, PySem.W.mg_of X G aIMOST_LETTERS⟩ Fis_name bis_name⟩
  have Care_words : Cal l.prog w K mg base 2 "are_words" F_arewords0 := ⟨fare_words, PySem.W.mg_of X G aare_words, kare_words, ok_arewords0 B hset Cis_sequence Fare_words bare_words⟩
  have Care_scales : Cal l.prog w K mg base 2 "are_scales" (F_arescales CS) := ⟨fare_scales, PySem.W.mg_of X G aare_scales, kare_scales, ok_arescales B gCS TCS Cis_sequence Fare_scales bare_scales⟩
  have Cjoins : Cal l.prog w K mg base 1 "joins" (F_joins CL C) := ⟨fjoins, PySem.W.mg_of X G ajoins, kjoins, ok_joins T TCL Fjoins bjoins⟩
  have Care_links : Cal l.prog w K mg base 2 "are_links" (F_arelinks CS CL C) := ⟨fare_links, PySem.W.mg_of X G aare_links, kare_links, ok_arelinks B gCL TCS TCL Cis_sequence Cjoins Fare_links bare_links⟩
  have Cnamed : Cal l.prog w K mg base 1 "named" (F_named K) := ⟨fnamed, PySem.W.mg_of X G anamed, knamed, ok_named  Fnamed bnamed⟩
  have M_sc : Mak l.prog w K mg base 3 "Scale" CS (fun args st Ret Exc => F_scinit0 CS (args ++ [.dat (.tup [])]) st Ret Exc) := ⟨fscinit, gCS, ⟨mkCS, ascinit, iscinit, kcCS⟩, (ok_scinit0 B TCS Cis_name Cis_number Care_words Fscinit).dflt bscinitd escinit rfl rfl⟩
  have M_lk : Mak l.prog w K mg base 2 "Link" CL (F_lkinit0 CL C) := ⟨flkinit, gCL, ⟨mkCL, alkinit, ilkinit, kcCL⟩, ok_lkinit0 B gP T KT TCL Cis_name Flkinit blkinit⟩
  have M_sy : Mak l.prog w K mg base 3 "System" CY (F_syinit0 CY CS CL C) := ⟨fsyinit, gCY, ⟨mkCY, asyinit, isyinit, kcCY⟩, (ok_syinit0 B TCY Care_scales Care_links Fsyinit).plain bsyinitf⟩
  have Cscale : Met l.prog w K mg base 2 CY "scale" (F_syscale0 CY CS CL C) := ⟨fsyscale, TCY.cls, ⟨asyscale, isyscale, ksyscale⟩, ok_syscale0 TCY TCS Cnamed Fsyscale bsyscale⟩
  have Claw_deal : Cal l.prog w K mg base 1 "_law_deal" F_mdeal := ⟨flaw_deal, PySem.W.mg_of X G alaw_deal, klaw_deal, ok_mdeal B Flaw_deal blaw_deal⟩
  have Cextend_ways : Cal l.prog w K mg base 4 "extend_ways" (F_extend CY CS CL C) := ⟨fextend_ways, PySem.W.mg_of X G aextend_ways, kextend_ways, ok_extend T TCY TCL Cc Fextend_ways bextend_ways⟩
  have Creach : Cal l.prog w K mg base 5 "reach" (F_reach CY CS CL C) := ⟨freach, PySem.W.mg_of X G areach, kreach, ok_reach B TCS Cis_value Cscale Cextend_ways Freach breach⟩
  have Claw_draw : Cal l.prog w K mg base 1 "_law_draw" F_draw := ⟨flaw_draw, PySem.W.mg_of X G alaw_draw, klaw_draw, ok_draw B Flaw_draw blaw_draw⟩
  have Claw_pick : Cal l.prog w K mg base 2 "_law_pick" F_pick := ⟨flaw_pick, PySem.W.mg_of X G alaw_pick, klaw_pick, ok_pick B Claw_draw Flaw_pick blaw_pick⟩
  have Claw_mixed : Cal l.prog w K mg base 2 "_law_mixed" F_mixed := ⟨flaw_mixed, PySem.W.mg_of X G alaw_mixed, klaw_mixed, ok_mixed B Claw_draw Flaw_mixed blaw_mixed⟩
  have Claw_names : Cal l.prog w K mg base 3 "_law_names" F_mnames := ⟨flaw_names, PySem.W.mg_of X G alaw_names, klaw_names, ok_mnames Claw_mixed Flaw_names blaw_names⟩
  have Claw_map : Cal l.prog w K mg base 3 "_law_map" F_mmap := ⟨flaw_map, PySem.W.mg_of X G alaw_map, klaw_map, ok_mmap B (PySem.W.mg_none_of X G zsorted) Claw_draw Claw_pick Flaw_map blaw_map⟩
  have Claw_system : Cal l.prog w K mg base 4 "_law_system" F_msystem := ⟨flaw_system, PySem.W.mg_of X G alaw_system, klaw_system, ok_msystem hdict Claw_draw Claw_pick Claw_names Claw_map Flaw_system blaw_system⟩
  have Claw_passage_of : Cal l.prog w K mg base 7 "_law_passage_of" (F_lpof C) := ⟨flaw_passage_of, PySem.W.mg_of X G alaw_passage_of, klaw_passage_of, ok_lpof B gP Ct Flaw_passage_of blaw_passage_of⟩
  have Claw_system_of : Cal l.prog w K mg base 8 "_law_system_of" (F_lsysof CY CS CL C) := ⟨flaw_system_of, PySem.W.mg_of X G alaw_system_of, klaw_system_of, ok_lsysof hdict M_sc M_lk M_sy Claw_passage_of Flaw_system_of blaw_system_of⟩
  have Claw_distances : Cal l.prog w K mg base 1 "_law_distances" F_ldist2 := ⟨flaw_distances, PySem.W.mg_of X G alaw_distances, klaw_distances, ok_ldist2 B Flaw_distances blaw_distances⟩
  have Claw_end : Cal l.prog w K mg base 1 "_law_end" F_lend := ⟨flaw_end, PySem.W.mg_of X G alaw_end, klaw_end, ok_lend hdict Flaw_end blaw_end⟩
  have Claw_far_right : Cal l.prog w K mg base 9 "_law_far_right" F_far := ⟨flaw_far_right, PySem.W.mg_of X G alaw_far_right, klaw_far_right, ok_far B Claw_draw Claw_pick Claw_system Claw_system_of Claw_distances Creach Claw_end Flaw_far_right blaw_far_right⟩
  exact ok_law B Claw_pick Claw_deal Claw_system Claw_system_of Claw_distances Creach Claw_end Claw_far_right Flaw
end Kf
open PySem PySem.W PyProof.Rows
set_option maxRecDepth 100000 in
set_option maxHeartbeats 0 in
theorem PySem.Challenge.cw_scaleways_k42_values_that_are_reached_holds : PySem.Challenge.rw_scaleways_k42_values_that_are_reached.Holds := by
  refine Hd.head ?_
  k_fill
  refine Dn.walkD (l := PySem.Challenge.rw_scaleways_k42_values_that_are_reached) 13 rfl rfl ⟨⟨rfl, by decide, by decide⟩, rfl⟩ "_law_script" (fun w h Y => Y) ?F
  case F =>
    intro w mg fa h KX G hmg
    refine' Kf.all_mk (mc := .type "type") KX G hmg ?ais_number ?lis_number ?cis_number ?kis_number ?ais_value ?lis_value ?cis_value ?kis_value ?ais_sequence ?lis_sequence ?cis_sequence ?kis_sequence ?ais_table ?lis_table ?cis_table ?kis_table ?avalue_at ?lvalue_at ?cvalue_at ?kvalue_at ?avalue_on ?lvalue_on ?cvalue_on ?kvalue_on ?alast_value ?llast_value ?clast_value ?klast_value ?astays_within ?lstays_within ?cstays_within ?kstays_within ?anormal ?lnormal ?cnormal ?knormal ?astretches ?lstretches ?cstretches ?kstretches ?ais_piece ?lis_piece ?cis_piece ?kis_piece ?aare_pieces ?lare_pieces ?care_pieces ?kare_pieces ?ais_name ?lis_name ?cis_name ?kis_name ?aare_words ?lare_words ?care_words ?kare_words ?aare_scales ?lare_scales ?care_scales ?kare_scales ?ajoins ?ljoins ?cjoins ?kjoins ?aare_links ?lare_links ?care_links ?kare_links ?anamed ?lnamed ?cnamed ?knamed ?alaw_deal ?llaw_deal ?claw_deal ?klaw_deal ?aextend_ways ?lextend_ways ?cextend_ways ?kextend_ways ?areach ?lreach ?creach ?kreach ?alaw_draw ?llaw_draw ?claw_draw ?klaw_draw ?alaw_pick ?llaw_pick ?claw_pick ?klaw_pick ?alaw_mixed ?llaw_mixed ?claw_mixed ?klaw_mixed ?alaw_names ?llaw_names ?claw_names ?klaw_names ?alaw_map ?llaw_map ?claw_map ?klaw_map ?alaw_system ?llaw_system ?claw_system ?klaw_system ?alaw_passage_of ?llaw_passage_of ?claw_passage_of ?klaw_passage_of ?alaw_system_of ?llaw_system_of ?claw_system_of ?klaw_system_of ?alaw_distances ?llaw_distances ?claw_distances ?klaw_distances ?alaw_end ?llaw_end ?claw_end ?klaw_end ?alaw_far_right ?llaw_far_right ?claw_far_right ?klaw_far_right ?alaw ?llaw ?claw ?klaw ?zisinstance ?zint ?zbool ?zstr ?zlist ?ztuple ?zlen ?zall ?zrange ?zenumerate ?zmin ?zmax ?zabs ?zsorted ?aIMOST_LETTERS ?zset ?zdict ?aP ?aE ?xE ?rE ?saE ?gaE ?ggE ?nbE ?iE ?tE ?lE ?cE ?kE ?eE ?tyE ?hE ?sE ?pg ?hd ?po ?sa ?mk ?kc ?nt ?ng ?np ?clC ?gsC ?ttC ?moC ?sfC ?neC ?xC ?rd ?ga ?ainit ?linit ?cinit ?kinit ?iinit ?gtable ?actable ?lctable ?cctable ?kctable ?itable ?acall ?lcall ?ccall ?kcall ?icall ?jcall ?aCS ?pgCS ?hdCS ?poCS ?saCS ?mkCS ?kcCS ?nCS_name ?nCS_top ?nCS_words ?clCS ?moCS ?ascinit ?lscinit ?cscinit ?kscinit ?tscinit ?escinit ?iscinit ?aCL ?pgCL ?hdCL ?poCL ?saCL ?mkCL ?kcCL ?nCL_name ?nCL_source ?nCL_target ?nCL_passage ?clCL ?moCL ?alkinit ?llkinit ?clkinit ?klkinit ?ilkinit ?aCY ?pgCY ?hdCY ?poCY ?saCY ?mkCY ?kcCY ?nCY_scales ?nCY_links ?clCY ?moCY ?asyinit ?lsyinit ?csyinit ?ksyinit ?tsyinit ?esyinit ?isyinit ?asyscale ?lsyscale ?csyscale ?ksyscale ?isyscale
    (case ais_number => k_is)
    (case lis_number => k_is)
    (case cis_number => k_is)
    (case kis_number => k_is)
    (case ais_value => k_is)
    (case lis_value => k_is)
    (case cis_value => k_is)
    (case kis_value => k_is)
    (case ais_sequence => k_is)
    (case lis_sequence => k_is)
    (case cis_sequence => k_is)
    (case kis_sequence => k_is)
    (case ais_table => k_is)
    (case lis_table => k_is)
    (case cis_table => k_is)
    (case kis_table => k_is)
    (case avalue_at => k_is)
    (case lvalue_at => k_is)
    (case cvalue_at => k_is)
    (case kvalue_at => k_is)
    (case avalue_on => k_is)
    (case lvalue_on => k_is)
    (case cvalue_on => k_is)
    (case kvalue_on => k_is)
    (case alast_value => k_is)
    (case llast_value => k_is)
    (case clast_value => k_is)
    (case klast_value => k_is)
    (case astays_within => k_is)
    (case lstays_within => k_is)
    (case cstays_within => k_is)
    (case kstays_within => k_is)
    (case anormal => k_is)
    (case lnormal => k_is)
    (case cnormal => k_is)
    (case knormal => k_is)
    (case astretches => k_is)
    (case lstretches => k_is)
    (case cstretches => k_is)
    (case kstretches => k_is)
    (case ais_piece => k_is)
    (case lis_piece => k_is)
    (case cis_piece => k_is)
    (case kis_piece => k_is)
    (case aare_pieces => k_is)
    (case lare_pieces => k_is)
    (case care_pieces => k_is)
    (case kare_pieces => k_is)
    (case ais_name => k_is)
    (case lis_name => k_is)
    (case cis_name => k_is)
    (case kis_name => k_is)
    (case aare_words => k_is)
    (case lare_words => k_is)
    (case care_words => k_is)
    (case kare_words => k_is)
    (case aare_scales => k_is)
    (case lare_scales => k_is)
    (case care_scales => k_is)
    (case kare_scales => k_is)
    (case ajoins => k_is)
    (case ljoins => k_is)
    (case cjoins => k_is)
    (case kjoins => k_is)
    (case aare_links => k_is)
    (case lare_links => k_is)
    (case care_links => k_is)
    (case kare_links => k_is)
    (case anamed => k_is)
    (case lnamed => k_is)
    (case cnamed => k_is)
    (case knamed => k_is)
    (case alaw_deal => k_is)
    (case llaw_deal => k_is)
    (case claw_deal => k_is)
    (case klaw_deal => k_is)
    (case aextend_ways => k_is)
    (case lextend_ways => k_is)
    (case cextend_ways => k_is)
    (case kextend_ways => k_is)
    (case areach => k_is)
    (case lreach => k_is)
    (case creach => k_is)
    (case kreach => k_is)
    (case alaw_draw => k_is)
    (case llaw_draw => k_is)
    (case claw_draw => k_is)
    (case klaw_draw => k_is)
    (case alaw_pick => k_is)
    (case llaw_pick => k_is)
    (case claw_pick => k_is)
    (case klaw_pick => k_is)
    (case alaw_mixed => k_is)
    (case llaw_mixed => k_is)
    (case claw_mixed => k_is)
    (case klaw_mixed => k_is)
    (case alaw_names => k_is)
    (case llaw_names => k_is)
    (case claw_names => k_is)
    (case klaw_names => k_is)
    (case alaw_map => k_is)
    (case llaw_map => k_is)
    (case claw_map => k_is)
    (case klaw_map => k_is)
    (case alaw_system => k_is)
    (case llaw_system => k_is)
    (case claw_system => k_is)
    (case klaw_system => k_is)
    (case alaw_passage_of => k_is)
    (case llaw_passage_of => k_is)
    (case claw_passage_of => k_is)
    (case klaw_passage_of => k_is)
    (case alaw_system_of => k_is)
    (case llaw_system_of => k_is)
    (case claw_system_of => k_is)
    (case klaw_system_of => k_is)
    (case alaw_distances => k_is)
    (case llaw_distances => k_is)
    (case claw_distances => k_is)
    (case klaw_distances => k_is)
    (case alaw_end => k_is)
    (case llaw_end => k_is)
    (case claw_end => k_is)
    (case klaw_end => k_is)
    (case alaw_far_right => k_is)
    (case llaw_far_right => k_is)
    (case claw_far_right => k_is)
    (case klaw_far_right => k_is)
    (case alaw => k_is)
    (case llaw => k_is)
    (case claw => k_is)
    (case klaw => k_is)
    (case zisinstance => k_is)
    (case zint => k_is)
    (case zbool => k_is)
    (case zstr => k_is)
    (case zlist => k_is)
    (case ztuple => k_is)
    (case zlen => k_is)
    (case zall => k_is)
    (case zrange => k_is)
    (case zenumerate => k_is)
    (case zmin => k_is)
    (case zmax => k_is)
    (case zabs => k_is)
    (case zsorted => k_is)
    (case aIMOST_LETTERS => k_is)
    (case zset => k_is)
    (case zdict => k_is)
    (case aP => k_is)
    (case aE => k_is)
    (case xE => k_is)
    (case rE => first | rfl | k_is)
    (case saE => k_is)
    (case gaE => k_is)
    (case ggE => k_is)
    (case nbE => k_is)
    (case iE => k_is)
    (case tE => k_is)
    (case lE => k_is)
    (case cE => k_is)
    (case kE => k_is)
    (case eE => k_is)
    (case tyE => k_is)
    (case hE => k_is)
    (case sE => first | rfl | k_is)
    (case pg => k_is)
    (case hd => k_is)
    (case po => k_is)
    (case sa => k_is)
    (case mk => k_is)
    (case kc => k_is)
    (case nt => k_is)
    (case ng => k_is)
    (case np => k_is)
    (case clC => k_is)
    (case gsC => k_is)
    (case ttC => k_is)
    (case moC => k_is)
    (case sfC => k_is)
    (case neC => k_is)
    (case xC => k_is)
    (case rd => k_is)
    (case ga => k_is)
    (case ainit => k_is)
    (case linit => k_is)
    (case cinit => k_is)
    (case kinit => k_is)
    (case iinit => k_is)
    (case gtable => k_is)
    (case actable => k_is)
    (case lctable => k_is)
    (case cctable => k_is)
    (case kctable => k_is)
    (case itable => k_is)
    (case acall => k_is)
    (case lcall => k_is)
    (case ccall => k_is)
    (case kcall => k_is)
    (case icall => k_is)
    (case jcall => k_is)
    (case aCS => k_is)
    (case pgCS => k_is)
    (case hdCS => k_is)
    (case poCS => k_is)
    (case saCS => k_is)
    (case mkCS => k_is)
    (case kcCS => k_is)
    (case nCS_name => k_is)
    (case nCS_top => k_is)
    (case nCS_words => k_is)
    (case clCS => k_is)
    (case moCS => k_is)
    (case ascinit => k_is)
    (case lscinit => k_is)
    (case cscinit => k_is)
    (case kscinit => k_is)
    (case tscinit => k_is)
    (case escinit => k_is)
    (case iscinit => k_is)
    (case aCL => k_is)
    (case pgCL => k_is)
    (case hdCL => k_is)
    (case poCL => k_is)
    (case saCL => k_is)
    (case mkCL => k_is)
    (case kcCL => k_is)
    (case nCL_name => k_is)
    (case nCL_source => k_is)
    (case nCL_target => k_is)
    (case nCL_passage => k_is)
    (case clCL => k_is)
    (case moCL => k_is)
    (case alkinit => k_is)
    (case llkinit => k_is)
    (case clkinit => k_is)
    (case klkinit => k_is)
    (case ilkinit => k_is)
    (case aCY => k_is)
    (case pgCY => k_is)
    (case hdCY => k_is)
    (case poCY => k_is)
    (case saCY => k_is)
    (case mkCY => k_is)
    (case kcCY => k_is)
    (case nCY_scales => k_is)
    (case nCY_links => k_is)
    (case clCY => k_is)
    (case moCY => k_is)
    (case asyinit => k_is)
    (case lsyinit => k_is)
    (case csyinit => k_is)
    (case ksyinit => k_is)
    (case tsyinit => k_is)
    (case esyinit => k_is)
    (case isyinit => k_is)
    (case asyscale => k_is)
    (case lsyscale => k_is)
    (case csyscale => k_is)
    (case ksyscale => k_is)
    (case isyscale => k_is)
