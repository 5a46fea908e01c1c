import PyProof.Rows.All
import Wide.All
import OpenK.AllK
import Wide.FinOn
import PyProof.EqAt
import PyProof.EqKinds
import PyProof.TupleCall
import HandS.ForMost
import HandS.ForExc
import HandS.Evl
import HandS.Flow
import HandS.ExcInit
import HandS.ExcIs
import HandS.IsInst
import HandS.MakeKwOnly
import HandS.ExcField
import KE.KExcInit
import KE.KExcIs
import HandS.Ends
import KE.DataEq
import PySem.Challenge.RW_evertreads_k01_constants_and_errors
set_option Elab.async false
set_option linter.all false
set_option maxRecDepth 100000
set_option maxHeartbeats 4000000
/-! Values as data: what an expression, a block and a def come to, told by plain data over a frozen part of the heap and an owned one. -/
namespace Vd
open PySem L2
abbrev Ex := Evl.Ex
/-- plain data; rol: a list that is only read (the script); ins, exc: a frozen instance, a frozen exception; ob: a value of which nothing is said -/
inductive D where
  | non | bl (b : Bool) | int (i : Int) | str (x : Str)
  | lst (l : List D) | rol (l : List D) | tup (l : List D) | dct (l : List (Key × D))
  | ins (C : Addr) (l : List (Str × D)) | exc (C : Addr) (l : List (Str × D)) | ob (v : V)

mutual
inductive Rp (K : PySem.W.Frag) (F : Hp) : V → D → Prop
  | non : Rp K F .non .non
  | bl (b : Bool) : Rp K F (.bl b) (.bl b)
  | int (i : Int) : Rp K F (.int i) (.int i)
  | str (x : Str) : Rp K F (.str x) (.str x)
  | lst {a : Addr} {xs : List V} {l : List D} : F a = some (.lst xs) → Rps K F xs l → Rp K F (.ref a) (.lst l)
  | rol {a : Addr} {xs : List V} {l : List D} : SqL K F a xs → Rps K F xs l → Rp K F (.ref a) (.rol l)
  | tup {a : Addr} {xs : List V} {l : List D} : SqT K F a xs → Rps K F xs l → Rp K F (.ref a) (.tup l)
  | dct {a : Addr} {kvs : List (Key × V)} {l : List (Key × D)} : F a = some (.dK kvs) → Rpk K F kvs l → Rp K F (.ref a) (.dct l)
  | ins {a C dx : Addr} {fs : List (Str × V)} {l : List (Str × D)} : F a = some (.ins C dx fs) → Rpf K F fs l → Rp K F (.ref a) (.ins C l)
  | exc0 {a C : Addr} : F a = some (exo a C none) → Rp K F (.ref a) (.exc C [])
  | exc {a C dx : Addr} {fs : List (Str × V)} {l : List (Str × D)} : F a = some (exo a C (some dx)) → F dx = some (exd dx fs) → Rpf K F fs l → Rp K F (.ref a) (.exc C l)
  | ob (v : V) : Rp K F v (.ob v)
inductive Rps (K : PySem.W.Frag) (F : Hp) : List V → List D → Prop
  | nil : Rps K F [] []
  | cons {v : V} {d : D} {vs : List V} {ds : List D} : Rp K F v d → Rps K F vs ds → Rps K F (v :: vs) (d :: ds)
inductive Rpk (K : PySem.W.Frag) (F : Hp) : List (Key × V) → List (Key × D) → Prop
  | nil : Rpk K F [] []
  | cons {k : Key} {v : V} {d : D} {vs : List (Key × V)} {ds : List (Key × D)} : Rp K F v d → Rpk K F vs ds → Rpk K F ((k, v) :: vs) ((k, d) :: ds)
inductive Rpf (K : PySem.W.Frag) (F : Hp) : List (Str × V) → List (Str × D) → Prop
  | nil : Rpf K F [] []
  | cons {k : Str} {v : V} {d : D} {vs : List (Str × V)} {ds : List (Str × D)} : Rp K F v d → Rpf K F vs ds → Rpf K F ((k, v) :: vs) ((k, d) :: ds)
end

section
variable {K : PySem.W.Frag} {F F' : Hp}
mutual
theorem Rp.mono (e : Ex F F') : ∀ {v : V} {d : D}, Rp K F v d → Rp K F' v d
  | _, _, .non => .non
  | _, _, .bl b => .bl b
  | _, _, .int i => .int i
  | _, _, .str x => .str x
  | _, _, .lst h r => .lst (e _ _ h) (Rps.mono e r)
  | _, _, .rol h r => .rol (Evl.ex_l e h) (Rps.mono e r)
  | _, _, .exc0 h => .exc0 (e _ _ h)
  | _, _, .exc h1 h2 r => .exc (e _ _ h1) (e _ _ h2) (Rpf.mono e r)
  | _, _, .tup h r => .tup (Evl.ex_t e h) (Rps.mono e r)
  | _, _, .dct h r => .dct (e _ _ h) (Rpk.mono e r)
  | _, _, .ins h r => .ins (e _ _ h) (Rpf.mono e r)
  | _, _, .ob v => .ob v
theorem Rps.mono (e : Ex F F') : ∀ {v : List V} {d : List D}, Rps K F v d → Rps K F' v d
  | _, _, .nil => .nil
  | _, _, .cons h r => .cons (Rp.mono e h) (Rps.mono e r)
theorem Rpk.mono (e : Ex F F') : ∀ {v : List (Key × V)} {d : List (Key × D)}, Rpk K F v d → Rpk K F' v d
  | _, _, .nil => .nil
  | _, _, .cons h r => .cons (Rp.mono e h) (Rpk.mono e r)
theorem Rpf.mono (e : Ex F F') : ∀ {v : List (Str × V)} {d : List (Str × D)}, Rpf K F v d → Rpf K F' v d
  | _, _, .nil => .nil
  | _, _, .cons h r => .cons (Rp.mono e h) (Rpf.mono e r)
end
theorem Rps.length : ∀ {v : List V} {d : List D}, Rps K F v d → v.length = d.length
  | _, _, .nil => rfl
  | _, _, .cons _ r => by simp [Rps.length r]
theorem Rps.get : ∀ {v : List V} {d : List D} {i : Nat} {x : D}, Rps K F v d → d[i]? = some x → ∃ y, v[i]? = some y ∧ Rp K F y x
  | _, _, _, _, .nil, e => by simp at e
  | _, _, 0, _, .cons h _, e => by
    simp at e
    subst e
    exact ⟨_, rfl, h⟩
  | _, _, i + 1, _, .cons _ r, e => by
    simp only [List.getElem?_cons_succ] at e ⊢
    exact Rps.get r e
theorem Rps.get' : ∀ {v : List V} {d : List D} {i : Nat} {y : V}, Rps K F v d → v[i]? = some y → ∃ x, d[i]? = some x ∧ Rp K F y x
  | _, _, _, _, .nil, e => by simp at e
  | _, _, 0, _, .cons h _, e => by
    simp at e
    subst e
    exact ⟨_, rfl, h⟩
  | _, _, i + 1, _, .cons _ r, e => by
    simp only [List.getElem?_cons_succ] at e ⊢
    exact Rps.get' r e
theorem Rps.append : ∀ {v w : List V} {d e : List D}, Rps K F v d → Rps K F w e → Rps K F (v ++ w) (d ++ e)
  | _, _, _, _, .nil, s => s
  | _, _, _, _, .cons h r, s => .cons h (Rps.append r s)
theorem Rps.take : ∀ {v : List V} {d : List D} (n : Nat), Rps K F v d → Rps K F (v.take n) (d.take n)
  | _, _, 0, _ => .nil
  | _, _, _ + 1, .nil => .nil
  | _, _, n + 1, .cons h r => .cons h (Rps.take n r)
theorem Rps.drop : ∀ {v : List V} {d : List D} (n : Nat), Rps K F v d → Rps K F (v.drop n) (d.drop n)
  | _, _, 0, r => r
  | _, _, _ + 1, .nil => .nil
  | _, _, n + 1, .cons _ r => Rps.drop n r
theorem Rps.set {y : V} {x : D} (h : Rp K F y x) : ∀ {v : List V} {d : List D} (n : Nat), Rps K F v d → Rps K F (v.set n y) (d.set n x)
  | _, _, _, .nil => .nil
  | _, _, 0, .cons _ r => .cons h r
  | _, _, n + 1, .cons z r => .cons z (Rps.set h n r)
theorem Rps.ints : ∀ (l : List Int), Rps K F (l.map V.int) (l.map D.int)
  | [] => .nil
  | i :: l => .cons (.int i) (Rps.ints l)
theorem Rps.bls : ∀ {v : List V} {l : List Bool}, Rps K F v (l.map D.bl) → v = l.map V.bl
  | _, [], .nil => rfl
  | _, b :: l, .cons (.bl _) r => by rw [Rps.bls (l := l) r]; rfl
theorem Rps.intsV : ∀ {v : List V} {l : List Int}, Rps K F v (l.map D.int) → v = l.map V.int
  | _, [], .nil => rfl
  | _, b :: l, .cons (.int _) r => by rw [Rps.intsV (l := l) r]; rfl
theorem Rps.strsV : ∀ {v : List V} {l : List Str}, Rps K F v (l.map D.str) → v = l.map V.str
  | _, [], .nil => rfl
  | _, b :: l, .cons (.str _) r => by rw [Rps.strsV (l := l) r]; rfl
theorem Rpf.look : ∀ {v : List (Str × V)} {d : List (Str × D)} {f : Str} {x : D}, Rpf K F v d → d.lookup f = some x → ∃ y, v.lookup f = some y ∧ Rp K F y x
  | _, _, _, _, .nil, e => by cases e
  | _, _, f, x, .cons (k := k) (v := v) (d := d) h r, e => by
    by_cases q : f = k
    · subst q
      simp [List.lookup] at e ⊢
      subst e
      exact h
    · have q2 : (f == k) = false := by simpa using q
      simp [List.lookup, q2] at e ⊢
      exact Rpf.look r e
theorem look_cons {A : Type} (f k : Str) (x : A) (l : List (Str × A)) : ((k, x) :: l).lookup f = if f = k then some x else l.lookup f := by
  by_cases q : f = k
  · subst q
    simp [List.lookup]
  · have q2 : (f == k) = false := by simpa using q
    simp only [List.lookup, q2, if_neg q]
theorem Rpf.none : ∀ {v : List (Str × V)} {d : List (Str × D)} {f : Str}, Rpf K F v d → d.lookup f = Option.none → v.lookup f = Option.none
  | _, _, _, .nil, _ => rfl
  | _, _, f, .cons (k := k) (v := v) (d := d) h r, e => by
    rw [look_cons] at e ⊢
    by_cases q : f = k
    · rw [if_pos q] at e
      cases e
    · rw [if_neg q] at e ⊢
      exact Rpf.none r e
theorem Rpf.length : ∀ {v : List (Str × V)} {d : List (Str × D)}, Rpf K F v d → v.length = d.length
  | _, _, .nil => rfl
  | _, _, .cons _ r => by simp [Rpf.length r]
end

/-! ### what stands in the slots -/
structure Sl (K : PySem.W.Frag) (F : Hp) (σ : L2.St) (env : List (Option D)) : Prop where
  len : σ.length = env.length
  at_ : ∀ (i : Nat) (d : D), env[i]? = some (some d) → ∃ v, σ[i]? = some (some v) ∧ Rp K F v d
section
variable {K : PySem.W.Frag} {F F' : Hp} {σ : L2.St} {env : List (Option D)}
theorem Sl.mono (e : Ex F F') (s : Sl K F σ env) : Sl K F' σ env := ⟨s.len, fun i d h => by
  obtain ⟨v, h1, h2⟩ := s.at_ i d h
  exact ⟨v, h1, h2.mono e⟩⟩
theorem Sl.set {v : V} {d : D} (s : Sl K F σ env) (r : Rp K F v d) (i : Nat) : Sl K F (σ.set i (some v)) (env.set i (some d)) := ⟨by rw [List.length_set, List.length_set, s.len], fun j e h => by
  rw [List.getElem?_set] at h ⊢
  by_cases q : i = j
  · subst q
    rw [if_pos rfl] at h ⊢
    by_cases l : i < env.length
    · rw [if_pos l] at h
      rw [if_pos (by rw [s.len]; exact l)]
      cases h
      exact ⟨v, rfl, r⟩
    · rw [if_neg l] at h
      cases h
  · rw [if_neg q] at h ⊢
    exact s.at_ j e h⟩
theorem Sl.unset (s : Sl K F σ env) (i : Nat) : Sl K F (σ.set i none) (env.set i none) := ⟨by rw [List.length_set, List.length_set, s.len], fun j e h => by
  rw [List.getElem?_set] at h ⊢
  by_cases q : i = j
  · subst q
    rw [if_pos rfl] at h
    by_cases l : i < env.length
    · rw [if_pos l] at h
      cases h
    · rw [if_neg l] at h
      cases h
  · rw [if_neg q] at h ⊢
    exact s.at_ j e h⟩
def wipeE (env : List (Option D)) : List Nat → List (Option D)
  | [] => env
  | v :: vs => (wipeE env vs).set v none
theorem Sl.wipe (s : Sl K F σ env) : ∀ vs : List Nat, Sl K F (L2.wipe σ vs) (wipeE env vs)
  | [] => s
  | v :: vs => (Sl.wipe s vs).unset v
theorem Sl.start {N : List Str} {vs : List V} {ds : List D} (r : Rps K F vs ds) : Sl K F (L2.start N vs) (ds.map some ++ List.replicate (N.length - ds.length) none) := by
  have e := r.length
  refine ⟨by simp [L2.start, e], fun i d h => ?_⟩
  unfold L2.start
  by_cases l : i < ds.length
  · rw [List.getElem?_append_left (by simpa using l)] at h
    rw [List.getElem?_append_left (by simpa [e] using l)]
    rw [List.getElem?_map] at h ⊢
    cases q : ds[i]? with
    | none =>
      rw [q] at h
      cases h
    | some x =>
      rw [q] at h
      cases h
      obtain ⟨y, h1, h2⟩ := r.get q
      exact ⟨y, by rw [h1]; rfl, h2⟩
  · rw [List.getElem?_append_right (by simpa using l)] at h
    rw [List.getElem?_replicate] at h
    split at h <;> cases h
/-- a slot's data may be told otherwise, or not at all -/
theorem Sl.weak {env' : List (Option D)} (s : Sl K F σ env) (l : env'.length = env.length) (h : ∀ (i : Nat) (d : D), env'[i]? = some (some d) → env[i]? = some (some d)) : Sl K F σ env' :=
  ⟨by rw [s.len, l], fun i d e => s.at_ i d (h i d e)⟩
end

/-! ### what is owned -/
inductive OD where
  | lst (l : List D) | dct (l : List (Key × D)) | ins (C : Addr) (l : List (Str × D))
abbrev Ow := Addr → Option OD
def ou (ow : Ow) (a : Addr) (o : OD) : Ow := fun b => if b = a then some o else ow b
theorem ou_same {ow : Ow} {a : Addr} {o : OD} : ou ow a o a = some o := by unfold ou; rw [if_pos rfl]
theorem ou_ne {ow : Ow} {a b : Addr} {o : OD} (h : b ≠ a) : ou ow a o b = ow b := by unfold ou; rw [if_neg h]
theorem ou_ou {ow : Ow} {a : Addr} {o u : OD} : ou (ou ow a o) a u = ou ow a u := by
  funext b; unfold ou; split <;> rfl
def OdOk (K : PySem.W.Frag) (F H : Hp) (a : Addr) : OD → Prop
  | .lst l => ∃ xs, H a = some (.lst xs) ∧ Rps K F xs l
  | .dct l => ∃ kvs, H a = some (.dK kvs) ∧ Rpk K F kvs l
  | .ins C l => ∃ dx fs, H a = some (.ins C dx fs) ∧ Rpf K F fs l
theorem OdOk.there {K : PySem.W.Frag} {F H : Hp} {a : Addr} : ∀ {o : OD}, OdOk K F H a o → ∃ u, H a = some u
  | .lst _, ⟨_, h, _⟩ => ⟨_, h⟩
  | .dct _, ⟨_, h, _⟩ => ⟨_, h⟩
  | .ins _ _, ⟨_, _, h, _⟩ => ⟨_, h⟩
theorem OdOk.stay {K : PySem.W.Frag} {F F' H H' : Hp} {a : Addr} (e : Ex F F') (h : H' a = H a) : ∀ {o : OD}, OdOk K F H a o → OdOk K F' H' a o
  | .lst _, ⟨xs, q, r⟩ => ⟨xs, h.trans q, r.mono e⟩
  | .dct _, ⟨xs, q, r⟩ => ⟨xs, h.trans q, r.mono e⟩
  | .ins _ _, ⟨dx, xs, q, r⟩ => ⟨dx, xs, h.trans q, r.mono e⟩
structure Wo (K : PySem.W.Frag) (ow : Ow) (F H : Hp) : Prop where
  ex : Ex F H
  own : ∀ a o, ow a = some o → F a = none ∧ OdOk K F H a o
section
variable {K : PySem.W.Frag} {ow : Ow} {F H : Hp} {p : Addr} {o : HO}
theorem Wo.free (w : Wo K ow F H) (h : H p = none) : F p = none := Evl.fresh_back w.ex h
theorem Wo.ofree (w : Wo K ow F H) (h : H p = none) : ow p = none := by
  cases q : ow p with
  | none => rfl
  | some u =>
    obtain ⟨_, z, e⟩ := (w.own p u q).imp id OdOk.there
    rw [h] at e
    cases e
/-- a new object, frozen -/
theorem Wo.new (w : Wo K ow F H) (h : H p = none) : Wo K ow (upd F p o) (upd H p o) := by
  refine ⟨fun a u e => ?_, fun a u e => ?_⟩
  · by_cases q : a = p
    · subst q
      rw [upd_same] at e ⊢
      exact e
    · rw [upd_ne q] at e ⊢
      exact w.ex a u e
  · obtain ⟨h1, h2⟩ := w.own a u e
    have q : a ≠ p := by
      obtain ⟨z, hz⟩ := h2.there
      exact ne_of_none hz h
    refine ⟨by rw [upd_ne q]; exact h1, h2.stay (Evl.Ex.new (w.free h)) (upd_ne q)⟩
theorem Wo.exnew (w : Wo K ow F H) (h : H p = none) : Ex F (upd F p o) := Evl.Ex.new (w.free h)
/-- a new object, untracked by both: the heap alone grows -/
theorem Wo.grow (w : Wo K ow F H) (h : H p = none) : Wo K ow F (upd H p o) := by
  refine ⟨fun a u e => ?_, fun a u e => ?_⟩
  · rw [upd_ne (ne_of_none (w.ex a u e) h)]
    exact w.ex a u e
  · obtain ⟨h1, h2⟩ := w.own a u e
    obtain ⟨z, hz⟩ := h2.there
    exact ⟨h1, h2.stay (Evl.Ex.refl F) (upd_ne (ne_of_none hz h))⟩
/-- a new list, owned -/
theorem Wo.newL {xs : List V} {l : List D} (w : Wo K ow F H) (h : H p = none) (r : Rps K F xs l) : Wo K (ou ow p (.lst l)) F (upd H p (.lst xs)) := by
  refine ⟨(w.grow h).ex, fun a u e => ?_⟩
  by_cases q : a = p
  · subst q
    rw [ou_same] at e
    cases e
    exact ⟨w.free h, xs, upd_same, r⟩
  · rw [ou_ne q] at e
    exact (w.grow h).own a u e
/-- a new dict, owned -/
theorem Wo.newK {kvs : List (Key × V)} {l : List (Key × D)} (w : Wo K ow F H) (h : H p = none) (r : Rpk K F kvs l) : Wo K (ou ow p (.dct l)) F (upd H p (.dK kvs)) := by
  refine ⟨(w.grow h).ex, fun a u e => ?_⟩
  by_cases q : a = p
  · subst q
    rw [ou_same] at e
    cases e
    exact ⟨w.free h, kvs, upd_same, r⟩
  · rw [ou_ne q] at e
    exact (w.grow h).own a u e
/-- an owned list is changed -/
theorem Wo.setL {xs : List V} {l l0 : List D} (w : Wo K ow F H) (h : ow p = some (.lst l0)) (r : Rps K F xs l) : Wo K (ou ow p (.lst l)) F (upd H p (.lst xs)) := by
  obtain ⟨n, _⟩ := w.own p _ h
  refine ⟨fun a u e => ?_, fun a u e => ?_⟩
  · rw [upd_ne (ne_of_none e n)]
    exact w.ex a u e
  · by_cases q : a = p
    · subst q
      rw [ou_same] at e
      cases e
      exact ⟨n, xs, upd_same, r⟩
    · rw [ou_ne q] at e
      obtain ⟨h1, h2⟩ := w.own a u e
      exact ⟨h1, h2.stay (Evl.Ex.refl F) (upd_ne q)⟩
theorem Wo.setK {kvs : List (Key × V)} {l l0 : List (Key × D)} (w : Wo K ow F H) (h : ow p = some (.dct l0)) (r : Rpk K F kvs l) : Wo K (ou ow p (.dct l)) F (upd H p (.dK kvs)) := by
  obtain ⟨n, _⟩ := w.own p _ h
  refine ⟨fun a u e => ?_, fun a u e => ?_⟩
  · rw [upd_ne (ne_of_none e n)]
    exact w.ex a u e
  · by_cases q : a = p
    · subst q
      rw [ou_same] at e
      cases e
      exact ⟨n, kvs, upd_same, r⟩
    · rw [ou_ne q] at e
      obtain ⟨h1, h2⟩ := w.own a u e
      exact ⟨h1, h2.stay (Evl.Ex.refl F) (upd_ne q)⟩
theorem Wo.setI {C dx : Addr} {fs fs0 : List (Str × V)} {l l0 : List (Str × D)} (w : Wo K ow F H) (h : ow p = some (.ins C l0)) (r : Rpf K F fs l) : Wo K (ou ow p (.ins C l)) F (upd H p (.ins C dx fs)) := by
  obtain ⟨n, _⟩ := w.own p _ h
  refine ⟨fun a u e => ?_, fun a u e => ?_⟩
  · rw [upd_ne (ne_of_none e n)]
    exact w.ex a u e
  · by_cases q : a = p
    · subst q
      rw [ou_same] at e
      cases e
      exact ⟨n, dx, fs, upd_same, r⟩
    · rw [ou_ne q] at e
      obtain ⟨h1, h2⟩ := w.own a u e
      exact ⟨h1, h2.stay (Evl.Ex.refl F) (upd_ne q)⟩
/-- an owned thing is let freeze -/
theorem Wo.freeze {u : HO} (w : Wo K ow F H) (n : F p = none) (h : H p = some u) (hp : ow p = none) : Wo K ow (upd F p u) H := by
  refine ⟨fun a o e => ?_, fun a o e => ?_⟩
  · by_cases q : a = p
    · subst q
      rw [upd_same] at e
      cases e
      exact h
    · rw [upd_ne q] at e
      exact w.ex a o e
  · have q : a ≠ p := fun z => by
      subst z
      rw [hp] at e
      cases e
    obtain ⟨h1, h2⟩ := w.own a o e
    exact ⟨by rw [upd_ne q]; exact h1, h2.stay (Evl.Ex.new n) rfl⟩
theorem Wo.drop {ow' : Ow} (w : Wo K ow F H) (h : ∀ a o, ow' a = some o → ow a = some o) : Wo K ow' F H := ⟨w.ex, fun a o e => w.own a o (h a o e)⟩
end
end Vd

set_option Elab.async false
set_option linter.all false
set_option maxRecDepth 100000
set_option maxHeartbeats 4000000
namespace Vd
open PySem L2
/-! ### the weakest readings -/
def WpE (X : Cx) (e : Expr) : TE := fun σ H Q => ∀ pins s, Inv X pins σ H s → wpAny (model X.prog X.w) X.A (eval e X.env) (EP X pins σ Q) X.xe s
def WpT (X : Cx) (e : Expr) : TT := fun σ H Q => ∀ pins s, Inv X pins σ H s → wpAny (model X.prog X.w) X.A (isTrue e X.env (eval e X.env)) (TP X pins σ Q) X.xe s
def WpA (X : Cx) (es : List Expr) : TA := fun σ H Q => ∀ (pos : Pos) pins s, Inv X pins σ H s → wpAny (model X.prog X.w) X.A (spliced (backTo pos (starEach es X.env))) (AP X pins σ Q) X.xe s
def WpS (X : Cx) (ss : List Stmt) : TS := fun D σ H => ∀ pins s, Inv X pins σ H s → wpAny (model X.prog X.w) X.A (execs ss X.env) (SP X pins D) X.xe s
section
variable {X : Cx}
theorem pe_can {e : Expr} : PE X e (WpE X e) := ⟨fun pins s _ _ _ I h => h pins s I⟩
theorem pt_can {e : Expr} : PT X e (WpT X e) := ⟨fun pins s _ _ _ I h => h pins s I⟩
theorem pa_can {es : List Expr} : PA X es (WpA X es) := ⟨fun pos pins s _ _ _ I h => h pos pins s I⟩
theorem pss_can {ss : List Stmt} : PSs X ss (WpS X ss) := ⟨fun pins s _ _ _ I h => h pins s I⟩
theorem wpe {e : Expr} {t : TE} (p : PE X e t) {σ : L2.St} {H : Hp} {Q : VK} (h : t σ H Q) : WpE X e σ H Q := fun pins s I => p.run pins s σ H Q I h
theorem wpt {e : Expr} {t : TT} (p : PT X e t) {σ : L2.St} {H : Hp} {Q : Bool → Hp → Prop} (h : t σ H Q) : WpT X e σ H Q := fun pins s I => p.run pins s σ H Q I h
theorem wpa {es : List Expr} {t : TA} (p : PA X es t) {σ : L2.St} {H : Hp} {Q : List V → Hp → Prop} (h : t σ H Q) : WpA X es σ H Q := fun pos pins s I => p.run pos pins s σ H Q I h
theorem wps {ss : List Stmt} {t : TS} (p : PSs X ss t) {D : Ends} {σ : L2.St} {H : Hp} (h : t D σ H) : WpS X ss D σ H := fun pins s I => p.run pins s σ H D I h
end

/-! ### judgements -/
def Post (K : PySem.W.Frag) (ow : Ow) (F : Hp) (d : D) (Q : VK) : Prop := ∀ F2 H2 v, Ex F F2 → Wo K ow F2 H2 → Rp K F2 v d → Q v H2
def PostB (K : PySem.W.Frag) (ow : Ow) (F : Hp) (b : Bool) (Q : Bool → Hp → Prop) : Prop := ∀ F2 H2, Ex F F2 → Wo K ow F2 H2 → Q b H2
def PostA (K : PySem.W.Frag) (ow : Ow) (F : Hp) (ds : List D) (Q : List V → Hp → Prop) : Prop := ∀ F2 H2 vs, Ex F F2 → Wo K ow F2 H2 → Rps K F2 vs ds → Q vs H2
theorem Post.ex {K : PySem.W.Frag} {ow : Ow} {F F' : Hp} {d : D} {Q : VK} (p : Post K ow F d Q) (e : Ex F F') : Post K ow F' d Q := fun F2 H2 v e2 w r => p F2 H2 v (e.trans e2) w r
/-- an expression comes to the data d; what is owned stays -/
structure Ve (X : Cx) (e : Expr) (env : List (Option D)) (ow : Ow) (d : D) : Prop where
  run : ∀ (σ : L2.St) (F H : Hp) (Q : VK), Sl X.K F σ env → Wo X.K ow F H → Post X.K ow F d Q → WpE X e σ H Q
instance (X : Cx) (e : Expr) (env : List (Option D)) (ow : Ow) (d : D) : CoeFun (Ve X e env ow d) (fun _ => ∀ (σ : L2.St) (F H : Hp) (Q : VK), Sl X.K F σ env → Wo X.K ow F H → Post X.K ow F d Q → WpE X e σ H Q) := ⟨fun h => h.run⟩
structure Vt (X : Cx) (e : Expr) (env : List (Option D)) (ow : Ow) (b : Bool) : Prop where
  run : ∀ (σ : L2.St) (F H : Hp) (Q : Bool → Hp → Prop), Sl X.K F σ env → Wo X.K ow F H → PostB X.K ow F b Q → WpT X e σ H Q
instance (X : Cx) (e : Expr) (env : List (Option D)) (ow : Ow) (b : Bool) : CoeFun (Vt X e env ow b) (fun _ => ∀ (σ : L2.St) (F H : Hp) (Q : Bool → Hp → Prop), Sl X.K F σ env → Wo X.K ow F H → PostB X.K ow F b Q → WpT X e σ H Q) := ⟨fun h => h.run⟩
structure Va (X : Cx) (es : List Expr) (env : List (Option D)) (ow : Ow) (ds : List D) : Prop where
  run : ∀ (σ : L2.St) (F H : Hp) (Q : List V → Hp → Prop), Sl X.K F σ env → Wo X.K ow F H → PostA X.K ow F ds Q → WpA X es σ H Q
instance (X : Cx) (es : List Expr) (env : List (Option D)) (ow : Ow) (ds : List D) : CoeFun (Va X es env ow ds) (fun _ => ∀ (σ : L2.St) (F H : Hp) (Q : List V → Hp → Prop), Sl X.K F σ env → Wo X.K ow F H → PostA X.K ow F ds Q → WpA X es σ H Q) := ⟨fun h => h.run⟩
/-- an expression that changes what is owned: P tells the data and what is owned behind it -/
structure Vm (X : Cx) (e : Expr) (env : List (Option D)) (ow : Ow) (P : D → Ow → Prop) : Prop where
  run : ∀ (σ : L2.St) (F H : Hp) (Q : VK), Sl X.K F σ env → Wo X.K ow F H → (∀ F2 H2 v d ow2, Ex F F2 → Wo X.K ow2 F2 H2 → Rp X.K F2 v d → P d ow2 → Q v H2) → WpE X e σ H Q
instance (X : Cx) (e : Expr) (env : List (Option D)) (ow : Ow) (P : D → Ow → Prop) : CoeFun (Vm X e env ow P) (fun _ => ∀ (σ : L2.St) (F H : Hp) (Q : VK), Sl X.K F σ env → Wo X.K ow F H → (∀ F2 H2 v d ow2, Ex F F2 → Wo X.K ow2 F2 H2 → Rp X.K F2 v d → P d ow2 → Q v H2) → WpE X e σ H Q) := ⟨fun h => h.run⟩
/-- a block: B the frozen part at the def's entry -/
structure Rn (X : Cx) (B : Hp) (ss : List Stmt) (Dn : Ends) (env : List (Option D)) (ow : Ow) : Prop where
  run : ∀ (σ : L2.St) (F H : Hp), Ex B F → Sl X.K F σ env → Wo X.K ow F H → WpS X ss Dn σ H
instance (X : Cx) (B : Hp) (ss : List Stmt) (Dn : Ends) (env : List (Option D)) (ow : Ow) : CoeFun (Rn X B ss Dn env ow) (fun _ => ∀ (σ : L2.St) (F H : Hp), Ex B F → Sl X.K F σ env → Wo X.K ow F H → WpS X ss Dn σ H) := ⟨fun h => h.run⟩

/-- two values, by an operation's reading -/
structure RD (K : PySem.W.Frag) (ow : Ow) (r : R2) (a b d : D) : Prop where
  run : ∀ (F H : Hp) (x y : V) (Q : VK), Wo K ow F H → Rp K F x a → Rp K F y b → Post K ow F d Q → r x y H Q
instance (K : PySem.W.Frag) (ow : Ow) (r : R2) (a b d : D) : CoeFun (RD K ow r a b d) (fun _ => ∀ (F H : Hp) (x y : V) (Q : VK), Wo K ow F H → Rp K F x a → Rp K F y b → Post K ow F d Q → r x y H Q) := ⟨fun h => h.run⟩
structure RU (K : PySem.W.Frag) (ow : Ow) (r : V → Hp → VK → Prop) (a d : D) : Prop where
  run : ∀ (F H : Hp) (x : V) (Q : VK), Wo K ow F H → Rp K F x a → Post K ow F d Q → r x H Q
instance (K : PySem.W.Frag) (ow : Ow) (r : V → Hp → VK → Prop) (a d : D) : CoeFun (RU K ow r a d) (fun _ => ∀ (F H : Hp) (x : V) (Q : VK), Wo K ow F H → Rp K F x a → Post K ow F d Q → r x H Q) := ⟨fun h => h.run⟩
structure RC (K : PySem.W.Frag) (ow : Ow) (r : List V → Hp → VK → Prop) (as : List D) (d : D) : Prop where
  run : ∀ (F H : Hp) (xs : List V) (Q : VK), Wo K ow F H → Rps K F xs as → Post K ow F d Q → r xs H Q
instance (K : PySem.W.Frag) (ow : Ow) (r : List V → Hp → VK → Prop) (as : List D) (d : D) : CoeFun (RC K ow r as d) (fun _ => ∀ (F H : Hp) (xs : List V) (Q : VK), Wo K ow F H → Rps K F xs as → Post K ow F d Q → r xs H Q) := ⟨fun h => h.run⟩
theorem Post.here {K : PySem.W.Frag} {ow : Ow} {F H : Hp} {d : D} {Q : VK} {v : V} (p : Post K ow F d Q) (w : Wo K ow F H) (r : Rp K F v d) : Q v H := p F H v (Evl.Ex.refl F) w r
/-- a new thing that is frozen at once -/
theorem Post.new {K : PySem.W.Frag} {ow : Ow} {F H : Hp} {d : D} {Q : VK} {p : Addr} {o : HO} (k : Post K ow F d Q) (w : Wo K ow F H) (hp : H p = none) (r : Rp K (upd F p o) (.ref p) d) : Q (.ref p) (upd H p o) := k _ _ _ (w.exnew hp) (w.new hp) r

section
variable {X : Cx} {env : List (Option D)} {ow : Ow} {a b c e : Expr} {es : List Expr} {d d1 d2 d3 : D} {ds : List D} {pos : Pos}

/-! ### expressions -/
theorem ve_is (h : Ve X e env ow d) (q : d = d1) : Ve X e env ow d1 := q ▸ h
theorem ve_var {i : Nat} {x : Str} (he : env[i]? = some (some d)) (hN : X.N[i]? = some x) (hv : Vis X.env.scope x) (hd : (x == ("__debug__" : Str)) = false := by decide) (hc : (x == ("__classdict__" : Str)) = false := by decide) : Ve X (.Name x pos) env ow d := .mk fun σ F H Q s w k => by
  obtain ⟨v, h1, h2⟩ := s.at_ i d he
  exact wpe (pe_var hN hv hd hc) ⟨v, h1, k.here w h2⟩
theorem ve_int {i : Int} {j : Nat} : Ve X (.Constant (.int i) j pos) env ow (.int i) := .mk fun σ F H Q s w k => wpe pe_int (k.here w (.int i))
theorem ve_bl {b : Bool} {j : Nat} : Ve X (.Constant (.bool b) j pos) env ow (.bl b) := .mk fun σ F H Q s w k => wpe pe_bl (k.here w (.bl b))
theorem ve_non {j : Nat} : Ve X (.Constant .none j pos) env ow .non := .mk fun σ F H Q s w k => wpe pe_non (k.here w .non)
theorem ve_str {x : Str} {j : Nat} : Ve X (.Constant (.str x) j pos) env ow (.str x) := .mk fun σ F H Q s w k => wpe pe_str (k.here w (.str x))
/-- a constant of the module -/
theorem ve_glob {x : Str} {v : V} {u : Value} (hg : Gl X x) (hm : X.mg x = some u) (r : RelV v u) (hd : ∀ F, Rp X.K F v d) (hx : (x == ("__debug__" : Str)) = false := by decide) : Ve X (.Name x pos) env ow d := .mk fun σ F H Q s w k => wpe (pe_glob hg hm r hx) (k.here w (hd F))
theorem ve_op {op : Operator} {r : R2} (ho : OpR X (binaryOp op) r) (ha : Ve X a env ow d1) (hb : Ve X b env ow d2) (hr : RD X.K ow r d1 d2 d) : Ve X (.BinOp a op b pos) env ow d := .mk fun σ F H Q s w k =>
  wpe (pe_op ho pe_can pe_can) (ha σ F H _ s w fun F1 H1 x e1 w1 r1 => hb σ F1 H1 _ (s.mono e1) w1 fun F2 H2 y e2 w2 r2 => hr F2 H2 x y Q w2 (r1.mono e2) r2 (k.ex (e1.trans e2)))
theorem ve_un {op : UnaryOp} {r : V → Hp → VK → Prop} (ho : UnR X (unaryOp op) r) (ha : Ve X a env ow d1) (hr : RU X.K ow r d1 d) : Ve X (.UnaryOp op a pos) env ow d := .mk fun σ F H Q s w k =>
  wpe (pe_un ho pe_can) (ha σ F H _ s w fun F1 H1 x e1 w1 r1 => hr F1 H1 x Q w1 r1 (k.ex e1))
theorem ve_cmp {op : CmpOp} {r : R2} (ho : OpR X (compareOp op) r) (hm : behindInMarks op b = false) (ha : Ve X a env ow d1) (hb : Ve X b env ow d2) (hr : RD X.K ow r d1 d2 d) : Ve X (.Compare a [op] [b] pos) env ow d := .mk fun σ F H Q s w k =>
  wpe (pe_cmpR ho pe_can pe_can hm) (ha σ F H _ s w fun F1 H1 x e1 w1 r1 => hb σ F1 H1 _ (s.mono e1) w1 fun F2 H2 y e2 w2 r2 => hr F2 H2 x y Q w2 (r1.mono e2) r2 (k.ex (e1.trans e2)))
theorem ve_if {t : Bool} (hc : Vt X c env ow t) (h1 : t = true → Ve X a env ow d) (h2 : t = false → Ve X b env ow d) : Ve X (.IfExp c a b pos) env ow d := .mk fun σ F H Q s w k =>
  wpe (pe_ifExp pt_can pe_can pe_can) (hc σ F H _ s w fun F1 H1 e1 w1 => by
    cases t with
    | true =>
      show (if true = true then WpE X a σ H1 Q else WpE X b σ H1 Q)
      rw [if_pos rfl]
      exact h1 rfl σ F1 H1 Q (s.mono e1) w1 (k.ex e1)
    | false =>
      show (if false = true then WpE X a σ H1 Q else WpE X b σ H1 Q)
      rw [if_neg Bool.false_ne_true]
      exact h2 rfl σ F1 H1 Q (s.mono e1) w1 (k.ex e1))
/-! arguments -/
theorem va_nil : Va X [] env ow [] := .mk fun σ F H Q s w k => wpa pa_nil (k F H [] (Evl.Ex.refl F) w .nil)
theorem va_cons (h : Ve X e env ow d) (hs : Va X es env ow ds) (hst : starEach (e :: es) X.env = (false, eval e X.env) :: starEach es X.env := by rfl) : Va X (e :: es) env ow (d :: ds) := .mk fun σ F H Q s w k =>
  wpa (pa_cons pe_can pa_can hst) (h σ F H _ s w fun F1 H1 x e1 w1 r1 => hs σ F1 H1 _ (s.mono e1) w1 fun F2 H2 xs e2 w2 r2 => k F2 H2 _ (e1.trans e2) w2 (.cons (r1.mono e2) r2))
theorem ve_lst (h : Va X es env ow ds) (hl : ds.length ≤ 100000) : Ve X (.List es pos) env ow (.lst ds) := .mk fun σ F H Q s w k =>
  wpe (pe_lst pa_can) (h σ F H _ s w fun F1 H1 xs e1 w1 r1 => ⟨Evl.sz_of (by rw [r1.length]; exact hl), fun p hp => (k.ex e1).new w1 hp (.lst upd_same (r1.mono (w1.exnew hp)))⟩)
theorem ve_tup {k0 : Nat} (h : Va X es env ow ds) (hl : ds.length ≤ 100000) : Ve X (.Tuple es k0 pos) env ow (.tup ds) := .mk fun σ F H Q s w k =>
  wpe (pe_tup pa_can) (h σ F H _ s w fun F1 H1 xs e1 w1 r1 => ⟨Evl.sz_of (by rw [r1.length]; exact hl), fun p hp => (k.ex e1).new w1 hp (.tup (SqT.of upd_same) (r1.mono (w1.exnew hp)))⟩)
theorem ve_cb {r : List V → Hp → VK → Prop} {id : String} {x : Str} {p : Pos} (hc : CallR X (.builtin id) r) (hg : Gl X x) (hm : X.mg x = none) (hv : bootBuiltins x = some (.builtin id)) (ha : Va X (e :: es) env ow ds) (hr : RC X.K ow r ds d) (hn : x ≠ "__name__" := by decide) (hdb : (x == ("__debug__" : Str)) = false := by decide)
    (he : starEach (e :: es) X.env = (false, eval e X.env) :: starEach es X.env := by rfl) (hpl : (backTo pos (starEach es X.env)).any (·.1) = false := by rfl) : Ve X (.Call (.Name x p) (e :: es) [] pos) env ow d := .mk fun σ F H Q s w k =>
  wpe (pe_callB hc hg hm hv pa_can hn hdb he hpl) (ha σ F H _ s w fun F1 H1 xs e1 w1 r1 => hr F1 H1 xs Q w1 r1 (k.ex e1))
theorem ve_ct {r : List V → Hp → VK → Prop} {id : String} {x : Str} {p : Pos} (hc : CallR X (.type id) r) (hg : Gl X x) (hm : X.mg x = none) (hv : bootBuiltins x = some (.type id)) (ha : Va X (e :: es) env ow ds) (hr : RC X.K ow r ds d) (hn : x ≠ "__name__" := by decide) (hdb : (x == ("__debug__" : Str)) = false := by decide)
    (he : starEach (e :: es) X.env = (false, eval e X.env) :: starEach es X.env := by rfl) (hpl : (backTo pos (starEach es X.env)).any (·.1) = false := by rfl) : Ve X (.Call (.Name x p) (e :: es) [] pos) env ow d := .mk fun σ F H Q s w k =>
  wpe (pe_callTy hc hg hm hv pa_can hn hdb he hpl) (ha σ F H _ s w fun F1 H1 xs e1 w1 r1 => hr F1 H1 xs Q w1 r1 (k.ex e1))
theorem ve_ix {r : R2} (hr0 : IxR X r) (hs : PlainIx b) (ha : Ve X a env ow d1) (hb : Ve X b env ow d2) (hr : RD X.K ow r d1 d2 d) : Ve X (.Subscript a b pos) env ow d := .mk fun σ F H Q s w k =>
  wpe (pe_ix hr0 pe_can pe_can hs) (ha σ F H _ s w fun F1 H1 x e1 w1 r1 => hb σ F1 H1 _ (s.mono e1) w1 fun F2 H2 y e2 w2 r2 => hr F2 H2 x y Q w2 (r1.mono e2) r2 (k.ex (e1.trans e2)))
/-! tests -/
theorem vt_val {t : Bool} (h : Ve X e env ow (.bl t)) (he : ∀ whole, isTrue e X.env whole = (do let v ← whole; standAt e.pos; holding [v] (truthy v)) := by intro _; rfl) : Vt X e env ow t := .mk fun σ F H Q s w k =>
  wpt (pt_val pe_can he) (h σ F H _ s w fun F1 H1 x e1 w1 r1 => by
    cases r1
    exact ⟨t, rfl, k F1 H1 e1 w1⟩)
theorem vt_cmp {op : CmpOp} {r : R2} {t : Bool} (ho : OpR X (compareOp op) r) (hm : behindInMarks op b = false) (ha : Ve X a env ow d1) (hb : Ve X b env ow d2) (hr : RD X.K ow r d1 d2 (.bl t)) : Vt X (.Compare a [op] [b] pos) env ow t := .mk fun σ F H Q s w k =>
  wpt (pt_cmpR ho pe_can pe_can hm) (ha σ F H _ s w fun F1 H1 x e1 w1 r1 => hb σ F1 H1 _ (s.mono e1) w1 fun F2 H2 y e2 w2 r2 => hr F2 H2 x y _ w2 (r1.mono e2) r2 fun F3 H3 v e3 w3 r3 => by
    cases r3
    exact ⟨t, rfl, k F3 H3 ((e1.trans e2).trans e3) w3⟩)
theorem vt_not {t : Bool} (h : Vt X e env ow t) : Vt X (.UnaryOp .Not e pos) env ow (!t) := .mk fun σ F H Q s w k =>
  wpt (pt_not pt_can) (h σ F H _ s w fun F1 H1 e1 w1 => k F1 H1 e1 w1)
theorem vt_is {t u : Bool} (h : Vt X e env ow t) (q : t = u) : Vt X e env ow u := q ▸ h
/-- a and b and .., a or b or ..: the test's own form -/
def Vw (X : Cx) (e : Expr) (env : List (Option D)) (ow : Ow) (b : Bool) : Prop := ∃ t, PW X e t ∧ ∀ (σ : L2.St) (F H : Hp) (Q : Bool → Hp → Prop), Sl X.K F σ env → Wo X.K ow F H → PostB X.K ow F b Q → t σ H Q
theorem vt_w {t : Bool} (h : Vw X e env ow t) : Vt X e env ow t := .mk fun σ F H Q s w k => by
  obtain ⟨u, p, q⟩ := h
  exact wpt p.pt (q σ F H Q s w k)
theorem vw_and1 {t : Bool} (h : Vt X a env ow t) : Vw X (.BoolOp .And [a] pos) env ow t := ⟨_, pw_and1 pt_can, h⟩
theorem vw_or1 {t : Bool} (h : Vt X a env ow t) : Vw X (.BoolOp .Or [a] pos) env ow t := ⟨_, pw_or1 pt_can, h⟩
theorem vw_and {t u : Bool} (h : Vt X a env ow t) (h2 : t = true → Vw X (.BoolOp .And (b :: es) pos) env ow u) (pw : ∃ tt, PW X (.BoolOp .And (b :: es) pos) tt) : Vw X (.BoolOp .And (a :: b :: es) pos) env ow (t && u) := by
  cases t with
  | true =>
    obtain ⟨tt, p, q⟩ := h2 rfl
    refine ⟨_, pw_and pt_can p, fun σ F H Q s w k => h σ F H _ s w fun F1 H1 e1 w1 => ?_⟩
    show (if true = true then tt σ H1 Q else Q false H1)
    rw [if_pos rfl]
    exact q σ F1 H1 Q (s.mono e1) w1 fun F2 H2 e2 w2 => k F2 H2 (e1.trans e2) w2
  | false =>
    obtain ⟨tt, p⟩ := pw
    refine ⟨_, pw_and pt_can p, fun σ F H Q s w k => h σ F H _ s w fun F1 H1 e1 w1 => ?_⟩
    show (if false = true then tt σ H1 Q else Q false H1)
    rw [if_neg Bool.false_ne_true]
    exact k F1 H1 e1 w1
theorem vw_or {t u : Bool} (h : Vt X a env ow t) (h2 : t = false → Vw X (.BoolOp .Or (b :: es) pos) env ow u) (pw : ∃ tt, PW X (.BoolOp .Or (b :: es) pos) tt) : Vw X (.BoolOp .Or (a :: b :: es) pos) env ow (t || u) := by
  cases t with
  | false =>
    obtain ⟨tt, p, q⟩ := h2 rfl
    refine ⟨_, pw_or pt_can p, fun σ F H Q s w k => h σ F H _ s w fun F1 H1 e1 w1 => ?_⟩
    show (if false = true then Q true H1 else tt σ H1 Q)
    rw [if_neg Bool.false_ne_true]
    exact q σ F1 H1 Q (s.mono e1) w1 fun F2 H2 e2 w2 => k F2 H2 (e1.trans e2) w2
  | true =>
    obtain ⟨tt, p⟩ := pw
    refine ⟨_, pw_or pt_can p, fun σ F H Q s w k => h σ F H _ s w fun F1 H1 e1 w1 => ?_⟩
    show (if true = true then Q true H1 else tt σ H1 Q)
    rw [if_pos rfl]
    exact k F1 H1 e1 w1
theorem pw_all_and : ∀ (es : List Expr) (a : Expr), ∃ tt, PW X (.BoolOp .And (a :: es) pos) tt
  | [], a => ⟨_, pw_and1 pt_can⟩
  | b :: es, a => by
    obtain ⟨tt, p⟩ := pw_all_and es b
    exact ⟨_, pw_and pt_can p⟩
theorem pw_all_or : ∀ (es : List Expr) (a : Expr), ∃ tt, PW X (.BoolOp .Or (a :: es) pos) tt
  | [], a => ⟨_, pw_or1 pt_can⟩
  | b :: es, a => by
    obtain ⟨tt, p⟩ := pw_all_or es b
    exact ⟨_, pw_or pt_can p⟩
/-! the same as values, the parts truths -/
theorem ve_and1 (h : Ve X a env ow d) : Ve X (.BoolOp .And [a] pos) env ow d := .mk fun σ F H Q s w k => wpe (pe_one pe_can) (h σ F H Q s w k)
theorem ve_or1 (h : Ve X a env ow d) : Ve X (.BoolOp .Or [a] pos) env ow d := .mk fun σ F H Q s w k => wpe (pe_one pe_can) (h σ F H Q s w k)
theorem ve_and {t u : Bool} (h : Ve X a env ow (.bl t)) (h2 : t = true → Ve X (.BoolOp .And (b :: es) pos) env ow (.bl u)) : Ve X (.BoolOp .And (a :: b :: es) pos) env ow (.bl (t && u)) := .mk fun σ F H Q s w k =>
  wpe (pe_and pe_can pe_can) (h σ F H _ s w fun F1 H1 x e1 w1 r1 => by
    cases r1
    refine ⟨t, rfl, ?_⟩
    cases t with
    | true =>
      rw [if_pos rfl]
      exact h2 rfl σ F1 H1 Q (s.mono e1) w1 (k.ex e1)
    | false =>
      rw [if_neg Bool.false_ne_true]
      exact (k.ex e1).here w1 (.bl false))
theorem ve_or {t u : Bool} (h : Ve X a env ow (.bl t)) (h2 : t = false → Ve X (.BoolOp .Or (b :: es) pos) env ow (.bl u)) : Ve X (.BoolOp .Or (a :: b :: es) pos) env ow (.bl (t || u)) := .mk fun σ F H Q s w k =>
  wpe (pe_or pe_can pe_can) (h σ F H _ s w fun F1 H1 x e1 w1 r1 => by
    cases r1
    refine ⟨t, rfl, ?_⟩
    cases t with
    | false =>
      rw [if_neg Bool.false_ne_true]
      exact h2 rfl σ F1 H1 Q (s.mono e1) w1 (k.ex e1)
    | true =>
      rw [if_pos rfl]
      exact (k.ex e1).here w1 (.bl true))
theorem ve_not {t : Bool} (h : Ve X a env ow (.bl t)) : Ve X (.UnaryOp .Not a pos) env ow (.bl (!t)) := .mk fun σ F H Q s w k =>
  wpe (pe_not pe_can) (h σ F H _ s w fun F1 H1 x e1 w1 r1 => by
    cases r1
    exact ⟨t, rfl, (k.ex e1).here w1 (.bl _)⟩)
end

/-! ### the operations over data -/
section
variable {K : PySem.W.Frag} {ow : Ow}
theorem rd_I {g : Int → Int → V} {f : Int → Int → D} {i j : Int} (h : ∀ F, Rp K F (g i j) (f i j)) : RD K ow (rI0 g) (.int i) (.int j) (f i j) := .mk fun F H x y Q w r1 r2 k => by
  cases r1
  cases r2
  exact ⟨i, j, rfl, rfl, k.here w (h F)⟩
theorem rd_IC {C : Int → Int → Prop} {g : Int → Int → V} {f : Int → Int → D} {i j : Int} (hc : C i j) (h : ∀ F, Rp K F (g i j) (f i j)) : RD K ow (rI C g) (.int i) (.int j) (f i j) := .mk fun F H x y Q w r1 r2 k => by
  cases r1
  cases r2
  exact ⟨i, j, rfl, rfl, hc, k.here w (h F)⟩
theorem rd_add {i j : Int} : RD K ow (rI0 fun i j => .int (i + j)) (.int i) (.int j) (.int (i + j)) := rd_I (f := fun i j => .int (i + j)) fun _ => .int _
theorem rd_sub {i j : Int} : RD K ow (rI0 fun i j => .int (i - j)) (.int i) (.int j) (.int (i - j)) := rd_I (f := fun i j => .int (i - j)) fun _ => .int _
theorem rd_mulL {i j : Int} (h : -(2 ^ 64) < i ∧ i < 2 ^ 64) : RD K ow (rI CMul fun i j => .int (i * j)) (.int i) (.int j) (.int (i * j)) := rd_IC (f := fun i j => .int (i * j)) (.inl h) fun _ => .int _
theorem rd_mulR {i j : Int} (h : -(2 ^ 64) < j ∧ j < 2 ^ 64) : RD K ow (rI CMul fun i j => .int (i * j)) (.int i) (.int j) (.int (i * j)) := rd_IC (f := fun i j => .int (i * j)) (.inr h) fun _ => .int _
theorem rd_div {i j : Int} (h : CDiv i j) : RD K ow (rI CDiv fun i j => .int (i / j)) (.int i) (.int j) (.int (i / j)) := rd_IC (f := fun i j => .int (i / j)) h fun _ => .int _
theorem rd_mod {i j : Int} (h : 0 < j) : RD K ow (rI (fun _ j => 0 < j) fun i j => .int (i % j)) (.int i) (.int j) (.int (i % j)) := rd_IC (f := fun i j => .int (i % j)) h fun _ => .int _
theorem rd_pow {i j : Int} (h : CPow i j) : RD K ow (rI CPow fun i j => .int (i ^ j.toNat)) (.int i) (.int j) (.int (i ^ j.toNat)) := rd_IC (f := fun i j => .int (i ^ j.toNat)) h fun _ => .int _
theorem rd_lt {i j : Int} : RD K ow (rI0 fun i j => .bl (decide (i < j))) (.int i) (.int j) (.bl (decide (i < j))) := rd_I (f := fun i j => .bl (decide (i < j))) fun _ => .bl _
theorem rd_le {i j : Int} : RD K ow (rI0 fun i j => .bl (decide (i ≤ j))) (.int i) (.int j) (.bl (decide (i ≤ j))) := rd_I (f := fun i j => .bl (decide (i ≤ j))) fun _ => .bl _
theorem rd_gt {i j : Int} : RD K ow (rI0 fun i j => .bl (decide (j < i))) (.int i) (.int j) (.bl (decide (j < i))) := rd_I (f := fun i j => .bl (decide (j < i))) fun _ => .bl _
theorem rd_ge {i j : Int} : RD K ow (rI0 fun i j => .bl (decide (j ≤ i))) (.int i) (.int j) (.bl (decide (j ≤ i))) := rd_I (f := fun i j => .bl (decide (j ≤ i))) fun _ => .bl _
theorem rd_eqI {i j : Int} : RD K ow rEq (.int i) (.int j) (.bl (decide (i = j))) := .mk fun F H x y Q w r1 r2 k => by
  cases r1
  cases r2
  exact ⟨rfl, by have z := k.here w (.bl (decide (i = j))); simpa using z⟩
theorem rd_neI {i j : Int} : RD K ow rNe (.int i) (.int j) (.bl (!decide (i = j))) := .mk fun F H x y Q w r1 r2 k => by
  cases r1
  cases r2
  exact ⟨rfl, by have z := k.here w (.bl (!decide (i = j))); simpa using z⟩
theorem rd_eqS {i j : Str} : RD K ow rEq (.str i) (.str j) (.bl (decide (i = j))) := .mk fun F H x y Q w r1 r2 k => by
  cases r1
  cases r2
  exact ⟨rfl, by have z := k.here w (.bl (decide (i = j))); simpa using z⟩
theorem rd_neS {i j : Str} : RD K ow rNe (.str i) (.str j) (.bl (!decide (i = j))) := .mk fun F H x y Q w r1 r2 k => by
  cases r1
  cases r2
  exact ⟨rfl, by have z := k.here w (.bl (!decide (i = j))); simpa using z⟩
theorem rd_cat {l m : List D} (h : l.length + m.length ≤ 100000) : RD K ow rCat (.lst l) (.lst m) (.lst (l ++ m)) := .mk fun F H x y Q w r1 r2 k => by
  cases r1 with
  | lst h1 s1 =>
    cases r2 with
    | lst h2 s2 => exact ⟨_, _, _, _, rfl, rfl, w.ex _ _ h1, w.ex _ _ h2, Evl.sz_of (by rw [s1.length, s2.length]; exact h), fun p hp => k.new w hp (.lst upd_same ((s1.append s2).mono (w.exnew hp)))⟩
def repD (l : List D) : Nat → List D
  | 0 => []
  | n + 1 => l ++ repD l n
end
end Vd

set_option Elab.async false
set_option linter.all false
set_option maxRecDepth 100000
set_option maxHeartbeats 4000000
namespace Vd
open PySem L2
/-! ### what is walked -/
/-- J yields the data ds, one by one, over what F1 freezes -/
def Src (K : PySem.W.Frag) (J : It) (F1 : Hp) (ds : List D) : Prop := ∀ (F H : Hp) (ow : Ow) (i : Nat), Ex F1 F → Wo K ow F H → (ds.length ≤ i → J.stop i H) ∧ ∀ d, ds[i]? = some d → J.go i H ∧ ∀ x H', J.yld i H x H' → ∃ F', Ex F F' ∧ Wo K ow F' H' ∧ Rp K F' x d
structure Vi (X : Cx) (tg it : Expr) (env : List (Option D)) (ow : Ow) (ds : List D) : Prop where
  ex : ∃ wi, PI X tg it wi ∧ ∀ (σ : L2.St) (F H : Hp) (R : It → Hp → Prop), Sl X.K F σ env → Wo X.K ow F H → (∀ J F1 H1, Ex F F1 → Wo X.K ow F1 H1 → Src X.K J F1 ds → R J H1) → wi σ H R
section
variable {X : Cx} {env : List (Option D)} {ow : Ow} {a b c e tg it : Expr} {es : List Expr} {d d1 d2 d3 : D} {ds : List D} {pos : Pos}
theorem src_list {K : PySem.W.Frag} {F1 : Hp} {a : Addr} {xs : List V} (h : F1 a = some (.lst xs)) (r : Rps K F1 xs ds) : Src K (Itl K a) F1 ds := fun F H ow i e w => by
  have hq : SqL K H a xs := SqL.of (w.ex _ _ (e _ _ h))
  refine ⟨fun hl => ⟨xs, hq, by rw [r.length]; exact hl⟩, fun d hd => ?_⟩
  obtain ⟨y, h1, h2⟩ := r.get hd
  refine ⟨⟨xs, y, hq, h1⟩, fun x H' hy => ?_⟩
  obtain ⟨rfl, hy⟩ := hy
  have z := hy xs hq
  rw [h1] at z
  cases z
  exact ⟨F, Evl.Ex.refl F, w, h2.mono e⟩
theorem src_tup {K : PySem.W.Frag} {F1 : Hp} {a : Addr} {xs : List V} (h : SqT K F1 a xs) (r : Rps K F1 xs ds) : Src K (Itt K a) F1 ds := fun F H ow i e w => by
  have hq : SqT K H a xs := Evl.ex_t w.ex (Evl.ex_t e h)
  refine ⟨fun hl => ⟨xs, hq, by rw [r.length]; exact hl⟩, fun d hd => ?_⟩
  obtain ⟨y, h1, h2⟩ := r.get hd
  refine ⟨⟨xs, y, hq, h1⟩, fun x H' hy => ?_⟩
  obtain ⟨rfl, hy⟩ := hy
  have z := hy xs hq
  rw [h1] at z
  cases z
  exact ⟨F, Evl.Ex.refl F, w, h2.mono e⟩
theorem vi_list (h : Ve X it env ow (.lst ds)) : Vi X tg it env ow ds := ⟨_, pi_list pe_can, fun σ F H R s w k => h σ F H _ s w fun F1 H1 v e1 w1 r1 => by
  cases r1 with
  | lst h1 s1 => exact ⟨_, rfl, ⟨_, SqL.of (w1.ex _ _ h1)⟩, k _ F1 H1 e1 w1 (src_list h1 s1)⟩⟩
theorem vi_tup (h : Ve X it env ow (.tup ds)) : Vi X tg it env ow ds := ⟨_, pi_tup pe_can, fun σ F H R s w k => h σ F H _ s w fun F1 H1 v e1 w1 r1 => by
  cases r1 with
  | tup h1 s1 => exact ⟨_, rfl, ⟨_, Evl.ex_t w1.ex h1⟩, k _ F1 H1 e1 w1 (src_tup h1 s1)⟩⟩
def rangeD (lo : Int) (n : Nat) : List D := (List.range n).map fun i => .int (lo + (i : Nat))
theorem rangeD_len (lo : Int) (n : Nat) : (rangeD lo n).length = n := by simp [rangeD]
theorem rangeD_get {lo : Int} {n i : Nat} {d : D} (h : (rangeD lo n)[i]? = some d) : i < n ∧ d = .int (lo + (i : Nat)) := by
  unfold rangeD at h
  rw [List.getElem?_map] at h
  by_cases q : i < n
  · rw [List.getElem?_range q] at h
    cases h
    exact ⟨q, rfl⟩
  · rw [List.getElem?_eq_none (by simpa using q)] at h
    cases h
theorem src_range {K : PySem.W.Frag} {F1 : Hp} {lo : Int} {n : Nat} : Src K (Itr lo n) F1 (rangeD lo n) := fun F H ow i e w => by
  refine ⟨fun hl => by rw [rangeD_len] at hl; exact hl, fun d hd => ?_⟩
  obtain ⟨hi, rfl⟩ := rangeD_get hd
  refine ⟨hi, fun x H' hy => ?_⟩
  obtain ⟨rfl, rfl⟩ := hy
  exact ⟨F, Evl.Ex.refl F, w, .int _⟩
theorem vi_range1 {p : Pos} {n : Int} (hg : Gl X "range") (hm : X.mg "range" = none) (h : Ve X a env ow (.int n)) (hn : -(2 ^ 62) ≤ n ∧ n < 2 ^ 62) (hs : starEach [a] X.env = [(false, eval a X.env)] := by rfl) : Vi X tg (.Call (.Name "range" p) [a] [] pos) env ow (rangeD 0 n.toNat) :=
  ⟨_, pi_range1 hg hm (pa_can) hs, fun σ F H R s w k => va_cons h va_nil hs σ F H _ s w fun F1 H1 vs e1 w1 r1 => by
    cases r1 with
    | cons r2 r3 =>
      cases r2
      cases r3
      exact ⟨n, rfl, hn.1, hn.2, k _ F1 H1 e1 w1 src_range⟩⟩
theorem vi_range2 {p : Pos} {m n : Int} (hg : Gl X "range") (hm : X.mg "range" = none) (h : Ve X a env ow (.int m)) (h2 : Ve X b env ow (.int n)) (hn : -(2 ^ 62) ≤ m ∧ m < 2 ^ 62 ∧ -(2 ^ 62) ≤ n ∧ n < 2 ^ 62) (hs : starEach [a, b] X.env = [(false, eval a X.env), (false, eval b X.env)] := by rfl)
    (hs2 : starEach [b] X.env = [(false, eval b X.env)] := by rfl) : Vi X tg (.Call (.Name "range" p) [a, b] [] pos) env ow (rangeD m (n - m).toNat) :=
  ⟨_, pi_range2 hg hm (pa_can) hs hs2, fun σ F H R s w k => va_cons h (va_cons h2 va_nil hs2) (by rw [hs, hs2]) σ F H _ s w fun F1 H1 vs e1 w1 r1 => by
    cases r1 with
    | cons r2 r3 =>
      cases r2
      cases r3 with
      | cons r4 r5 =>
        cases r4
        cases r5
        exact ⟨m, n, rfl, hn, k _ F1 H1 e1 w1 src_range⟩⟩
def enumD : Nat → List D → List D
  | _, [] => []
  | n, d :: ds => .tup [.int (n : Nat), d] :: enumD (n + 1) ds
theorem enumD_len : ∀ (n : Nat) (ds : List D), (enumD n ds).length = ds.length
  | _, [] => rfl
  | n, d :: ds => by simp [enumD, enumD_len (n + 1) ds]
theorem enumD_get : ∀ {n i : Nat} {ds : List D} {x : D}, (enumD n ds)[i]? = some x → ∃ d, ds[i]? = some d ∧ x = .tup [.int ((n + i : Nat)), d]
  | _, _, [], _, h => by simp [enumD] at h
  | n, 0, d :: ds, x, h => by
    simp [enumD] at h
    exact ⟨d, rfl, by rw [← h]; rfl⟩
  | n, i + 1, d :: ds, x, h => by
    simp only [enumD, List.getElem?_cons_succ] at h
    obtain ⟨y, h1, h2⟩ := enumD_get h
    refine ⟨y, by simpa using h1, ?_⟩
    rw [h2]
    have z : n + 1 + i = n + (i + 1) := by omega
    rw [z]
theorem src_enum {K : PySem.W.Frag} {F1 : Hp} {a : Addr} {xs : List V} (h : F1 a = some (.lst xs)) (r : Rps K F1 xs ds) : Src K (Ite K a) F1 (enumD 0 ds) := fun F H ow i e w => by
  have hq : SqL K H a xs := SqL.of (w.ex _ _ (e _ _ h))
  refine ⟨fun hl => ⟨xs, hq, by rw [enumD_len] at hl; rw [r.length]; exact hl⟩, fun d hd => ?_⟩
  obtain ⟨d', hd', rfl⟩ := enumD_get hd
  obtain ⟨y, h1, h2⟩ := r.get hd'
  refine ⟨⟨xs, y, hq, h1⟩, fun v H' hy => ?_⟩
  obtain ⟨T, x, rfl, hT, rfl, hy⟩ := hy
  have z := hy xs hq
  rw [h1] at z
  cases z
  refine ⟨_, w.exnew hT, w.new hT, .tup (SqT.of upd_same) (.cons ?_ (.cons ((h2.mono e).mono (w.exnew hT)) .nil))⟩
  rw [Nat.zero_add]
  exact .int _
theorem vi_enum {p tpos : Pos} {elts : List Expr} {kk : Nat} (hg : Gl X "enumerate") (hm : X.mg "enumerate" = none) (h : Ve X a env ow (.lst ds)) (hs : starEach [a] X.env = [(false, eval a X.env)] := by rfl) : Vi X (.Tuple elts kk tpos) (.Call (.Name "enumerate" p) [a] [] pos) env ow (enumD 0 ds) :=
  ⟨_, pi_enum hg hm pa_can hs, fun σ F H R s w k => va_cons h va_nil hs σ F H _ s w fun F1 H1 vs e1 w1 r1 => by
    cases r1 with
    | cons r2 r3 =>
      cases r3
      cases r2 with
      | lst h1 s1 => exact ⟨_, _, rfl, SqL.of (w1.ex _ _ h1), k _ F1 H1 e1 w1 (src_enum h1 s1)⟩⟩
end

/-! ### targets -/
def Gd (K : PySem.W.Frag) (ow : Ow) (g : TG) (d : D) (f : List (Option D) → List (Option D)) : Prop := ∀ (env : List (Option D)) (σ : L2.St) (F H : Hp) (x : V) (Q : L2.St → Hp → Prop), Sl K F σ env → Wo K ow F H → Rp K F x d → (∀ σ2, Sl K F σ2 (f env) → Q σ2 H) → g x σ H Q
theorem gd_name {K : PySem.W.Frag} {ow : Ow} {d : D} (i : Nat) : Gd K ow (gName i) d fun env => env.set i (some d) := fun env σ F H x Q s w r k => k _ (s.set r i)
theorem gd_two {K : PySem.W.Frag} {ow : Ow} {d1 d2 : D} (i j : Nat) : Gd K ow (gTup K 2 (gCons (gName i) (gCons (gName j) gNil))) (.tup [d1, d2]) fun env => (env.set i (some d1)).set j (some d2) := fun env σ F H x Q s w r k => by
  cases r with
  | tup h1 s1 =>
    cases s1 with
    | cons r1 s2 =>
      cases s2 with
      | cons r2 s3 =>
        cases s3
        exact ⟨_, _, rfl, Evl.ex_t w.ex h1, rfl, _, _, rfl, _, _, rfl, rfl, k _ ((s.set r1 i).set r2 j)⟩
theorem gd_three {K : PySem.W.Frag} {ow : Ow} {d1 d2 d3 : D} (i j l : Nat) : Gd K ow (gTup K 3 (gCons (gName i) (gCons (gName j) (gCons (gName l) gNil)))) (.tup [d1, d2, d3]) fun env => ((env.set i (some d1)).set j (some d2)).set l (some d3) := fun env σ F H x Q s w r k => by
  cases r with
  | tup h1 s1 =>
    cases s1 with
    | cons r1 s2 =>
      cases s2 with
      | cons r2 s3 =>
        cases s3 with
        | cons r3 s4 =>
          cases s4
          exact ⟨_, _, rfl, Evl.ex_t w.ex h1, rfl, _, _, rfl, _, _, rfl, _, _, rfl, rfl, k _ (((s.set r1 i).set r2 j).set r3 l)⟩

/-! ### blocks -/
section
variable {X : Cx} {B : Hp} {env : List (Option D)} {ow : Ow} {a b c e tg it : Expr} {es : List Expr} {d d1 d2 d3 : D} {ds : List D} {pos : Pos} {Dn : Ends} {rest s1 s2 : List Stmt}
theorem rn_base {B' : Hp} (e : Ex B B') (h : Rn X B rest Dn env ow) : Rn X B' rest Dn env ow := .mk fun σ F H eB s w => h σ F H (e.trans eB) s w
/-- the end of an inner block -/
theorem rn_end (h : ∀ (σ : L2.St) (F H : Hp), Ex B F → Sl X.K F σ env → Wo X.K ow F H → Dn.nx σ H) : Rn X B [] Dn env ow := .mk fun σ F H eB s w => wps pss_nil (h σ F H eB s w)
def Then (X : Cx) (rest : List Stmt) (Dn : Ends) : Ends := { Dn with nx := WpS X rest Dn }
theorem rn_go (h : Rn X B rest Dn env ow) : Rn X B [] (Then X rest Dn) env ow := rn_end fun σ F H eB s w => h σ F H eB s w
theorem rn_one {st : Stmt} (p : ∃ t, PS X st t ∧ ∀ (σ : L2.St) (F H : Hp), Ex B F → Sl X.K F σ env → Wo X.K ow F H → t { Dn with nx := WpS X rest Dn } σ H) : Rn X B (st :: rest) Dn env ow := .mk fun σ F H eB s w => by
  obtain ⟨t, h, q⟩ := p
  exact wps (pss_cons h pss_can) (q σ F H eB s w)
theorem rn_set {x : Str} {p : Pos} {i : Nat} (hN : X.N.Nodup) (hi : X.N[i]? = some x) (hx : Loc X.env.scope x) (h : Ve X e env ow d) (k : ∀ B', Ex B B' → Rn X B' rest Dn (env.set i (some d)) ow) (hs : swapsWith e (some (.Name x p)) pos.line X.env = pure false := by rfl) (hf : X.fn x = true ∨ X.env.scope.names.lookup x = some .local := by first | exact .inl rfl | exact .inr rfl | assumption) :
    Rn X B (.Assign [.Name x p] e pos :: rest) Dn env ow := rn_one ⟨_, ps_set hN hi hx pe_can hs hf, fun σ F H eB s w => h σ F H _ s w fun F1 H1 v e1 w1 r1 => k F1 (eB.trans e1) _ F1 H1 (Evl.Ex.refl F1) ((s.mono e1).set r1 i) w1⟩
/-- the assignment of what changes the owned -/
theorem rn_setM {x : Str} {p : Pos} {i : Nat} {P : D → Ow → Prop} (hN : X.N.Nodup) (hi : X.N[i]? = some x) (hx : Loc X.env.scope x) (h : Vm X e env ow P) (k : ∀ B' d ow2, Ex B B' → P d ow2 → Rn X B' rest Dn (env.set i (some d)) ow2) (hs : swapsWith e (some (.Name x p)) pos.line X.env = pure false := by rfl) (hf : X.fn x = true ∨ X.env.scope.names.lookup x = some .local := by first | exact .inl rfl | exact .inr rfl | assumption) :
    Rn X B (.Assign [.Name x p] e pos :: rest) Dn env ow := rn_one ⟨_, ps_set hN hi hx pe_can hs hf, fun σ F H eB s w => h σ F H _ s w fun F1 H1 v d ow2 e1 w1 r1 hp => k F1 d ow2 (eB.trans e1) hp _ F1 H1 (Evl.Ex.refl F1) ((s.mono e1).set r1 i) w1⟩
/-- any other target -/
theorem rn_asg {g : TG} {f : List (Option D) → List (Option D)} (hg : PG X tg g) (h : Ve X e env ow d) (hgd : Gd X.K ow g d f) (k : ∀ B', Ex B B' → Rn X B' rest Dn (f env) ow) (hs : swapsWithSole [tg] e pos.line X.env = pure false := by rfl) (hw : swappedStores [tg] e X.env = pure none := by rfl)
    (h1 : (assignEach [tg] X.env).map (·.2) = [assign tg X.env] := by rfl) : Rn X B (.Assign [tg] e pos :: rest) Dn env ow := rn_one ⟨_, ps_asg pe_can hg hs hw h1, fun σ F H eB s w => h σ F H _ s w fun F1 H1 v e1 w1 r1 => hgd env σ F1 H1 v _ (s.mono e1) w1 r1 fun σ2 s2 => k F1 (eB.trans e1) _ F1 H1 (Evl.Ex.refl F1) s2 w1⟩
/-- a, b = x, y -/
theorem rn_par {x y : Str} {px py p1 p2 : Pos} {k1 k2 i j : Nat} (hc : X.calm = true) (hN : X.N.Nodup) (hi : X.N[i]? = some x) (hj : X.N[j]? = some y) (hij : i ≠ j) (hx : X.env.scope.names.lookup x = some .local) (hy : X.env.scope.names.lookup y = some .local)
    (h1 : Ve X a env ow d1) (h2 : Ve X b env ow d2) (k : ∀ B', Ex B B' → Rn X B' rest Dn ((env.set i (some d1)).set j (some d2)) ow)
    (hw : swappedStores [.Tuple [.Name x px, .Name y py] k1 p1] (.Tuple [a, b] k2 p2) X.env = pure (some [x, y])) (hst : starEach [a, b] X.env = [(false, eval a X.env), (false, eval b X.env)] := by rfl) (hst2 : starEach [b] X.env = [(false, eval b X.env)] := by rfl) (hps : ∃ t, PS X (.Assign [.Tuple [.Name x px, .Name y py] k1 p1] (.Tuple [a, b] k2 p2) pos) (tPar i j t) ∧ t = WpA X [a, b]) :
    Rn X B (.Assign [.Tuple [.Name x px, .Name y py] k1 p1] (.Tuple [a, b] k2 p2) pos :: rest) Dn env ow := rn_one (by
  obtain ⟨t, hp, rfl⟩ := hps
  refine ⟨_, hp, fun σ F H eB s w => va_cons h1 (va_cons h2 va_nil hst2) (by rw [hst, hst2]) σ F H _ s w fun F1 H1 vs e1 w1 r1 => ?_⟩
  cases r1 with
  | cons r2 r3 =>
    cases r3 with
    | cons r4 r5 =>
      cases r5
      exact ⟨_, _, rfl, k F1 (eB.trans e1) _ F1 H1 (Evl.Ex.refl F1) (((s.mono e1).set r2 i).set r4 j) w1⟩)
theorem rn_expr (h : Ve X e env ow d) (k : ∀ B', Ex B B' → Rn X B' rest Dn env ow) (hs : swapsWith e none pos.line X.env = pure false := by rfl) : Rn X B (.Expr e pos :: rest) Dn env ow := rn_one ⟨_, ps_expr pe_can hs, fun σ F H eB s w => h σ F H _ s w fun F1 H1 v e1 w1 r1 => k F1 (eB.trans e1) _ F1 H1 (Evl.Ex.refl F1) (s.mono e1) w1⟩
theorem rn_exprM {P : D → Ow → Prop} (h : Vm X e env ow P) (k : ∀ B' d ow2, Ex B B' → P d ow2 → Rn X B' rest Dn env ow2) (hs : swapsWith e none pos.line X.env = pure false := by rfl) : Rn X B (.Expr e pos :: rest) Dn env ow := rn_one ⟨_, ps_expr pe_can hs, fun σ F H eB s w => h σ F H _ s w fun F1 H1 v d ow2 e1 w1 r1 hp => k F1 d ow2 (eB.trans e1) hp _ F1 H1 (Evl.Ex.refl F1) (s.mono e1) w1⟩
theorem rn_ret (h : Ve X e env ow d) (k : Post X.K ow B d Dn.rt) : Rn X B (.Return (some e) pos :: rest) Dn env ow := rn_one ⟨_, ps_ret pe_can, fun σ F H eB s w => h σ F H _ s w (k.ex eB)⟩
theorem rn_retM {P : D → Ow → Prop} (h : Vm X e env ow P) (k : ∀ d ow2, P d ow2 → Post X.K ow2 B d Dn.rt) : Rn X B (.Return (some e) pos :: rest) Dn env ow := rn_one ⟨_, ps_ret pe_can, fun σ F H eB s w => h σ F H _ s w fun F1 H1 v d ow2 e1 w1 r1 hp => k d ow2 hp F1 H1 v (eB.trans e1) w1 r1⟩
theorem rn_if {t : Bool} (h : Vt X c env ow t) (h1 : t = true → ∀ B', Ex B B' → Rn X B' s1 (Then X rest Dn) env ow) (h2 : t = false → ∀ B', Ex B B' → Rn X B' s2 (Then X rest Dn) env ow) : Rn X B (.If c s1 s2 pos :: rest) Dn env ow := rn_one ⟨_, ps_if pt_can pss_can pss_can, fun σ F H eB s w => h σ F H _ s w fun F1 H1 e1 w1 => by
  cases t with
  | true =>
    rw [if_pos rfl]
    exact h1 rfl F1 (eB.trans e1) σ F1 H1 (Evl.Ex.refl F1) (s.mono e1) w1
  | false =>
    rw [if_neg Bool.false_ne_true]
    exact h2 rfl F1 (eB.trans e1) σ F1 H1 (Evl.Ex.refl F1) (s.mono e1) w1⟩
/-- behind a turn -/
def Nx (K : PySem.W.Frag) (B : Hp) (I : List (Option D) → Ow → Prop) : L2.St → Hp → Prop := fun σ H => ∃ F env ow, Ex B F ∧ Sl K F σ env ∧ Wo K ow F H ∧ I env ow
def Turn (X : Cx) (B : Hp) (rest : List Stmt) (Dn : Ends) (I : List (Option D) → Ow → Prop) : Ends := { nx := Nx X.K B I, ct := Nx X.K B I, bk := WpS X rest Dn, rt := Dn.rt }
theorem rn_next {I : List (Option D) → Ow → Prop} (h : I env ow) (e : Ex B B) : Rn X B [] (Turn X B rest Dn I) env ow := rn_end fun σ F H eB s w => ⟨F, env, ow, eB, s, w, h⟩
theorem rn_for {g : TG} {f : D → List (Option D) → List (Option D)} {body : List Stmt} (I : Nat → List (Option D) → Ow → Prop) (hp : PassesOwn (model X.prog X.w) X.A X.env X.xe) (hc : X.calm = true) (hi : Vi X tg it env ow ds) (hg : PG X tg g) (hgd : ∀ ow d, d ∈ ds → Gd X.K ow g d (f d)) (h0 : I 0 env ow)
    (hs : ∀ B' i d env' ow', Ex B B' → ds[i]? = some d → I i env' ow' → Rn X B' body (Turn X B' rest Dn (I (i + 1))) (f d env') ow') (hd : ∀ B' env' ow', Ex B B' → I ds.length env' ow' → Rn X B' rest Dn env' ow')
    (hfs : ∀ x, foldedSetIterable it X.env x = pure x := by intro _; rfl) : Rn X B (.For tg it body [] pos :: rest) Dn env ow := rn_one (by
  obtain ⟨wi, pi, hw⟩ := hi
  refine ⟨_, ps_for hp hc pi hg pss_can hfs, fun σ F H eB s w => hw σ F H _ s w fun J F1 H1 e1 w1 src => ?_⟩
  refine ⟨fun i m σ H => m = ds.length - i ∧ i ≤ ds.length ∧ Nx X.K F1 (I i) σ H, ⟨ds.length, by simp, Nat.zero_le _, F1, env, ow, Evl.Ex.refl F1, s.mono e1, w1, h0⟩, ?_⟩
  rintro i m σ' H' ⟨rfl, hi, F', env', ow', eF, s', w', hI⟩
  obtain ⟨stop, go⟩ := src F' H' ow' i eF w'
  by_cases hlt : i < ds.length
  · obtain ⟨hgo, hy⟩ := go ds[i] (by simp [hlt])
    refine .inr ⟨hgo, Nx X.K F1 (I (i + 1)), fun σ2 H2 q => ⟨ds.length - (i + 1), by omega, rfl, hlt, q⟩, fun x H2 hx => ?_⟩
    obtain ⟨F2, e2, w2, r2⟩ := hy x H2 hx
    refine hgd ow' ds[i] (List.getElem_mem hlt) env' σ' F2 H2 x _ (s'.mono e2) w2 r2 fun σ2 s2 => ?_
    exact hs F1 i ds[i] env' ow' (eB.trans e1) (by simp [hlt]) hI σ2 F2 H2 (eF.trans e2) s2 w2
  · have e : i = ds.length := by omega
    subst e
    exact .inl ⟨stop (Nat.le_refl _), hd F1 env' ow' (eB.trans e1) hI σ' F' H' eF s' w'⟩)
theorem rn_while {body : List Stmt} (I : Nat → List (Option D) → Ow → Prop) (hp : PassesOwn (model X.prog X.w) X.A X.env X.xe) (h0 : ∃ m, I m env ow)
    (hs : ∀ B' m env' ow', Ex B B' → I m env' ow' → ∃ t, Vt X c env' ow' t ∧ (t = true → ∀ B2, Ex B' B2 → Rn X B2 body (Turn X B' rest Dn fun env2 ow2 => ∃ m2, m2 < m ∧ I m2 env2 ow2) env' ow') ∧ (t = false → ∀ B2, Ex B' B2 → Rn X B2 rest Dn env' ow')) : Rn X B (.While c body [] pos :: rest) Dn env ow := rn_one (by
  refine ⟨_, ps_while hp pt_can pss_can, fun σ F H eB s w => ?_⟩
  obtain ⟨m0, h0⟩ := h0
  refine ⟨fun m σ H => Nx X.K F (I m) σ H, ⟨m0, F, env, ow, Evl.Ex.refl F, s, w, h0⟩, ?_⟩
  rintro m σ' H' ⟨F', env', ow', eF, s', w', hI⟩
  obtain ⟨t, ht, y1, y2⟩ := hs F m env' ow' eB hI
  refine ht σ' F' H' _ s' w' fun F2 H2 e2 w2 => ?_
  cases t with
  | true =>
    rw [if_pos rfl]
    refine ⟨Nx X.K F fun env2 ow2 => ∃ m2, m2 < m ∧ I m2 env2 ow2, fun σ2 H3 ⟨F3, env3, ow3, a1, a2, a3, m2, a4, a5⟩ => ⟨m2, a4, F3, env3, ow3, a1, a2, a3, a5⟩, ?_⟩
    exact y1 rfl F2 (eF.trans e2) σ' F2 H2 (Evl.Ex.refl F2) (s'.mono e2) w2
  | false =>
    rw [if_neg Bool.false_ne_true]
    exact y2 rfl F2 (eF.trans e2) σ' F2 H2 (Evl.Ex.refl F2) (s'.mono e2) w2)
/-- behind a turn of a while, whose base is an elder one -/
theorem rn_nextW {B2 : Hp} {I : List (Option D) → Ow → Prop} (h : I env ow) (e : Ex B B2) : Rn X B2 [] (Turn X B rest Dn I) env ow := rn_end fun σ F H eB s w => ⟨F, env, ow, e.trans eB, s, w, h⟩
end
end Vd

set_option Elab.async false
set_option linter.all false
set_option maxRecDepth 100000
set_option maxHeartbeats 4000000
namespace Vd
open PySem L2
section
variable {K : PySem.W.Frag} {ow : Ow} {F : Hp}
theorem Rps.atI {v : List V} {d : List D} {i : Int} {x : D} (r : Rps K F v d) (h : L2.atI d i = some x) : ∃ y, L2.atI v i = some y ∧ Rp K F y x := by
  unfold L2.atI at h ⊢
  rw [r.length]
  cases q : ixN d.length i with
  | none =>
    rw [q] at h
    cases h
  | some j =>
    rw [q] at h
    exact r.get h
theorem rd_ixL {l : List D} {i : Int} {d : D} (h : L2.atI l i = some d) : RD K ow (rIxL K) (.lst l) (.int i) d := .mk fun F H x y Q w r1 r2 k => by
  cases r2
  cases r1 with
  | lst h1 s1 =>
    obtain ⟨v, hv, rv⟩ := s1.atI h
    exact ⟨_, _, _, v, rfl, rfl, SqL.of (w.ex _ _ h1), hv, k.here w rv⟩
theorem rd_ixT {l : List D} {i : Int} {d : D} (h : L2.atI l i = some d) : RD K ow (rIxT K) (.tup l) (.int i) d := .mk fun F H x y Q w r1 r2 k => by
  cases r2
  cases r1 with
  | tup h1 s1 =>
    obtain ⟨v, hv, rv⟩ := s1.atI h
    exact ⟨_, _, _, v, rfl, rfl, Evl.ex_t w.ex h1, hv, k.here w rv⟩
theorem rd_ixS {z : Str} {i : Int} {c : Nat} (hl : z.length ≤ 100000) (h : L2.atI z.cps.toList i = some c) : RD K ow rIxS (.str z) (.int i) (.str ⟨#[c]⟩) := .mk fun F H x y Q w r1 r2 k => by
  cases r1
  cases r2
  exact ⟨_, _, c, rfl, rfl, Evl.sz_of hl, h, k.here w (.str _)⟩
/-- an owned list read -/
theorem rd_ixO {p : Addr} {l : List D} {i : Int} {d : D} (hp : ow p = some (.lst l)) (h : L2.atI l i = some d) : RD K ow (rIxL K) (.ob (.ref p)) (.int i) d := .mk fun F H x y Q w r1 r2 k => by
  cases r1
  cases r2
  obtain ⟨_, xs, h1, s1⟩ := w.own p _ hp
  obtain ⟨v, hv, rv⟩ := s1.atI h
  exact ⟨_, _, _, v, rfl, rfl, SqL.of h1, hv, k.here w rv⟩
theorem rc_lenL {l : List D} : RC K ow (fun xs H Q => ∃ p ys, xs = [.ref p] ∧ (SqL K H p ys ∨ SqT K H p ys) ∧ Q (.int ys.length) H) [.lst l] (.int (l.length : Nat)) := .mk fun F H xs Q w r k => by
  cases r with
  | cons r1 r2 =>
    cases r2
    cases r1 with
    | lst h1 s1 => exact ⟨_, _, rfl, .inl (SqL.of (w.ex _ _ h1)), by rw [s1.length]; exact k.here w (.int _)⟩
theorem rc_lenT {l : List D} : RC K ow (fun xs H Q => ∃ p ys, xs = [.ref p] ∧ (SqL K H p ys ∨ SqT K H p ys) ∧ Q (.int ys.length) H) [.tup l] (.int (l.length : Nat)) := .mk fun F H xs Q w r k => by
  cases r with
  | cons r1 r2 =>
    cases r2
    cases r1 with
    | tup h1 s1 => exact ⟨_, _, rfl, .inr (Evl.ex_t w.ex h1), by rw [s1.length]; exact k.here w (.int _)⟩
theorem rc_lenO {p : Addr} {l : List D} (hp : ow p = some (.lst l)) : RC K ow (fun xs H Q => ∃ p ys, xs = [.ref p] ∧ (SqL K H p ys ∨ SqT K H p ys) ∧ Q (.int ys.length) H) [.ob (.ref p)] (.int (l.length : Nat)) := .mk fun F H xs Q w r k => by
  cases r with
  | cons r1 r2 =>
    cases r2
    cases r1
    obtain ⟨_, ys, h1, s1⟩ := w.own p _ hp
    exact ⟨_, _, rfl, .inl (SqL.of h1), by rw [s1.length]; exact k.here w (.int _)⟩
theorem rc_int1 {i : Int} : RC K ow (fun xs H Q => (∃ i, xs = [.int i] ∧ Q (.int i) H) ∨ ∃ k, xs = [.bl k] ∧ Q (.int (if k then 1 else 0)) H) [.int i] (.int i) := .mk fun F H xs Q w r k => by
  cases r with
  | cons r1 r2 =>
    cases r2
    cases r1
    exact .inl ⟨i, rfl, k.here w (.int _)⟩
theorem rc_abs {i : Int} : RC K ow (fun xs H Q => ∃ i, xs = [.int i] ∧ Q (.int (if i < 0 then -i else i)) H) [.int i] (.int (if i < 0 then -i else i)) := .mk fun F H xs Q w r k => by
  cases r with
  | cons r1 r2 =>
    cases r2
    cases r1
    exact ⟨i, rfl, k.here w (.int _)⟩
theorem rc_max {i j : Int} : RC K ow (fun xs H Q => ∃ i j, xs = [.int i, .int j] ∧ Q (.int (if j > i then j else i)) H) [.int i, .int j] (.int (if j > i then j else i)) := .mk fun F H xs Q w r k => by
  cases r with
  | cons r1 r2 =>
    cases r1
    cases r2 with
    | cons r3 r4 =>
      cases r4
      cases r3
      exact ⟨i, j, rfl, k.here w (.int _)⟩
theorem rc_min {i j : Int} : RC K ow (fun xs H Q => ∃ i j, xs = [.int i, .int j] ∧ Q (.int (if j < i then j else i)) H) [.int i, .int j] (.int (if j < i then j else i)) := .mk fun F H xs Q w r k => by
  cases r with
  | cons r1 r2 =>
    cases r1
    cases r2 with
    | cons r3 r4 =>
      cases r4
      cases r3
      exact ⟨i, j, rfl, k.here w (.int _)⟩
theorem rc_divmod {i j : Int} (h : CDiv i j) : RC K ow (fun xs H Q => ∃ i j, xs = [.int i, .int j] ∧ CDiv i j ∧ ∀ p, H p = none → Q (.ref p) (upd H p (.tup [.int (i / j), .int (i % j)]))) [.int i, .int j] (.tup [.int (i / j), .int (i % j)]) := .mk fun F H xs Q w r k => by
  cases r with
  | cons r1 r2 =>
    cases r1
    cases r2 with
    | cons r3 r4 =>
      cases r4
      cases r3
      exact ⟨i, j, rfl, h, fun p hp => k.new w hp (.tup (SqT.of upd_same) (.cons (.int _) (.cons (.int _) .nil)))⟩
theorem rc_all {l : List Bool} : RC K ow (rAll K) [.lst (l.map D.bl)] (.bl (l.all id)) := .mk fun F H xs Q w r k => by
  cases r with
  | cons r1 r2 =>
    cases r2
    cases r1 with
    | lst h1 s1 => exact ⟨_, l, rfl, by rw [← s1.bls]; exact SqL.of (w.ex _ _ h1), k.here w (.bl _)⟩
theorem rc_any {l : List Bool} : RC K ow (rAny K) [.lst (l.map D.bl)] (.bl (l.any id)) := .mk fun F H xs Q w r k => by
  cases r with
  | cons r1 r2 =>
    cases r2
    cases r1 with
    | lst h1 s1 => exact ⟨_, l, rfl, by rw [← s1.bls]; exact SqL.of (w.ex _ _ h1), k.here w (.bl _)⟩
end

/-! ### calls of defs: as the layer's promise, with no text of a container under way -/
open PySem.Spec PyProof.Rows
structure FnG (P : Program) (w : World) (K : PySem.W.Frag) (mg : Str → Option Value) (base : Heap) (CX : CXT) (k : Nat) (f : Addr) (fd : FuncData) (ps : List Str) (sp : Sp) : Prop where
  len : ∀ vs H Q E, sp vs H Q E → vs.length = ps.length
  run : ∀ (A : Around) (outer : List Env) (s : Shared) (H : Hp) (args : Args) (us : List Value) (vs : List V) (Q : VK) (E : XK), A.guards = some [] → Room k A → Env0 P w K mg base A outer s H → BindsTo s fd args (ps.zip us) → Vals vs us → sp vs H Q E →
    codeAny (model P w) A (.call (.ref f) args) (CR CX outer P w H s Q E) s
theorem FnG.of {P : Program} {w : World} {K : PySem.W.Frag} {mg : Str → Option Value} {base : Heap} {CX : CXT} {k : Nat} {f : Addr} {fd : FuncData} {ps : List Str} {sp : Sp} (h : FnOk P w K mg base CX k f fd ps sp) : FnG P w K mg base CX k f fd ps sp :=
  ⟨h.len, fun A outer s H args us vs Q E _ => h.run A outer s H args us vs Q E⟩
theorem FnG.mono {P : Program} {w : World} {K : PySem.W.Frag} {mg : Str → Option Value} {base : Heap} {CX : CXT} {j k : Nat} {f : Addr} {fd : FuncData} {ps : List Str} {sp : Sp} (h : FnG P w K mg base CX j f fd ps sp) (l : j ≤ k) : FnG P w K mg base CX k f fd ps sp :=
  ⟨h.len, fun A outer s H args us vs Q E hg hr => h.run A outer s H args us vs Q E hg (hr.mono l)⟩
/-- a def of the text by its body -/
theorem fnG_of {CX : CXT} {P : Program} {w : World} {K : PySem.W.Frag} {mg : Str → Option Value} {base : Heap} {k : Nat} {f : Addr} {x qual : Str} {st : Stmt} {fd : FuncData} {N ps : List Str} {sp : Sp} (Fn : Fun K x qual st f fd) (S : FnScope N ps (defScope st)) (len : ∀ vs H Q E, sp vs H Q E → vs.length = ps.length)
    (hbody : ∀ (cdv : Value) (A : Around) (outer : List Env) (s : Shared) (H : Hp) (vs : List V) (Q : VK) (E : XK), A.guards = some [] → Room k (A.deeper (envOfC qual (defScope st) s.heap.objs.size f cdv)) → sp vs H Q E →
      ∃ t, PSs (cxOf CX P w K mg base N qual (defScope st) f cdv A outer s H E) (defBody st) t ∧ t { nx := fun _ H' => Q .non H', rt := Q } (start N vs) H) : FnG P w K mg base CX (k + 1) f fd ps sp := by
  obtain ⟨oc, od, kV, doc, pm, an, cdv, ct, osl, rfl, lk, hcd⟩ := Fn.ex
  refine ⟨len, fun A outer s H args us vs Q E hgd hr e0 hb r hsp => ?_⟩
  have inK : K.In s.heap := e0.mod.kin.keeps fun b o e => (e0.bs b o e).1
  have lim : s.heap.NoLimit := e0.mod.nolimit.keeps fun b o e => (e0.bs b o e).1
  have kinds : ∀ y ∈ ps.zip us, (defScope st).names.lookup y.1 = some .local ∨ ((defScope st).names.lookup y.1 = some .cell ∧ ((cellsFrom (s.heap.objs.size + 1) (defScope st).names []).lookup y.1).isSome = true) := fun ⟨n, v⟩ hy => by
    rcases S.par n (List.of_mem_zip hy).1 with q | q
    · exact .inl q
    · refine .inr ⟨q, ?_⟩
      exact PySem.W.cellsFrom_some _ _ _ (.inl q)
  refine codeAny_call_function hr.depth (inK _ _ lk) rfl S.co S.gen rfl (PySem.W.codeRec_of inK hcd) (hb _ _ _ _ ?_)
  refine wpAny_newFunctionEnv_cells S.kind kinds fun env he s1 z => ?_
  subst he
  refine ⟨lim.keeps z.toInCall.keep, codeAny_func ?_⟩
  obtain ⟨t, ht, hq⟩ := hbody cdv A outer s H vs Q E hgd (hr.deeper _) hsp
  have I : Inv (cxOf CX P w K mg base N qual (defScope st) f cdv A outer s H E) [] (start N vs) H s1 := inv_start S hr.hd e0 (len _ _ _ _ hsp) r z
  refine wpAny_mono (ht.run [] s1 (start N vs) H _ I hq) (fun fl s' hs => ?_) fun e s' hs => hs
  cases fl with
  | ret u =>
    obtain ⟨v, σ', H', J, rv, q⟩ := hs
    exact ⟨v, H', J.os, J.bare, J.base, J.hok, rv, q⟩
  | next =>
    obtain ⟨σ', H', J, q⟩ := hs
    exact ⟨.non, H', J.os, J.bare, J.base, J.hok, rfl, q⟩
  | brk =>
    obtain ⟨_, _, _, q⟩ := hs
    exact q.elim
  | cont =>
    obtain ⟨_, _, _, q⟩ := hs
    exact q.elim
section
variable {X : Cx} {B : Hp} {env : List (Option D)} {ow : Ow} {a b c e o i tg it elt : Expr} {es : List Expr} {d d1 d2 d3 : D} {ds : List D} {pos : Pos} {Dn : Ends} {rest : List Stmt}
variable {CX : CXT} {k : Nat} {f : Addr} {fd : FuncData} {ps : List Str} {sp : Sp} {dvs : List V} {dv : List Value} {E : XK} {x : Str} {p : Pos}
theorem run_fnG {pins : List (Addr × Obj)} {σ : L2.St} {H : Hp} {s : Shared} {Q : VK} {us : List Value} {vs : List V} (Fn : FnG X.prog X.w X.K X.mg X.base CX k f fd ps sp) (hgd : X.A.guards = some []) (hr : Room k X.A) (hb : Binds X.K fd ps dv) (hd : Vals dvs dv) (hx : Passes CX X E)
    (I : Inv X pins σ H s) (r : Vals vs us) (h : sp (vs ++ dvs) H Q E) : wpAny (model X.prog X.w) X.A (call (.ref f) us) (EP X pins σ Q) X.xe s := by
  have r2 : Vals (vs ++ dvs) (us ++ dv) := r.append hd
  have hl : (us ++ dv).length = ps.length := r2.length.symm.trans (Fn.len _ _ _ _ h)
  refine wpAny_call (codeAny_mono (Fn.run X.A X.stack s H ⟨us, []⟩ (us ++ dv) (vs ++ dvs) Q E hgd hr I.env0 (hb s us I.kIn hl) r2 h) fun r s' hq => ?_)
  match r, hq with
  | .error e, hq => exact hx pins σ H s e s' I hq
  | .ok (.ret u), hq => exact I.after hq
theorem pe_callG {es0 : List Expr} {t : TA} (Fn : FnG X.prog X.w X.K X.mg X.base CX k f fd ps sp) (hgd : X.A.guards = some []) (hr : Room k X.A) (hg : Gl X x) (hm : X.mg x = some (.ref f)) (hk : PySem.W.keepIn X.K (.ref f) = true) (hb : Binds X.K fd ps dv) (hd : Vals dvs dv) (hx : Passes CX X E)
    (ha : PA X (e :: es0) t) (hdb : (x == ("__debug__" : Str)) = false := by decide) (he : starEach (e :: es0) X.env = (false, eval e X.env) :: starEach es0 X.env := by rfl) (hpl : (backTo pos (starEach es0 X.env)).any (·.1) = false := by rfl) :
    PE X (.Call (.Name x p) (e :: es0) [] pos) (tCall sp dvs E t) := by
  refine ⟨fun pins s σ H Q I h => ?_⟩
  refine wpAny_Call_Name_kw (ld_glob I hg hm ?_ hdb)
  refine PySem.W.callWith_K (h₀ := X.base) I.ok.mod.kin hk ?_ he hpl
  refine thn (ha.run pos pins s σ H _ I h) fun us s1 ⟨vs, H1, I1, r, q⟩ => ⟨I1.kIn, ?_⟩
  exact run_fnG Fn hgd hr hb hd hx I1 r q
theorem ve_call (Fn : FnG X.prog X.w X.K X.mg X.base CX k f fd ps sp) (hgd : X.A.guards = some []) (hr : Room k X.A) (hg : Gl X x) (hm : X.mg x = some (.ref f)) (hk : PySem.W.keepIn X.K (.ref f) = true) (hb : Binds X.K fd ps dv) (hd : Vals dvs dv) (hx : Passes CX X E) (ha : Va X (e :: es) env ow ds)
    (hs : ∀ F H vs Q, Wo X.K ow F H → Rps X.K F vs ds → Post X.K ow F d Q → sp (vs ++ dvs) H Q E) (hdb : (x == ("__debug__" : Str)) = false := by decide) (he : starEach (e :: es) X.env = (false, eval e X.env) :: starEach es X.env := by rfl) (hpl : (backTo pos (starEach es X.env)).any (·.1) = false := by rfl) :
    Ve X (.Call (.Name x p) (e :: es) [] pos) env ow d := .mk fun σ F H Q s w k0 => wpe (pe_callG Fn hgd hr hg hm hk hb hd hx pa_can hdb he hpl) (ha σ F H _ s w fun F1 H1 vs e1 w1 r1 => hs F1 H1 vs Q w1 r1 (k0.ex e1))
theorem vm_call {P : D → Ow → Prop} (Fn : FnG X.prog X.w X.K X.mg X.base CX k f fd ps sp) (hgd : X.A.guards = some []) (hr : Room k X.A) (hg : Gl X x) (hm : X.mg x = some (.ref f)) (hk : PySem.W.keepIn X.K (.ref f) = true) (hb : Binds X.K fd ps dv) (hd : Vals dvs dv) (hx : Passes CX X E) (ha : Va X (e :: es) env ow ds)
    (hs : ∀ F H vs Q, Wo X.K ow F H → Rps X.K F vs ds → (∀ F2 H2 v d ow2, Ex F F2 → Wo X.K ow2 F2 H2 → Rp X.K F2 v d → P d ow2 → Q v H2) → sp (vs ++ dvs) H Q E) (hdb : (x == ("__debug__" : Str)) = false := by decide) (he : starEach (e :: es) X.env = (false, eval e X.env) :: starEach es X.env := by rfl) (hpl : (backTo pos (starEach es X.env)).any (·.1) = false := by rfl) :
    Vm X (.Call (.Name x p) (e :: es) [] pos) env ow P := .mk fun σ F H Q s w k0 => wpe (pe_callG Fn hgd hr hg hm hk hb hd hx pa_can hdb he hpl) (ha σ F H _ s w fun F1 H1 vs e1 w1 r1 => hs F1 H1 vs Q w1 r1 fun F2 H2 v d ow2 e2 w2 r2 hp => k0 F2 H2 v d ow2 (e1.trans e2) w2 r2 hp)
theorem vm_of {P : D → Ow → Prop} (h : Ve X e env ow d) (hp : P d ow) : Vm X e env ow P := .mk fun σ F H Q s w k0 => h σ F H Q s w fun F2 H2 v e2 w2 r2 => k0 F2 H2 v d ow e2 w2 r2 hp
theorem Vm.imp {P P' : D → Ow → Prop} (h : Vm X e env ow P) (q : ∀ d ow2, P d ow2 → P' d ow2) : Vm X e env ow P' := .mk fun σ F H Q s w k0 => h σ F H Q s w fun F2 H2 v d ow2 e2 w2 r2 hp => k0 F2 H2 v d ow2 e2 w2 r2 (q d ow2 hp)
/-- an operation whose first part changes what is owned -/
theorem vm_op1 {P P' : D → Ow → Prop} {op : Operator} {r : R2} (ho : OpR X (binaryOp op) r) (ha : Vm X a env ow P) (h : ∀ d1 ow2, P d1 ow2 → ∃ d2 d, Ve X b env ow2 d2 ∧ RD X.K ow2 r d1 d2 d ∧ P' d ow2) : Vm X (.BinOp a op b pos) env ow P' := .mk fun σ F H Q s w k0 =>
  wpe (pe_op ho pe_can pe_can) (ha σ F H _ s w fun F1 H1 x d1 ow2 e1 w1 r1 hp => by
    obtain ⟨d2, d, hb, hr, hp'⟩ := h d1 ow2 hp
    exact hb σ F1 H1 _ (s.mono e1) w1 fun F2 H2 y e2 w2 r2 => hr F2 H2 x y Q w2 (r1.mono e2) r2 fun F3 H3 v e3 w3 r3 => k0 F3 H3 v d ow2 ((e1.trans e2).trans e3) w3 r3 hp')
theorem vm_op2 {P P' : D → Ow → Prop} {op : Operator} {r : R2} (ho : OpR X (binaryOp op) r) (ha : Ve X a env ow d1) (hb : Vm X b env ow P) (h : ∀ d2 ow2, P d2 ow2 → ∃ d, RD X.K ow2 r d1 d2 d ∧ P' d ow2) : Vm X (.BinOp a op b pos) env ow P' := .mk fun σ F H Q s w k0 =>
  wpe (pe_op ho pe_can pe_can) (ha σ F H _ s w fun F1 H1 x e1 w1 r1 => hb σ F1 H1 _ (s.mono e1) w1 fun F2 H2 y d2 ow2 e2 w2 r2 hp => by
    obtain ⟨d, hr, hp'⟩ := h d2 ow2 hp
    exact hr F2 H2 x y Q w2 (r1.mono e2) r2 fun F3 H3 v e3 w3 r3 => k0 F3 H3 v d ow2 ((e1.trans e2).trans e3) w3 r3 hp')
/-- x[..] where the index changes what is owned -/
theorem vm_ix2 {P P' : D → Ow → Prop} {r : R2} (hr0 : IxR X r) (hs : PlainIx b) (ha : Ve X a env ow d1) (hb : Vm X b env ow P) (h : ∀ d2 ow2, P d2 ow2 → ∃ d, RD X.K ow2 r d1 d2 d ∧ P' d ow2) : Vm X (.Subscript a b pos) env ow P' := .mk fun σ F H Q s w k0 =>
  wpe (pe_ix hr0 pe_can pe_can hs) (ha σ F H _ s w fun F1 H1 x e1 w1 r1 => hb σ F1 H1 _ (s.mono e1) w1 fun F2 H2 y d2 ow2 e2 w2 r2 hp => by
    obtain ⟨d, hr, hp'⟩ := h d2 ow2 hp
    exact hr F2 H2 x y Q w2 (r1.mono e2) r2 fun F3 H3 v e3 w3 r3 => k0 F3 H3 v d ow2 ((e1.trans e2).trans e3) w3 r3 hp')

/-! ### a list comprehension over what is frozen -/
def Sub (ow ow' : Ow) : Prop := ∀ a o, ow a = some o → ow' a = some o
theorem wipe_one {σ : L2.St} {j : Nat} {v : V} : L2.wipe ((L2.wipe σ [j]).set j (some v)) [j] = L2.wipe σ [j] := by
  show ((σ.set j none).set j (some v)).set j none = σ.set j none
  rw [List.set_set, List.set_set]
def Vts (X : Cx) (ifs : List Expr) (env : List (Option D)) (ow : Ow) (b : Bool) : Prop := ∃ t, PTs X ifs t ∧ ∀ (σ : L2.St) (F H : Hp) (Q : Bool → Hp → Prop), Sl X.K F σ env → Wo X.K ow F H → PostB X.K ow F b Q → t σ H Q
/-- the block's test, whatever block -/
def WpTs (X : Cx) (ifs : List Expr) : TT := fun σ H Q => ∀ pins s, Inv X pins σ H s → wpAny (model X.prog X.w) X.A (forIn ifs true fun c r => if r = true then do let ok ← isTrue c X.env (eval c X.env); pure (ForInStep.yield ok) else pure (ForInStep.yield r)) (TP X pins σ Q) X.xe s
theorem vts_nil : Vts X [] env ow true := ⟨_, pts_nil, fun σ F H Q s w k => k F H (Evl.Ex.refl F) w⟩
theorem vts_one {t : Bool} (h : Vt X c env ow t) : Vts X [c] env ow t := ⟨_, pts_one pt_can, h⟩
/-- [elt for name in it if ..]: f the data of what is kept -/
theorem ve_lc {ifs : List Expr} {scope : Scope} {j : Nat} {y : Str} {py : Pos} (kp : D → Bool) (f : D → D) (hc : X.calm = true) (hN : X.N.Nodup) (hi : Vi X (.Name y py) it env ow ds) (ok : BlkOk X.N X.env.scope scope [(y, j)]) (hl : ds.length ≤ 100000)
    (hg : ∀ (s : Shared) (H : Hp) (C : Addr) (cl : List (Str × Addr)) (fp : List Addr), PG (X.blk s H scope (compEnvC scope cl C X.env) fp) (.Name y py) (gName j))
    (ht : ∀ d ow', d ∈ ds → Sub ow ow' → ∀ (s : Shared) (H : Hp) (C : Addr) (cl : List (Str × Addr)) (fp : List Addr), Vts (X.blk s H scope (compEnvC scope cl C X.env) fp) ifs ((env.set j none).set j (some d)) ow' (kp d))
    (he : ∀ d ow', d ∈ ds → kp d = true → Sub ow ow' → ∀ (s : Shared) (H : Hp) (C : Addr) (cl : List (Str × Addr)) (fp : List Addr), Ve (X.blk s H scope (compEnvC scope cl C X.env) fp) elt ((env.set j none).set j (some d)) ow' (f d))
    (hsf : ∀ x, foldedSetIterable it X.env x = pure x := by intro _; rfl) : Ve X (.ListComp elt [⟨.Name y py, it, ifs, 0⟩] scope pos) env ow (.lst ((ds.filter kp).map f)) := .mk fun σ F H Q s w k0 => by
  obtain ⟨wi, pi, hw⟩ := hi
  refine wpe (pe_lc (own := [(y, j)]) (g := gName j) (tt := fun σ H Q => ∀ (s : Shared) (H0 : Hp) (C : Addr) (cl : List (Str × Addr)) (fp : List Addr), WpTs (X.blk s H0 scope (compEnvC scope cl C X.env) fp) ifs σ H Q)
    (te := fun σ H Q => ∀ (s : Shared) (H0 : Hp) (C : Addr) (cl : List (Str × Addr)) (fp : List Addr), WpE (X.blk s H0 scope (compEnvC scope cl C X.env) fp) elt σ H Q) hc hN pi ok hg
    (fun s0 H0 C cl fp => ⟨fun pins s σ H Q I h => h s0 H0 C cl fp pins s I⟩) (fun s0 H0 C cl fp => ⟨fun pins s σ H Q I h => h s0 H0 C cl fp pins s I⟩) hsf) ?_
  refine hw σ F H _ s w fun J F1 H1 e1 w1 src => ?_
  intro Dl hD
  refine ⟨fun i m H => m = ds.length - i ∧ i ≤ ds.length ∧ ∃ F2 xs, Ex F1 F2 ∧ Wo X.K ow F2 H ∧ F2 Dl = none ∧ ow Dl = none ∧ H Dl = some (.lst xs) ∧ Rps X.K F2 xs (((ds.take i).filter kp).map f), ⟨ds.length, by simp, Nat.zero_le _, F1, [], Evl.Ex.refl F1, w1.grow hD, w1.free hD, w1.ofree hD, upd_same, .nil⟩, ?_⟩
  rintro i m H2 ⟨rfl, hi, F2, xs, e2, w2, hF2, hoD, hH2, r2⟩
  obtain ⟨stop, go⟩ := src F2 H2 ow i e2 w2
  by_cases hlt : i < ds.length
  · have hdi : ds[i]? = some ds[i] := by simp [hlt]
    have htk : ds.take (i + 1) = ds.take i ++ [ds[i]] := by rw [List.take_add_one, hdi]; rfl
    obtain ⟨hgo, hy⟩ := go ds[i] hdi
    refine .inr ⟨hgo, fun H3 => ∃ F3 xs, Ex F1 F3 ∧ Wo X.K ow F3 H3 ∧ F3 Dl = none ∧ ow Dl = none ∧ H3 Dl = some (.lst xs) ∧ Rps X.K F3 xs (((ds.take (i + 1)).filter kp).map f), fun H3 q => ⟨ds.length - (i + 1), by omega, rfl, hlt, q⟩, fun x H3 hx => ?_⟩
    -- the new list's place is owned meanwhile
    have w2' : Wo X.K (ou ow Dl (.lst (((ds.take i).filter kp).map f))) F2 H2 := ⟨w2.ex, fun a o q => by
      by_cases z : a = Dl
      · subst z
        rw [ou_same] at q
        cases q
        exact ⟨hF2, xs, hH2, r2⟩
      · rw [ou_ne z] at q
        exact w2.own a o q⟩
    obtain ⟨stop', go'⟩ := src F2 H2 _ i e2 w2'
    obtain ⟨_, hy'⟩ := go' ds[i] hdi
    obtain ⟨F3, e3, w3', r3⟩ := hy' x H3 hx
    have sub : ∀ a o, ow a = some o → ou ow Dl (.lst (((ds.take i).filter kp).map f)) a = some o := fun a o q => by
      rw [ou_ne (fun z => by rw [z, hoD] at q; cases q)]
      exact q
    have sl : Sl X.K F3 ((L2.wipe σ [j]).set j (some x)) ((env.set j none).set j (some ds[i])) := (((s.mono (e1.trans (e2.trans e3))).unset j).set r3 j)
    refine ⟨wipe_one, fun s0 H0 C cl fp => ?_⟩
    have hmem : ds[i] ∈ ds := List.getElem_mem hlt
    obtain ⟨tt, ptt, qtt⟩ := ht ds[i] _ hmem sub s0 H0 C cl fp
    intro pins s' I
    refine ptt.run pins s' _ H3 _ I (qtt _ F3 H3 _ sl w3' fun F4 H4 e4 w4 => ?_)
    cases hk : kp ds[i] with
    | true =>
      rw [if_pos rfl]
      intro s1 H01 C1 cl1 fp1
      refine he ds[i] _ hmem hk sub s1 H01 C1 cl1 fp1 _ F4 H4 _ (sl.mono e4) w4 fun F5 H5 y e5 w5 r5 => ?_
      obtain ⟨n5, ys, h5, s5⟩ := w5.own Dl _ ou_same
      refine ⟨ys, h5, ?_, F5, ys ++ [y], e2.trans (e3.trans (e4.trans e5)), ?_, n5, hoD, upd_same, ?_⟩
      · have z := s5.length
        have y1 : (((ds.take i).filter kp).map f).length ≤ i := by
          rw [List.length_map]
          exact Nat.le_trans (List.length_filter_le _ _) (by rw [List.length_take]; omega)
        exact Evl.sz_lt (by omega)
      · exact (w5.setL ou_same (s5.append (.cons r5 .nil))).drop fun a o q => by
          rw [ou_ne (fun z => by rw [z, hoD] at q; cases q)]
          exact sub a o q
      · rw [htk, List.filter_append, List.map_append]
        have y2 : ([ds[i]].filter kp).map f = [f ds[i]] := by simp [hk]
        rw [y2]
        exact s5.append (.cons r5 .nil)
    | false =>
      rw [if_neg Bool.false_ne_true]
      obtain ⟨n5, ys, h5, s5⟩ := w4.own Dl _ ou_same
      refine ⟨F4, ys, e2.trans (e3.trans e4), w4.drop sub, n5, hoD, h5, ?_⟩
      rw [htk, List.filter_append, List.map_append]
      have y2 : ([ds[i]].filter kp).map f = [] := by simp [hk]
      rw [y2, List.append_nil]
      exact s5
  · have e : i = ds.length := by omega
    subst e
    refine .inl ⟨stop (Nat.le_refl _), ?_⟩
    rw [List.take_length] at r2
    exact k0 (upd F2 Dl (.lst xs)) H2 _ ((e1.trans e2).trans (Evl.Ex.new hF2)) (w2.freeze hF2 hH2 hoD) (.lst upd_same (r2.mono (Evl.Ex.new hF2)))
end
end Vd

set_option Elab.async false
set_option linter.all false
set_option maxRecDepth 100000
set_option maxHeartbeats 4000000
namespace Vd
open PySem L2
section
variable {X : Cx} {B : Hp} {env : List (Option D)} {ow : Ow} {a b c e o i tg it elt : Expr} {es : List Expr} {d d1 d2 d3 : D} {ds l : List D} {pos : Pos} {Dn : Ends} {rest : List Stmt}
/-! ### owned lists -/
theorem rn_newL {x : Str} {p lp : Pos} {j : Nat} (hN : X.N.Nodup) (hi : X.N[j]? = some x) (hx : Loc X.env.scope x) (h : Va X es env ow ds) (hl : ds.length ≤ 100000) (k : ∀ B' q, Ex B B' → ow q = none → Rn X B' rest Dn (env.set j (some (.ob (.ref q)))) (ou ow q (.lst ds)))
    (hs : swapsWith (.List es lp) (some (.Name x p)) pos.line X.env = pure false := by rfl) (hf : X.fn x = true ∨ X.env.scope.names.lookup x = some .local := by first | exact .inl rfl | exact .inr rfl | assumption) : Rn X B (.Assign [.Name x p] (.List es lp) pos :: rest) Dn env ow :=
  rn_one ⟨_, ps_set hN hi hx (pe_lst pa_can) hs hf, fun σ F H eB s w => h σ F H _ s w fun F1 H1 xs e1 w1 r1 => ⟨Evl.sz_of (by rw [r1.length]; exact hl), fun q hq => k F1 q (eB.trans e1) (w1.ofree hq) _ F1 _ (Evl.Ex.refl F1) ((s.mono e1).set (.ob _) j) (w1.newL hq r1)⟩⟩
theorem rn_app {q : Addr} {ap cp : Pos} (ho : Ve X o env ow (.ob (.ref q))) (hq : ow q = some (.lst l)) (he : Ve X e env ow d) (hl : l.length < 100000) (k : ∀ B', Ex B B' → Rn X B' rest Dn env (ou ow q (.lst (l ++ [d]))))
    (hbase : attributeBase o "append" X.env (eval o X.env) = eval o X.env := by rfl)
    (hfew : ((backTo cp (starEach [e] X.env)).all (fun x => !x.1) && (backToKw cp (keywordEach [] X.env)).all (fun x => x.1.isSome) && decide ([e].length + ([] : List Keyword).length + (if ([] : List Keyword).isEmpty then 0 else 1) < 30)) = true := by rfl)
    (hline : (ap.endLine == cp.line) = true := by rfl) (hst : starEach [e] X.env = (false, eval e X.env) :: starEach [] X.env := by rfl) (hpl : (backTo cp (starEach [] X.env)).any (·.1) = false := by rfl) (hs : swapsWith (.Call (.Attribute o "append" ap) [e] [] cp) none pos.line X.env = pure false := by rfl) :
    Rn X B (.Expr (.Call (.Attribute o "append" ap) [e] [] cp) pos :: rest) Dn env ow := rn_one ⟨_, ps_expr (pe_bm PySem.F.plainAttrs_list PySem.F.slot_list_append PySem.F.type_list_append mt_append pe_can (pa_cons pe_can pa_nil hst) hbase hfew hline hst hpl) hs, fun σ F H eB s w => ho σ F H _ s w fun F1 H1 v e1 w1 r1 => by
  cases r1
  obtain ⟨_, xs0, g0, _⟩ := w1.own q _ hq
  refine ⟨.inl ⟨rfl, _, SqL.of g0⟩, he σ F1 H1 _ (s.mono e1) w1 fun F2 H2 y e2 w2 r2 => ?_⟩
  obtain ⟨_, xs, g, sx⟩ := w2.own q _ hq
  exact ⟨q, xs, y, rfl, rfl, g, Evl.sz_lt (by rw [sx.length]; exact hl), k F2 (eB.trans (e1.trans e2)) σ F2 _ (Evl.Ex.refl F2) (s.mono (e1.trans e2)) (w2.setL hq (sx.append (.cons r2 .nil)))⟩⟩
def oz (ow : Ow) (a : Addr) : Ow := fun b => if b = a then none else ow b
theorem oz_same {a : Addr} : oz ow a a = none := by unfold oz; rw [if_pos rfl]
theorem oz_ne {a b : Addr} (h : b ≠ a) : oz ow a b = ow b := by unfold oz; rw [if_neg h]
/-- an owned list is let freeze -/
theorem rn_freeze {j : Nat} {q : Addr} (hj : env[j]? = some (some (.ob (.ref q)))) (hq : ow q = some (.lst l)) (k : ∀ B', Ex B B' → Rn X B' rest Dn (env.set j (some (.lst l))) (oz ow q)) : Rn X B rest Dn env ow := .mk fun σ F H eB s w => by
  obtain ⟨n, xs, g, sx⟩ := w.own q _ hq
  obtain ⟨v, h1, h2⟩ := s.at_ j _ hj
  cases h2
  have e1 : Ex F (upd F q (.lst xs)) := Evl.Ex.new n
  have w1 : Wo X.K (oz ow q) (upd F q (.lst xs)) H := (w.drop (ow' := oz ow q) fun a o h => by
    by_cases z : a = q
    · subst z
      rw [oz_same] at h
      cases h
    · rw [oz_ne z] at h
      exact h).freeze n g oz_same
  have s1 : Sl X.K (upd F q (.lst xs)) (σ.set j (some (.ref q))) (env.set j (some (.lst l))) := (s.mono e1).set (.lst upd_same (sx.mono e1)) j
  have z : σ.set j (some (.ref q)) = σ := by
    apply List.ext_getElem?
    intro m
    rw [List.getElem?_set]
    by_cases y : j = m
    · subst y
      rw [if_pos rfl, h1]
      have y2 : j < σ.length := (List.getElem?_eq_some_iff.mp h1).1
      rw [if_pos y2]
    · rw [if_neg y]
  rw [z] at s1
  exact k _ (eB.trans e1) σ _ H (Evl.Ex.refl _) s1 w1
theorem rn_seti {q : Addr} {n : Int} {j : Nat} {sp : Pos} (h : Ve X e env ow d) (ho : Ve X o env ow (.ob (.ref q))) (hi : Ve X i env ow (.int n)) (hq : ow q = some (.lst l)) (hj : ixN l.length n = some j) (k : ∀ B', Ex B B' → Rn X B' rest Dn env (ou ow q (.lst (l.set j d))))
    (hg : PG X (.Subscript o i sp) (gSub (WpE X o) (WpE X i) rSetL))
    (hs : swapsWithSole [.Subscript o i sp] e pos.line X.env = pure false := by rfl) (hw : swappedStores [.Subscript o i sp] e X.env = pure none := by rfl) (h1 : (assignEach [.Subscript o i sp] X.env).map (·.2) = [assign (.Subscript o i sp) X.env] := by rfl) :
    Rn X B (.Assign [.Subscript o i sp] e pos :: rest) Dn env ow := rn_one ⟨_, ps_asg pe_can hg hs hw h1, fun σ F H eB s w => h σ F H _ s w fun F1 H1 v e1 w1 r1 => ho σ F1 H1 _ (s.mono e1) w1 fun F2 H2 ov e2 w2 r2 => hi σ F2 H2 _ (s.mono (e1.trans e2)) w2 fun F3 H3 iv e3 w3 r3 => by
  cases r2
  cases r3
  obtain ⟨_, xs, g, sx⟩ := w3.own q _ hq
  exact ⟨q, xs, n, j, rfl, rfl, g, by rw [sx.length]; exact hj, k F3 (eB.trans (e1.trans (e2.trans e3))) σ F3 _ (Evl.Ex.refl F3) (s.mono (e1.trans (e2.trans e3))) (w3.setL hq (sx.set (r1.mono (e2.trans e3)) j))⟩⟩
/-- return [..]: the list is handed out as owned -/
theorem rn_retL {lp : Pos} (h : Va X es env ow ds) (hl : ds.length ≤ 100000) (k : ∀ F2 H2 q, Ex B F2 → ow q = none → Wo X.K (ou ow q (.lst ds)) F2 H2 → Dn.rt (.ref q) H2) : Rn X B (.Return (some (.List es lp)) pos :: rest) Dn env ow :=
  rn_one ⟨_, ps_ret (pe_lst pa_can), fun σ F H eB s w => h σ F H _ s w fun F1 H1 xs e1 w1 r1 => ⟨Evl.sz_of (by rw [r1.length]; exact hl), fun q hq => k F1 _ q (eB.trans e1) (w1.ofree hq) (w1.newL hq r1)⟩⟩
theorem rn_retS {ow0 : Ow} (h : Ve X e env ow d) (sub : Sub ow0 ow) (k : Post X.K ow0 B d Dn.rt) : Rn X B (.Return (some e) pos :: rest) Dn env ow := rn_ret h fun F2 H2 v e2 w2 r2 => k F2 H2 v e2 (w2.drop sub) r2
end

open PySem.Spec PyProof.Rows
/-! ### promises of defs -/
def Cx0 (P : Program) (w : World) (K : PySem.W.Frag) (mg : Str → Option Value) (base : Heap) (N : List Str) (qual : Str) (st : Stmt) (f : Addr) (cdv : Value) (A : Around) (outer : List Env) (s : Shared) (H : Hp) (E : XK) : Cx := (cxOf CX0 P w K mg base N qual (defScope st) f cdv A outer s H E).nox
section
variable {P : Program} {w : World} {K : PySem.W.Frag} {mg : Str → Option Value} {base : Heap}
def env0 (N : List Str) (ds : List D) : List (Option D) := ds.map some ++ List.replicate (N.length - ds.length) none
theorem okG {x qual : Str} {st : Stmt} {f : Addr} {fd : FuncData} {N ps : List Str} {k : Nat} {sp : Sp} (Fn : Fun K x qual st f fd) (S : FnScope N ps (defScope st)) (len : ∀ vs H Q E, sp vs H Q E → vs.length = ps.length)
    (body : ∀ (cdv : Value) (A : Around) (outer : List Env) (s : Shared) (H : Hp) (vs : List V) (Q : VK) (E : XK), A.guards = some [] → Room k (A.deeper (envOfC qual (defScope st) s.heap.objs.size f cdv)) → sp vs H Q E →
      ∃ B ow ds, Wo K ow B H ∧ Rps K B vs ds ∧ Rn (cxOf CX0 P w K mg base N qual (defScope st) f cdv A outer s H E).nox B (defBody st) { nx := fun _ H' => Q .non H', rt := Q } (env0 N ds) ow) : FnG P w K mg base CX0 (k + 1) f fd ps sp :=
  fnG_of Fn S len fun cdv A outer s H vs Q E hgd hr h => by
    obtain ⟨B, ow, ds, wo, r, q⟩ := body cdv A outer s H vs Q E hgd hr h
    exact ⟨_, pss_can.nox, q (start N vs) B H (Evl.Ex.refl B) (Sl.start r) wo⟩
/-- from data to data -/
def spR (K : PySem.W.Frag) (R : List D → D → Prop) : Sp := fun vs H Q _ => ∃ F ow ds d, Wo K ow F H ∧ Rps K F vs ds ∧ R ds d ∧ Post K ow F d Q
theorem okR {x qual : Str} {st : Stmt} {f : Addr} {fd : FuncData} {N ps : List Str} {k : Nat} {R : List D → D → Prop} (Fn : Fun K x qual st f fd) (S : FnScope N ps (defScope st)) (len : ∀ ds d, R ds d → ds.length = ps.length)
    (body : ∀ (cdv : Value) (A : Around) (outer : List Env) (s : Shared) (H B : Hp) (ow : Ow) (ds : List D) (d : D) (Q : VK) (E : XK), A.guards = some [] → Room k (A.deeper (envOfC qual (defScope st) s.heap.objs.size f cdv)) → R ds d → Post K ow B d Q →
      Rn (cxOf CX0 P w K mg base N qual (defScope st) f cdv A outer s H E).nox B (defBody st) { nx := fun _ H' => Q .non H', rt := Q } (env0 N ds) ow) : FnG P w K mg base CX0 (k + 1) f fd ps (spR K R) :=
  okG Fn S (fun vs H Q E ⟨F, ow, ds, d, wo, r, hR, _⟩ => by rw [r.length]; exact len ds d hR) fun cdv A outer s H vs Q E hgd hr ⟨F, ow, ds, d, wo, r, hR, k⟩ => ⟨F, ow, ds, wo, r, body cdv A outer s H F ow ds d Q E hgd hr hR k⟩
/-! the draws: a cup is an owned list of two integers from 0 on -/
def CupO (ow : Ow) (c : Addr) : Prop := ∃ x y : Int, 0 ≤ x ∧ 0 ≤ y ∧ ow c = some (.lst [.int x, .int y])
def SameO (c : Addr) (ow ow' : Ow) : Prop := ∀ b o, b ≠ c → ow b = some o → ow' b = some o
theorem SameO.refl {c : Addr} {ow : Ow} : SameO c ow ow := fun _ _ _ h => h
theorem SameO.trans {c : Addr} {o1 o2 o3 : Ow} (a : SameO c o1 o2) (b : SameO c o2 o3) : SameO c o1 o3 := fun x o n h => b x o n (a x o n h)
theorem SameO.ou {c q : Addr} {ow ow' : Ow} {u : OD} (h : SameO c ow ow') (hq : ow' q = none) : SameO c ow (ou ow' q u) := fun b o n e => by
  have z := h b o n e
  rw [ou_ne (fun y => by rw [y, hq] at z; cases z)]
  exact z
def PostC (K : PySem.W.Frag) (ow : Ow) (c : Addr) (F : Hp) (R : D → Prop) (Q : VK) : Prop := ∀ F2 H2 ow2 v d, Ex F F2 → Wo K ow2 F2 H2 → SameO c ow ow2 → CupO ow2 c → Rp K F2 v d → R d → Q v H2
def spC (K : PySem.W.Frag) (G : List D → Prop) (R : List D → D → Prop) : Sp := fun vs H Q _ => ∃ F ow c ws ds, vs = .ref c :: ws ∧ Wo K ow F H ∧ CupO ow c ∧ Rps K F ws ds ∧ G ds ∧ PostC K ow c F (R ds) Q
theorem okC {x qual : Str} {st : Stmt} {f : Addr} {fd : FuncData} {N ps : List Str} {k : Nat} {G : List D → Prop} {R : List D → D → Prop} (Fn : Fun K x qual st f fd) (S : FnScope N ps (defScope st)) (len : ∀ ds, G ds → ds.length + 1 = ps.length)
    (body : ∀ (cdv : Value) (A : Around) (outer : List Env) (s : Shared) (H B : Hp) (ow : Ow) (c : Addr) (ds : List D) (Q : VK) (E : XK), A.guards = some [] → Room k (A.deeper (envOfC qual (defScope st) s.heap.objs.size f cdv)) → G ds → CupO ow c → PostC K ow c B (R ds) Q →
      Rn (cxOf CX0 P w K mg base N qual (defScope st) f cdv A outer s H E).nox B (defBody st) { nx := fun _ H' => Q .non H', rt := Q } (env0 N (.ob (.ref c) :: ds)) ow) : FnG P w K mg base CX0 (k + 1) f fd ps (spC K G R) :=
  okG Fn S (fun vs H Q E ⟨F, ow, c, ws, ds, e, wo, _, r, hG, _⟩ => by rw [e, List.length_cons, r.length]; exact len ds hG) fun cdv A outer s H vs Q E hgd hr ⟨F, ow, c, ws, ds, e, wo, hc, r, hG, k⟩ => by
    subst e
    exact ⟨F, ow, .ob (.ref c) :: ds, wo, .cons (.ob _) r, body cdv A outer s H F ow c ds Q E hgd hr hG hc k⟩
theorem rn_retC {X : Cx} {B B0 : Hp} {env : List (Option D)} {ow ow0 : Ow} {e : Expr} {d : D} {pos : Pos} {Dn : Ends} {rest : List Stmt} {c : Addr} {R : D → Prop} (h : Ve X e env ow d) (k : PostC X.K ow0 c B0 R Dn.rt) (eB : Ex B0 B) (hs : SameO c ow0 ow) (hc : CupO ow c) (hR : R d) :
    Rn X B (.Return (some e) pos :: rest) Dn env ow := rn_ret h fun F2 H2 v e2 w2 r2 => k F2 H2 ow v d (eB.trans e2) w2 hs hc r2 hR
/-- a draw -/
theorem vm_draw {X : Cx} {env : List (Option D)} {ow : Ow} {e : Expr} {es : List Expr} {ds : List D} {pos p : Pos} {x : Str} {f c : Addr} {fd : FuncData} {ps : List Str} {k : Nat} {G : List D → Prop} {R : List D → D → Prop} (Fn : FnG X.prog X.w X.K X.mg X.base CX0 k f fd ps (spC X.K G R)) (hgd : X.A.guards = some []) (hr : Room k X.A) (hg : Gl X x) (hm : X.mg x = some (.ref f)) (hk : PySem.W.keepIn X.K (.ref f) = true) (hb : Binds X.K fd ps [])
    (ha : Va X (e :: es) env ow (.ob (.ref c) :: ds)) (hc : CupO ow c) (hG : G ds) (hdb : (x == ("__debug__" : Str)) = false := by decide) (he : starEach (e :: es) X.env = (false, eval e X.env) :: starEach es X.env := by rfl) (hpl : (backTo pos (starEach es X.env)).any (·.1) = false := by rfl) :
    Vm X (.Call (.Name x p) (e :: es) [] pos) env ow fun d ow2 => SameO c ow ow2 ∧ CupO ow2 c ∧ R ds d := vm_call Fn hgd hr hg hm hk hb .nil pass0 ha (fun F H vs Q w r k0 => by
  cases r with
  | cons r1 r2 =>
    cases r1
    rw [List.append_nil]
    exact ⟨F, ow, c, _, ds, rfl, w, hc, r2, hG, fun F2 H2 ow2 v d e2 w2 s2 c2 rv hR => k0 F2 H2 v d ow2 e2 w2 rv ⟨s2, c2, hR⟩⟩) hdb he hpl
end
end Vd

set_option Elab.async false
set_option linter.all false
set_option maxRecDepth 100000
set_option maxHeartbeats 4000000
namespace Vd
open PySem L2
section
variable {X : Cx} {B : Hp} {env : List (Option D)} {ow : Ow} {a b c e o i tg it elt : Expr} {es : List Expr} {d d1 d2 d3 : D} {ds l : List D} {pos : Pos} {Dn : Ends} {rest : List Stmt}
/-! ### the same rules, the parts first and the reading last -/
structure BinOk (X : Cx) (ow : Ow) (op : Operator) (d1 d2 d : D) : Prop where
  ex : ∃ r, OpR X (binaryOp op) r ∧ RD X.K ow r d1 d2 d
structure CmpOk (X : Cx) (ow : Ow) (op : CmpOp) (b : Expr) (d1 d2 d : D) : Prop where
  ex : ∃ r, OpR X (compareOp op) r ∧ behindInMarks op b = false ∧ RD X.K ow r d1 d2 d
structure IxOk (X : Cx) (ow : Ow) (d1 d2 d : D) : Prop where
  ex : ∃ r, IxR X r ∧ RD X.K ow r d1 d2 d
structure BiOk (X : Cx) (ow : Ow) (id : String) (ds : List D) (d : D) : Prop where
  ex : ∃ r, CallR X (.builtin id) r ∧ RC X.K ow r ds d
structure TyOk (X : Cx) (ow : Ow) (id : String) (ds : List D) (d : D) : Prop where
  ex : ∃ r, CallR X (.type id) r ∧ RC X.K ow r ds d
theorem ve_bin {op : Operator} (ha : Ve X a env ow d1) (hb : Ve X b env ow d2) (h : BinOk X ow op d1 d2 d) : Ve X (.BinOp a op b pos) env ow d := by
  obtain ⟨r, ho, hr⟩ := h
  exact ve_op ho ha hb hr
theorem ve_comp {op : CmpOp} (ha : Ve X a env ow d1) (hb : Ve X b env ow d2) (h : CmpOk X ow op b d1 d2 d) : Ve X (.Compare a [op] [b] pos) env ow d := by
  obtain ⟨r, ho, hm, hr⟩ := h
  exact ve_cmp ho hm ha hb hr
theorem vt_comp {op : CmpOp} {t : Bool} (ha : Ve X a env ow d1) (hb : Ve X b env ow d2) (h : CmpOk X ow op b d1 d2 (.bl t)) : Vt X (.Compare a [op] [b] pos) env ow t := by
  obtain ⟨r, ho, hm, hr⟩ := h
  exact vt_cmp ho hm ha hb hr
theorem ve_sub (ha : Ve X a env ow d1) (hb : Ve X b env ow d2) (hs : PlainIx b) (h : IxOk X ow d1 d2 d) : Ve X (.Subscript a b pos) env ow d := by
  obtain ⟨r, ho, hr⟩ := h
  exact ve_ix ho hs ha hb hr
/-- a built-in's call by its name: a function, or a type -/
theorem ve_bi {x : Str} {id : String} {p : Pos} (ha : Va X (e :: es) env ow ds) (hg : Gl X x) (hm : X.mg x = none) (hv : bootBuiltins x = some (.builtin id)) (h : BiOk X ow id ds d) (hn : x ≠ "__name__" := by decide) (hdb : (x == ("__debug__" : Str)) = false := by decide)
    (he : starEach (e :: es) X.env = (false, eval e X.env) :: starEach es X.env := by rfl) (hpl : (backTo pos (starEach es X.env)).any (·.1) = false := by rfl) : Ve X (.Call (.Name x p) (e :: es) [] pos) env ow d := by
  obtain ⟨r, ho, hr⟩ := h
  exact ve_cb ho hg hm hv ha hr hn hdb he hpl
theorem ve_ty {x : Str} {id : String} {p : Pos} (ha : Va X (e :: es) env ow ds) (hg : Gl X x) (hm : X.mg x = none) (hv : bootBuiltins x = some (.type id)) (h : TyOk X ow id ds d) (hn : x ≠ "__name__" := by decide) (hdb : (x == ("__debug__" : Str)) = false := by decide)
    (he : starEach (e :: es) X.env = (false, eval e X.env) :: starEach es X.env := by rfl) (hpl : (backTo pos (starEach es X.env)).any (·.1) = false := by rfl) : Ve X (.Call (.Name x p) (e :: es) [] pos) env ow d := by
  obtain ⟨r, ho, hr⟩ := h
  exact ve_ct ho hg hm hv ha hr hn hdb he hpl
theorem bo_add {i j : Int} : BinOk X ow .Add (.int i) (.int j) (.int (i + j)) := ⟨_, op_add, rd_add⟩
theorem bo_sub {i j : Int} : BinOk X ow .Sub (.int i) (.int j) (.int (i - j)) := ⟨_, op_sub, rd_sub⟩
theorem bo_mulL {i j : Int} (h : -(2 ^ 64) < i ∧ i < 2 ^ 64) : BinOk X ow .Mult (.int i) (.int j) (.int (i * j)) := ⟨_, op_mul, rd_mulL h⟩
theorem bo_mulR {i j : Int} (h : -(2 ^ 64) < j ∧ j < 2 ^ 64) : BinOk X ow .Mult (.int i) (.int j) (.int (i * j)) := ⟨_, op_mul, rd_mulR h⟩
theorem bo_div {i j : Int} (h : 0 < j) (h2 : j < 1073741824) : BinOk X ow .FloorDiv (.int i) (.int j) (.int (i / j)) := ⟨_, op_fdiv, rd_div ⟨h, h2⟩⟩
theorem bo_mod {i j : Int} (h : 0 < j) : BinOk X ow .Mod (.int i) (.int j) (.int (i % j)) := ⟨_, op_mod, rd_mod h⟩
theorem bo_pow {i j : Int} (h : 0 ≤ j) (h2 : j ≤ 1000000) (h3 : i.natAbs < 2 ^ 64) : BinOk X ow .Pow (.int i) (.int j) (.int (i ^ j.toNat)) := ⟨_, op_pow, rd_pow ⟨h, h2, h3⟩⟩
theorem bo_cat {l m : List D} (h : l.length + m.length ≤ 100000) : BinOk X ow .Add (.lst l) (.lst m) (.lst (l ++ m)) := ⟨_, op_cat, rd_cat h⟩
theorem co_lt {i j : Int} : CmpOk X ow .Lt b (.int i) (.int j) (.bl (decide (i < j))) := ⟨_, op_lt, nomark _, rd_lt⟩
theorem co_le {i j : Int} : CmpOk X ow .LtE b (.int i) (.int j) (.bl (decide (i ≤ j))) := ⟨_, op_le, nomark _, rd_le⟩
theorem co_gt {i j : Int} : CmpOk X ow .Gt b (.int i) (.int j) (.bl (decide (j < i))) := ⟨_, op_gt, nomark _, rd_gt⟩
theorem co_ge {i j : Int} : CmpOk X ow .GtE b (.int i) (.int j) (.bl (decide (j ≤ i))) := ⟨_, op_ge, nomark _, rd_ge⟩
theorem co_eqI {i j : Int} : CmpOk X ow .Eq b (.int i) (.int j) (.bl (decide (i = j))) := ⟨_, op_eq, nomark _, rd_eqI⟩
theorem co_neI {i j : Int} : CmpOk X ow .NotEq b (.int i) (.int j) (.bl (!decide (i = j))) := ⟨_, op_ne, nomark _, rd_neI⟩
theorem co_eqS {i j : Str} : CmpOk X ow .Eq b (.str i) (.str j) (.bl (decide (i = j))) := ⟨_, op_eq, nomark _, rd_eqS⟩
theorem co_neS {i j : Str} : CmpOk X ow .NotEq b (.str i) (.str j) (.bl (!decide (i = j))) := ⟨_, op_ne, nomark _, rd_neS⟩
theorem xo_own {q : Addr} {i : Int} (hq : ow q = some (.lst l)) (h : L2.atI l i = some d) : IxOk X ow (.ob (.ref q)) (.int i) d := ⟨_, ix_list, rd_ixO hq h⟩
theorem xo_lst {i : Int} (h : L2.atI l i = some d) : IxOk X ow (.lst l) (.int i) d := ⟨_, ix_list, rd_ixL h⟩
theorem xo_tup {i : Int} (h : L2.atI l i = some d) : IxOk X ow (.tup l) (.int i) d := ⟨_, ix_tup, rd_ixT h⟩
theorem xo_str {z : Str} {i : Int} {c : Nat} (hl : z.length ≤ 100000) (h : L2.atI z.cps.toList i = some c) : IxOk X ow (.str z) (.int i) (.str ⟨#[c]⟩) := ⟨_, ix_str, rd_ixS hl h⟩
theorem fo_abs {i : Int} : BiOk X ow "abs" [.int i] (.int (if i < 0 then -i else i)) := ⟨_, call_abs, rc_abs⟩
theorem fo_lenL : BiOk X ow "len" [.lst l] (.int (l.length : Nat)) := ⟨_, call_len_seq, rc_lenL⟩
theorem fo_lenT : BiOk X ow "len" [.tup l] (.int (l.length : Nat)) := ⟨_, call_len_seq, rc_lenT⟩
theorem fo_lenO {q : Addr} (hq : ow q = some (.lst l)) : BiOk X ow "len" [.ob (.ref q)] (.int (l.length : Nat)) := ⟨_, call_len_seq, rc_lenO hq⟩
theorem fo_divmod {i j : Int} (h : 0 < j) (h2 : j < 1073741824) : BiOk X ow "divmod" [.int i, .int j] (.tup [.int (i / j), .int (i % j)]) := ⟨_, call_divmod, rc_divmod ⟨h, h2⟩⟩
theorem fo_max {i j : Int} (hc : X.calm = true) : BiOk X ow "max" [.int i, .int j] (.int (if j > i then j else i)) := ⟨_, call_max2 hc, rc_max⟩
theorem fo_min {i j : Int} (hc : X.calm = true) : BiOk X ow "min" [.int i, .int j] (.int (if j < i then j else i)) := ⟨_, call_min2 hc, rc_min⟩
theorem to_int {i : Int} : TyOk X ow "int" [.int i] (.int i) := ⟨_, call_int1, rc_int1⟩
/-- cup[1], part = e: the pair's first into an owned list, the second into a slot -/
theorem rn_setiName {q : Addr} {n : Int} {j m kk : Nat} {x : Str} {sp np tp : Pos} {u v : D} (hc : X.calm = true) (h : Ve X e env ow (.tup [u, v])) (ho : Ve X o env ow (.ob (.ref q))) (hi : Ve X i env ow (.int n)) (hq : ow q = some (.lst l)) (hj : ixN l.length n = some j)
    (hN : X.N.Nodup) (hx : X.N[m]? = some x) (hl : Loc X.env.scope x) (k : ∀ B', Ex B B' → Rn X B' rest Dn (env.set m (some v)) (ou ow q (.lst (l.set j u))))
    (hs : swapsWithSole [.Tuple [.Subscript o i sp, .Name x np] kk tp] e pos.line X.env = pure false := by rfl) (hw : swappedStores [.Tuple [.Subscript o i sp, .Name x np] kk tp] e X.env = pure none := by rfl)
    (h1 : (assignEach [.Tuple [.Subscript o i sp, .Name x np] kk tp] X.env).map (·.2) = [assign (.Tuple [.Subscript o i sp, .Name x np] kk tp) X.env] := by rfl)
    (hg : PG X (.Tuple [.Subscript o i sp, .Name x np] kk tp) (gTup X.K 2 (gCons (gSub (WpE X o) (WpE X i) rSetL) (gCons (gName m) gNil)))) :
    Rn X B (.Assign [.Tuple [.Subscript o i sp, .Name x np] kk tp] e pos :: rest) Dn env ow := rn_one ⟨_, ps_asg pe_can hg hs hw h1, fun σ F H eB s w => h σ F H _ s w fun F1 H1 y e1 w1 r1 => by
  cases r1 with
  | tup g1 s1 =>
    cases s1 with
    | cons r2 s2 =>
      cases s2 with
      | cons r3 s3 =>
        cases s3
        refine ⟨_, _, rfl, Evl.ex_t w1.ex g1, rfl, _, _, rfl, ?_⟩
        refine ho σ F1 H1 _ (s.mono e1) w1 fun F2 H2 ov e2 w2 r4 => hi σ F2 H2 _ (s.mono (e1.trans e2)) w2 fun F3 H3 iv e3 w3 r5 => ?_
        cases r4
        cases r5
        obtain ⟨_, xs, g, sx⟩ := w3.own q _ hq
        exact ⟨q, xs, n, j, rfl, rfl, g, by rw [sx.length]; exact hj, _, _, rfl, rfl, k F3 (eB.trans (e1.trans (e2.trans e3))) _ F3 _ (Evl.Ex.refl F3) ((s.mono (e1.trans (e2.trans e3))).set (r3.mono (e2.trans e3)) m) (w3.setL hq (sx.set (r2.mono (e2.trans e3)) j))⟩⟩
end
end Vd

set_option Elab.async false
set_option linter.all false
set_option maxRecDepth 100000
set_option maxHeartbeats 4000000
/-! An own exception class called with keywords too, whatever built-in class it stands on. -/
namespace Xc
open PySem PySem.W PySem.HandSPX
section
variable {M : Model} {prog : Program} {w : World} {A : Around} {R : Result → Shared → Prop} {h : Heap} {g : Array GenState} {d : Drawn} {t : Nat} {os : OsState}
variable {nm q : Str} {C N : Addr} {bs bm bmB : List Value} {hdct : Bool} {sn : List Str} {sub : List Value} {ab : Bool} {col : Option Bool} {dd : Option Addr} {k0 k1 k2 k3 k5 : Option Value} {B newId initId : String}
variable {rest : List Value} {kw : List (Str × Value)}
local macro_rules | `(tactic| walk_at "xc step") => `(tactic| wp_step)
theorem check_kw {E : Value → Shared → Prop} {Q : Unit → Shared → Prop} (FB : ExcBaseFacts B newId initId bmB) (same : ∀ T : String, bm.contains (.type T) = bmB.contains (.type T))
    (hC : h.get? C = some (excClassObj nm q C N bs bm hdct sn sub ab col dd k0 k1 k2 k3 k5 newId)) (hq : Q () ⟨h, g, d, t, os⟩) :
    wpAny M A (checkBuiltinCall newId ⟨.ref C :: rest, kw⟩) Q E ⟨h, g, d, t, os⟩ := by
  have inB : (Value.ref C :: bm).contains (.type B) = true := by
    rw [List.contains_cons, same, FB.hasB]
    simp
  have ns := FB.noStar
  simp only [checkBuiltinCall, FB.newKind, FB.newSplit, FB.newRow]
  repeat
    first
    | refine wpAny_loadPart_at hC ?_
    | (refine wpAny_isSubtype_exc hC ?_
       rw [inB])
    | refine wpAny_staticBase_exc hC ?_
    | refine wpAny_madeBy_exc hC ?_
    | simp only [bne_self_eq_false, if_false, Bool.false_eq_true]
    | wp_step
  exact hq
theorem new_kw (FB : ExcBaseFacts B newId initId bmB) (same : ∀ T : String, bm.contains (.type T) = bmB.contains (.type T)) (short : rest.length ≤ sizeLine)
    (hC : h.get? C = some (excClassObj nm q C N bs bm hdct sn sub ab col dd k0 k1 k2 k3 k5 newId))
    (hq : R (.ok (.ret (.ref (h.objs.size + 1)))) ⟨(h.push (kdv_tup rest)).push (excO C h.objs.size), g, d, t, os⟩) :
    codeAny (model prog w) A (.builtin newId ⟨.ref C :: rest, kw⟩) R ⟨h, g, d, t, os⟩ := by
  have inB : (Value.ref C :: bm).contains (.type B) = true := by
    rw [List.contains_cons, same, FB.hasB]
    simp
  have inA : (Value.ref C :: bm).contains (.type "AttributeError") = false := by
    rw [List.contains_cons, same, FB.noAttr]
    rfl
  have inN : (Value.ref C :: bm).contains (.type "NameError") = false := by
    rw [List.contains_cons, same, FB.noName]
    rfl
  have ends := FB.ends
  refine codeAny_builtinAt FB.entry ?_
  unfold Builtin.«BaseException.__new__»
  refine wpAt_bind ?_
  show wpAt _ _ _ (stack >>= _) _ _ _
  refine wpAt_bind (wpAt_stack fun p below => ?_)
  refine wpAt_of_wpAny ?_
  wp_walk
  refine wpAt_of_wpAny ?_
  rw [FB.owner]
  repeat
    first
    | with_reducible refine wpAny_madeHere_exc FB.canon hC ?_
    | with_reducible refine wpAny_loadPart_at hC ?_
    | (with_reducible refine wpAny_isSubtype_exc hC ?_
       first
       | rw [inB]
       | rw [inA]
       | rw [inN])
    | wp_step
  show R _ _
  rw [Heap.size_push]
  exact hq
theorem type_kw {E : Value → Shared → Prop} {fI : Addr} {Q : Fin → Shared → Prop} (FB : ExcBaseFacts B newId initId bmB) (same : ∀ T : String, bm.contains (.type T) = bmB.contains (.type T)) (short : rest.length ≤ sizeLine)
    (hC : h.get? C = some (excClassObj nm q C N bs bm hdct sn sub ab col dd k0 k1 k2 k3 k5 newId))
    (hi : Looks (model prog w) h (typeLookup (.ref C) "__init__") (some (.ref fI))) (hb : ∀ self, Looks (model prog w) h (bindSpecial (.ref fI) self) (.ref fI, [self]))
    (hq : codeAny (model prog w) A (.call (.ref fI) ⟨.ref (h.objs.size + 1) :: rest, kw⟩) (fun r s' => match r with | .ok (.ret v) => v = .none ∧ Q (.done (.ret (.ref (h.objs.size + 1)))) s' | .ok _ => False | .error e => E e s')
      ⟨(h.push (kdv_tup rest)).push (excO C h.objs.size), g, d, t, os⟩) :
    wpAny (model prog w) A (Builtin.«type.__call__» ⟨.ref C :: rest, kw⟩) Q E ⟨h, g, d, t, os⟩ := by
  repeat
    first
    | with_reducible refine wpAny_loadPart_at hC ?_
    | with_reducible refine wpAny_madeBy_exc hC ?_
    | wp_step
  refine codeAny_call_builtin_code (Code.quiet_builtin _ FB.quiet) (check_kw FB same hC ?_)
  refine new_kw FB same short hC ?_
  show wpAny _ _ _ _ _ _
  have kp : ∀ b o, h.get? b = some o → ((h.push (kdv_tup rest)).push (excO C h.objs.size)).get? b = some o := fun b o e => by
    refine Heap.get?_push_of_some _ ?_
    exact Heap.get?_push_of_some _ e
  have hC' := kp _ _ hC
  have hx : ((h.push (kdv_tup rest)).push (excO C h.objs.size)).get? (h.objs.size + 1) = some (excO C h.objs.size) := by heap_get
  have inC : (Value.ref C :: bm).contains (.ref C) = true := by simp
  have i1 := hi.keeps kp
  have b1 := (hb (.ref (h.objs.size + 1))).keeps kp
  unfold isInstance
  repeat
    first
    | with_reducible refine wpAny_loadPart_at hx ?_
    | (with_reducible refine wpAny_isSubtype_exc hC' ?_
       rw [inC])
    | wp_step
  show wpAny _ _ (typeLookup (.ref C) _) _ _ _
  refine i1.at ?_
  refine wpAny_holding (wpAny_bind (b1.at ?_))
  refine wpAny_bind (wpAny_call (codeAny_mono hq fun r s' z => ?_))
  rcases r with e | (v | _ | _ | _) <;> first | exact z | exact z.elim | skip
  obtain ⟨rfl, z⟩ := z
  first
    | exact wpAny_pure (wpAny_pure z)
    | (wp_walk; exact z)
theorem call_kw {fI : Addr} (FB : ExcBaseFacts B newId initId bmB) (same : ∀ T : String, bm.contains (.type T) = bmB.contains (.type T)) (short : rest.length ≤ sizeLine)
    (hC : h.get? C = some (excClassObj nm q C N bs bm hdct sn sub ab col dd k0 k1 k2 k3 k5 newId))
    (hi : Looks (model prog w) h (typeLookup (.ref C) "__init__") (some (.ref fI))) (hb : ∀ self, Looks (model prog w) h (bindSpecial (.ref fI) self) (.ref fI, [self]))
    (hq : codeAny (model prog w) (A.under (.builtin "type.__call__" ⟨.ref C :: rest, kw⟩)) (.call (.ref fI) ⟨.ref (h.objs.size + 1) :: rest, kw⟩) (InitBack (h.objs.size + 1) R) ⟨(h.push (kdv_tup rest)).push (excO C h.objs.size), g, d, t, os⟩) :
    codeAny (model prog w) A (.call (.ref C) ⟨rest, kw⟩) R ⟨h, g, d, t, os⟩ := by
  have f1 := tc_lookup
  have f2 := tc_bind (.ref C)
  have isT : (⟨h, g, d, t, os⟩ : Shared).TypeIs (.ref C) "type" := ⟨_, hC, rfl⟩
  refine codeAny_of_tree ?_
  show wpAny _ _ (callAny (.ref C) _) _ _ _
  repeat
    any_goals
      first
      | assumption
      | with_reducible refine wpAny_loadPart_at hC ?_
      | wp_step
  refine ⟨rfl, ?_⟩
  refine codeAny_call_builtin_at (Code.quiet_builtin _ (by decide +kernel)) entry_typeCall ?_
  refine wpAny_check_type_call_sub hC (type_kw FB same short hC hi hb ?_)
  refine codeAny_mono hq fun r s' z => ?_
  rcases r with e | (v | _ | _ | _) <;> exact z
end
end Xc

set_option Elab.async false
set_option linter.all false
set_option maxRecDepth 100000
set_option maxHeartbeats 4000000
/-! Own exceptions as values: their making, their one field, what they are instances of. -/
namespace Xc
open PySem PySem.W
section
open Builtin Builtin.ObjectAttr PySem.HandSPX
variable {prog : Program} {w : World} {A : Around} {R : Result → Shared → Prop} {hp : Heap} {g : Array GenState} {d : Drawn} {t : Nat} {os : OsState}
/-- the first store into a fresh exception, whatever built-in class stands below -/
theorem osa_fresh {K : Frag} {name : Str} {tk : Tok} {v : Value} {x C t1 : Addr} {B : String} {bmB : List Value} (SF : StoreFacts B bmB "object.__setattr__" "object") (X : K.In hp) (hx : hp.get? x = some (excO C t1)) (ov : excOver K C bmB = true) (hn : findIn K (.ref C) name = some none) (hh : hasDictIn K C = true)
    (hq : ∀ h' tk' dx, (∀ b o, b ≠ x → hp.get? b = some o → h'.get? b = some o) → hp.objs.size ≤ dx → dx ≠ x → h'.get? x = some { cls := .ref C, dict := some dx, data := .fields #[.ref t1, .none, .none, .none, .bool false, .none] } →
      h'.Ns1 dx (fun y => if y = name then some v else none) → R (.ok (.ret .none)) ⟨h', g, d, tk', os⟩) :
    codeAny (model prog w) A (.call (.builtin "object.__setattr__") ⟨[.ref x, .str name tk, v], []⟩) R ⟨hp, g, d, t, os⟩ := by
  have ht : takerIn K C name = some none := by
    unfold takerIn
    rw [hn]
    rfl
  refine osa_openX (s := ⟨hp, g, d, t, os⟩) (od := none) SF X ⟨hx, rfl, rfl, trivial⟩ ov ht fun b => ?_
  obtain ⟨cd, hc, hd'⟩ := any_some hh
  have hxs : x ≠ hp.objs.size := Nat.ne_of_lt (Heap.lt_size hx)
  have hcls : Looks (model prog w) hp (classData C) cd := looks_clsIn X hc
  show wpAny _ _ (storeInOwnDict (.ref x) (.ref C) (.str name tk) name v b) _ _ _
  obtain ⟨nm, bs, mro, ns, qn, hd, sn, sb, ab, col, del⟩ := cd
  dsimp only at hd'
  subst hd'
  unfold storeInOwnDict ownDictForStores
  repeat
    first
    | with_reducible refine PySem.HandSPX.store_in_new ?_ ?_
    | with_reducible refine wpAny_loadPart_at hx ?_
    | with_reducible refine hcls.at ?_
    | wp_step
  · refine ⟨_, #[], _, (Heap.get?_update_ne _ _ _ _ hxs.symm).trans (Heap.get?_push_at rfl rfl), rfl, ?_, fun _ => rfl⟩
    intro e he
    simp at he
  · intro h' tk' hn' hs
    have hx1 : (hp.push { cls := .type "dict", data := .dict #[] }).get? x = some (excO C t1) := Heap.get?_push_of_some _ hx
    refine hq h' tk' hp.objs.size (fun b o hb ho => ?_) (Nat.le_refl _) hxs.symm ?_ hn'
    · refine (hs.2 b (Nat.ne_of_lt (Heap.lt_size ho))).trans ?_
      exact (Heap.get?_update_ne _ _ _ _ hb).trans (Heap.get?_push_of_some _ ho)
    · refine (hs.2 x hxs).trans ?_
      exact Heap.get?_update_self _ hx1 rfl
end
end Xc
namespace Vd
open PySem L2
/-- what the written part says of an own exception class at C whose __init__ is the def at fI and whose instances may have the field f -/
structure XcC (K : PySem.W.Frag) (C fI : Addr) (B newId initId : String) (bmB : List Value) (f : Str) : Prop where
  FB : ExcBaseFacts B newId initId bmB
  SF : StoreFacts B bmB "object.__setattr__" "object"
  q : PySem.W.excInitIn K C bmB newId = true
  ov : PySem.W.excOver K C bmB = true
  sa : PySem.W.findIn K (.ref C) "__setattr__" = some (some (.builtin "object.__setattr__"))
  ga : PySem.W.findIn K (.ref C) "__getattribute__" = some (some (.builtin "BaseException.__getattribute__"))
  gg : PySem.W.findIn K (.ref C) "__getattr__" = some none
  no : PySem.W.findIn K (.ref C) f = some none
  ini : PySem.W.findIn K (.ref C) "__init__" = some (some (.ref fI))
  tyI : PySem.W.typeIn K (.ref fI) = some (.type "function")
  kC : PySem.W.keepIn K (.ref C) = true
  ex : PySem.W.subIn K (.ref C) (.type "BaseException") = some true
  hd : PySem.W.hasDictIn K C = true
  cl : PySem.W.findIn K (.ref C) "__class__" = some (some (.builtin "object.__class__"))
  mo : PySem.W.mroIn K C (.type "object") = some true
/-- of the built-in __class__ -/
structure XcO (K : PySem.W.Frag) : Prop where
  sp : PySem.W.specialIn K (.builtin "object.__class__") "__get__" = some (some (.builtin "getset_descriptor.__get__"))
  tk : PySem.W.takesIn K (.builtin "object.__class__") = some true
theorem any_isSome {α : Type} {o : Option α} {p : α → Bool} (h : o.any p = true) : o.isSome = true := by
  cases o with
  | none => cases h
  | some a => rfl
section
variable {X : Cx} {pins : List (Addr × Obj)} {σ : L2.St} {H : Hp} {s : Shared} {a C fI dx : Addr} {f : Str} {y : V} {u : Value} {Q : Unit → Shared → Prop} {E : Value → Shared → Prop} {A : Around} {B newId initId : String} {bmB : List Value}
theorem ost_first (T : XcC X.K C fI B newId initId bmB f) (I : Inv X pins σ H s) (e : H a = some (exo a C none)) (ry : RelV y u)
    (h : ∀ dx s', H dx = none → dx ≠ a → Inv X pins σ (upd (upd H dx (exd dx [(f, y)])) a (exo a C (some dx))) s' → Q () s') : wpAny (model X.prog X.w) A (setAttr (.ref a) f u) Q E s := by
  obtain ⟨t1, ho⟩ := exo_at I.hok e
  obtain ⟨hp, g, d, t, os⟩ := s
  refine PySem.W.set_plain I.kIn (ox := PySem.HandSPX.excO C t1) (od := none) ⟨ho, rfl, rfl, trivial⟩ T.sa ?_
  refine Xc.osa_fresh T.SF I.kIn ho T.ov T.no T.hd (fun h' tk' dx k dn dne hx hn => ?_)
  have hnd : H dx = none := I.hok.fresh dn
  have nd : ∀ {b : Addr} {o : Obj}, hp.get? b = some o → b ≠ dx := fun {b o} q =>
    Nat.ne_of_lt (Nat.lt_of_lt_of_le (Heap.lt_size q) dn)
  have na : ∀ {b : Addr}, H b = none → b ≠ a := fun {b} n z => by
    subst z
    rw [e] at n
    cases n
  have U : Un X.fs [] H (upd (upd H dx (exd dx [(f, y)])) a (exo a C (some dx))) hp h' := by
    refine ⟨fun b o q n _ _ => k b o (na n) q, fun b o q n _ _ => ⟨o.slots, k b o (na n) q⟩, fun b o q n _ => ?_, fun b o q _ => ?_, fun b xs q => ?_, fun b o v q => ?_, fun b ps q => ⟨#[], ?_⟩⟩
    · rw [upd_ne (na n), upd_ne (nd q)]
      exact n
    · by_cases hb : b = a
      · subst hb
        exact ⟨_, hx⟩
      · exact ⟨o, k b o hb q⟩
    · rw [upd_ne (at_ne e q exo_tup), upd_ne (ne_of_none q hnd)]
      exact q
    · rw [upd_ne (at_ne e q exo_frz), upd_ne (ne_of_none q hnd)]
      exact q
    · rw [upd_ne (at_ne e q exo_tbl), upd_ne (ne_of_none q hnd), q]
      simp
  refine h dx _ hnd dne (I.un (t' := tk') U fun b o q => ?_)
  by_cases hb : b = a
  · subst hb
    rw [upd_same] at q
    cases q
    exact exo_ok hx
  · rw [upd_ne hb] at q
    by_cases hd : b = dx
    · subst hd
      rw [upd_same] at q
      cases q
      exact exd_ok hn (relO_put (fs := []) ry fun g => True.intro)
    · rw [upd_ne hd] at q
      refine (I.hok b o q).stay (fun c v hc z => k c v ?_ z) (fun c hc => ?_) (fun c xs hc => ?_)
      · rcases hc with hc | hc
        · rw [hc]
          exact hb
        · exact at_ne e hc exo_own
      · rw [upd_ne (at_ne e hc exo_own), upd_ne (ne_of_none hc hnd)]
        exact hc
      · rw [upd_ne (at_ne e hc exo_tup), upd_ne (ne_of_none hc hnd)]
        exact hc
end
/-- self.f = e -/
def tOsx (a0 C : Addr) (f : Str) (to te : TE) : TS := fun Dn σ H => te σ H fun y H1 => to σ H1 fun x H2 => x = .ref a0 ∧ H2 a0 = some (exo a0 C none) ∧ ∀ dx, H2 dx = none → dx ≠ a0 → Dn.nx σ (upd (upd H2 dx (exd dx [(f, y)])) a0 (exo a0 C (some dx)))
theorem ps_osx {X : Cx} {o e : Expr} {to te : TE} {a0 C fI : Addr} {f : Str} {p' pos : Pos} {B newId initId : String} {bmB : List Value} (T : XcC X.K C fI B newId initId bmB f) (ho : PE X o to) (he : PE X e te) (hs : swapsWith e (some (.Attribute o f p')) pos.line X.env = pure false := by rfl) :
    PS X (.Assign [.Attribute o f p'] e pos) (tOsx a0 C f to te) := by
  refine ⟨fun pins s σ H Dn I h => ?_⟩
  refine plainObj_wpAny_Assign_Attribute ?_ hs
  refine thn (he.run pins s σ H _ I h) fun v s1 ⟨y, H1, I1, r1, q1⟩ => ?_
  refine thn (ho.run pins s1 σ H1 _ I1 q1) fun u s2 ⟨x, H2, I2, r2, ex, ea, q⟩ => ?_
  subst ex
  obtain rfl : u = Value.ref a0 := r2
  exact ost_first T I2 ea r1 fun dx s' n ne J => ⟨σ, _, J, q dx n ne⟩
/-- what __init__ does: with a field, without -/
def spIf (C : Addr) (f : Str) : Sp := fun vs H Q _ => ∃ (a : Addr) (v : V), vs = [.ref a, v] ∧ H a = some (exo a C none) ∧ ∀ dx, H dx = none → dx ≠ a → Q .non (upd (upd H dx (exd dx [(f, v)])) a (exo a C (some dx)))
def spI0 : Sp := fun vs H Q _ => ∃ a : Addr, vs = [.ref a] ∧ Q .non H
section
variable {P : Program} {w : World} {K : PySem.W.Frag} {mg : Str → Option Value} {base : Heap}
open PySem.Spec PyProof.Rows
theorem ok_initF {st : Stmt} {qual f : Str} {C fI : Addr} {fd : FuncData} {B newId initId : String} {bmB : List Value} (Fn : Fun K "__init__" qual st fI fd) (S : FnScope ["self", f] ["self", f] (defScope st)) (T : XcC K C fI B newId initId bmB f)
    (hb : ∀ (cdv : Value) (A : Around) (outer : List Env) (s : Shared) (H : Hp) (E : XK) (a : Addr), ∃ t, PSs (cxOf CX0 P w K mg base ["self", f] qual (defScope st) fI cdv A outer s H E).nox (defBody st) t ∧ t = tOsx a C f (tVar 0) (tVar 1)) :
    FnOk P w K mg base CX0 1 fI fd ["self", f] (spIf C f) := by
  refine Fn.ok S (fun vs H Q E h => ?_) (fun cdv A outer s H vs Q E hr h => ?_)
  · obtain ⟨a, v, rfl, _⟩ := h
    rfl
  · obtain ⟨a, v, rfl, ha, k⟩ := h
    obtain ⟨t, ht, rfl⟩ := hb cdv A outer s H E a
    exact ⟨_, ht, _, rfl, _, rfl, rfl, ha, k⟩
theorem ok_init0 {st : Stmt} {qual : Str} {fI : Addr} {fd : FuncData} (Fn : Fun K "__init__" qual st fI fd) (S : FnScope ["self"] ["self"] (defScope st))
    (hb : ∀ (cdv : Value) (A : Around) (outer : List Env) (s : Shared) (H : Hp) (E : XK), PSs (cxOf CX0 P w K mg base ["self"] qual (defScope st) fI cdv A outer s H E).nox (defBody st) tNext) :
    FnOk P w K mg base CX0 1 fI fd ["self"] spI0 := by
  refine Fn.ok S (fun vs H Q E h => ?_) (fun cdv A outer s H vs Q E hr h => ?_)
  · obtain ⟨a, rfl, _⟩ := h
    rfl
  · obtain ⟨a, rfl, k⟩ := h
    exact ⟨_, hb cdv A outer s H E, k⟩
end
/-! ### the making -/
section
open PySem.Spec PyProof.Rows
variable {X : Cx} {C fI : Addr} {f : Str} {B newId initId : String} {bmB : List Value} {fd : FuncData} {ps : List Str} {sp : Sp}
/-- the class is called: us, kw as they bind -/
theorem run_exc {pins : List (Addr × Obj)} {σ : L2.St} {H1 : Hp} {s1 : Shared} {Q : VK} {us ws : List Value} {ks : List Str} {vs : List V} {k : Nat} (T : XcC X.K C fI B newId initId bmB f) (F1 : FnOk X.prog X.w X.K X.mg X.base CX0 k fI fd ps sp) (hr : Room (k + 1) X.A)
    (I1 : Inv X pins σ H1 s1) (hus : us.length ≤ sizeLine) (hb : ∀ (s : Shared) (x : Addr), X.K.In s.heap → BindsTo s fd ⟨.ref x :: us, ks.zip ws⟩ (ps.zip (.ref x :: (us ++ ws)))) (rv : Vals vs (us ++ ws))
    (h : ∀ a, H1 a = none → sp (.ref a :: vs) (upd H1 a (exo a C none)) (fun v H2 => v = .non ∧ Q (.ref a) H2) E0) :
    wpAny (model X.prog X.w) X.A (call (.ref C) us (ks.zip ws)) (EP X pins σ Q) X.xe s1 := by
  obtain ⟨hp, g, dr, tk, os⟩ := s1
  obtain ⟨nm, N', qn, bs, bm, hdct, sn, sub, ab, col, dd, k0, k1, k2, k3, k5, hC, same⟩ := PySem.W.excInit_of I1.kIn T.q
  have hsz : hp.objs.size ≤ hp.objs.size + 1 := Nat.le_succ _
  have hn : H1 (hp.objs.size + 1) = none := I1.hok.fresh hsz
  have hq := h (hp.objs.size + 1) hn
  have kk : ∀ b o, hp.get? b = some o → ((hp.push (PySem.W.kdv_tup us)).push (PySem.HandSPX.excO C hp.objs.size)).get? b = some o := fun b o e => by
    refine Heap.get?_push_of_some _ ?_
    exact Heap.get?_push_of_some _ e
  have hget : ((hp.push (PySem.W.kdv_tup us)).push (PySem.HandSPX.excO C hp.objs.size)).get? (hp.objs.size + 1) = some (PySem.HandSPX.excO C hp.objs.size) := by heap_get
  have I2 : Inv X pins σ (upd H1 (hp.objs.size + 1) (exo (hp.objs.size + 1) C none)) ⟨(hp.push (PySem.W.kdv_tup us)).push (PySem.HandSPX.excO C hp.objs.size), g, dr, tk, os⟩ := by
    refine I1.laid (t' := tk) ?_ hsz (exo_ok hget)
    exact kk
  have r2 : Vals (V.ref (hp.objs.size + 1) :: vs) (Value.ref (hp.objs.size + 1) :: (us ++ ws)) := .cons rfl rv
  refine wpAny_call (Xc.call_kw T.FB same hus hC (PySem.W.looks_findIn I1.kIn T.ini) (fun self => PySem.W.bind_fn I1.kIn self T.tyI) ?_)
  refine codeAny_mono (F1.run _ X.stack _ _ ⟨Value.ref (hp.objs.size + 1) :: us, ks.zip ws⟩ (Value.ref (hp.objs.size + 1) :: (us ++ ws)) _ _ E0 (hr.make C us (ks.zip ws)) (I2.env0.make C us (ks.zip ws)) (hb _ _ I2.kIn) r2 hq) fun r s' hq' => ?_
  cases r with
  | error e => exact (pass0 (X := X) pins σ _ _ e s' I2 hq')
  | ok fl =>
    cases fl with
    | ret u =>
      obtain ⟨v, H', I3, rv, ev, q3⟩ := I2.after hq'
      subst ev
      exact ⟨rv, ⟨V.ref (hp.objs.size + 1), H', I3, rfl, q3⟩⟩
    | next => exact False.elim hq'
    | brk => exact False.elim hq'
    | cont => exact False.elim hq'
def tXc (C : Addr) (sp : Sp) (ta : TA) : TE := fun σ H Q => ta σ H fun vs H1 => vs.length ≤ 1000 ∧ ∀ a, H1 a = none → sp (.ref a :: vs) (upd H1 a (exo a C none)) (fun v H2 => v = .non ∧ Q (.ref a) H2) E0
theorem pe_xc1 {k : Nat} {x : Str} {e : Expr} {te : TE} {p pos : Pos} (T : XcC X.K C fI B newId initId bmB f) (F1 : FnOk X.prog X.w X.K X.mg X.base CX0 k fI fd ps sp) (hr : Room (k + 1) X.A) (hb : Binds X.K fd ps []) (hl : ps.length = 2) (hg : Gl X x) (hm : X.mg x = some (.ref C)) (ha : PE X e te)
    (hdb : (x == ("__debug__" : Str)) = false := by decide) (he : starEach (e :: []) X.env = (false, eval e X.env) :: starEach [] X.env := by rfl) (hpl : (backTo pos (starEach [] X.env)).any (·.1) = false := by rfl) :
    PE X (.Call (.Name x p) [e] [] pos) (tXc C sp (tCons te tNil)) := by
  refine ⟨fun pins s σ H Q I h => ?_⟩
  refine wpAny_Call_Name_kw (ld_glob I hg hm ?_ hdb)
  refine PySem.W.callWith_K (h₀ := X.base) I.ok.mod.kin T.kC (thn ((pa_cons ha pa_nil he).run pos pins s σ H _ I h) fun us s1 ⟨vs, H1, I1, r1, hz, q1⟩ => ⟨I1.kIn, ?_⟩) he hpl
  have hl2 : ∀ a, sp (.ref a :: vs) (upd H1 a (exo a C none)) (fun v H2 => v = .non ∧ Q (.ref a) H2) E0 → us.length + 1 = ps.length := fun a z => by
    have y := F1.len _ _ _ _ z
    rw [List.length_cons, r1.length] at y
    exact y
  have hn : H1 (s1.heap.objs.size) = none := I1.hok.fresh (Nat.le_refl _)
  have hu := hl2 _ (q1 _ hn)
  refine run_exc (us := us) (ws := []) (ks := []) (vs := vs) T F1 hr I1 ?_ (fun s x X1 => ?_) (by rw [List.append_nil]; exact r1) q1
  · rw [← r1.length, sizeLine_eq]
    omega
  · have z := hb s (.ref x :: us) X1 (by rw [List.append_nil, List.length_cons]; exact hu)
    rw [List.append_nil] at z
    rw [List.append_nil]
    exact z
theorem pe_xc0 {k : Nat} {x : Str} {p pos : Pos} (T : XcC X.K C fI B newId initId bmB f) (F1 : FnOk X.prog X.w X.K X.mg X.base CX0 k fI fd ps sp) (hr : Room (k + 1) X.A) (hb : Binds X.K fd ps []) (hl : ps.length = 1) (hg : Gl X x) (hm : X.mg x = some (.ref C)) (hdb : (x == ("__debug__" : Str)) = false := by decide) :
    PE X (.Call (.Name x p) [] [] pos) (tXc C sp tNil) := by
  refine ⟨fun pins s σ H Q I h => ?_⟩
  refine wpAny_Call_Name_kw (ld_glob I hg hm ?_ hdb)
  refine PySem.W.callWith_K0 I.kIn T.kC ?_
  obtain ⟨_, q1⟩ := h
  refine run_exc (us := []) (ws := []) (ks := []) (vs := []) T F1 hr I (by show 0 ≤ sizeLine; exact Nat.zero_le _) (fun s x X1 => ?_) .nil q1
  have z := hb s [.ref x] X1 (by rw [List.append_nil, hl]; rfl)
  rw [List.append_nil] at z
  exact z
/-- one argument by its name -/
theorem pe_xck {k : Nat} {x fn : Str} {e : Expr} {p pos kp : Pos} {tk : TA} (T : XcC X.K C fI B newId initId bmB f) (F1 : FnOk X.prog X.w X.K X.mg X.base CX0 k fI fd ps sp) (hr : Room (k + 1) X.A) (hb : ∀ (s : Shared) (x : Addr) (u : Value), X.K.In s.heap → BindsTo s fd ⟨[.ref x], [(fn, u)]⟩ (ps.zip [.ref x, u]))
    (hg : Gl X x) (hm : X.mg x = some (.ref C)) (hkw : PK X [⟨some fn, e, kp⟩] tk)
    (hall : (backToKw pos (keywordEach [⟨some fn, e, kp⟩] X.env)).all (·.1.isSome) = true := by rfl) (hks : (backToKw pos (keywordEach [⟨some fn, e, kp⟩] X.env)).filterMap (·.1) = [fn] := by rfl) (hdb : (x == ("__debug__" : Str)) = false := by decide)
    (hpl : ((backTo pos (starEach [] X.env)).any (·.1) || (backToKw pos (keywordEach [⟨some fn, e, kp⟩] X.env)).any (·.1.isNone)) = false := by rfl) :
    PE X (.Call (.Name x p) [] [⟨some fn, e, kp⟩] pos) (fun σ H Q => tk σ H fun zs H2 => zs.length = 1 ∧ ∀ a, H2 a = none → sp (.ref a :: zs) (upd H2 a (exo a C none)) (fun v H3 => v = .non ∧ Q (.ref a) H3) E0) := by
  refine ⟨fun pins s σ H Q I h => ?_⟩
  refine wpAny_Call_Name_kw (ld_glob I hg hm ?_ hdb)
  refine PySem.W.callWith_KW0 (h₀ := X.base) I.ok.mod.kin T.kC hall ?_ hpl
  refine thn (hkw.run pos pins s σ H _ I h) fun ws s2 ⟨zs, H2, I2, rz, l1, q2⟩ => ⟨I2.kIn, ?_⟩
  rw [hks]
  have hw : ws.length = 1 := rz.length.symm.trans l1
  match ws, hw with
  | [u], _ => exact run_exc (us := []) (ws := [u]) (ks := [fn]) (vs := zs) T F1 hr I2 (by show 0 ≤ sizeLine; exact Nat.zero_le _) (fun s x X1 => hb s x u X1) rz q2
end
end Vd

set_option Elab.async false
set_option linter.all false
set_option maxRecDepth 100000
set_option maxHeartbeats 4000000
namespace Vd
open PySem L2
open PySem.Spec PyProof.Rows
/-! ### data as the library's own: texts of things, deep equality -/
mutual
def D.py : D → PyData
  | .non => .none
  | .bl b => .bool b
  | .int i => .int i
  | .str x => .str x
  | .lst l => .list (pyL l)
  | .rol l => .list (pyL l)
  | .tup l => .tuple (pyL l)
  | .dct _ => .none
  | .ins _ _ => .none
  | .exc _ _ => .none
  | .ob _ => .none
def pyL : List D → List PyData
  | [] => []
  | d :: l => d.py :: pyL l
end
mutual
def D.plain : D → Bool
  | .non => true
  | .bl _ => true
  | .int _ => true
  | .str _ => true
  | .lst l => plainL l
  | .rol l => plainL l
  | .tup l => plainL l
  | .dct _ => false
  | .ins _ _ => false
  | .exc _ _ => false
  | .ob _ => false
def plainL : List D → Bool
  | [] => true
  | d :: l => d.plain && plainL l
end
section
variable {K : PySem.W.Frag} {F H : Hp}
mutual
theorem Rp.dp (e : Ex F H) : ∀ {v : V} {d : D}, Rp K F v d → d.plain = true → Dp K H v d.py
  | _, _, .non, _ => .non
  | _, _, .bl b, _ => .bl b
  | _, _, .int i, _ => .int i
  | _, _, .str x, _ => .str x
  | _, _, .lst h r, p => .lst (SqL.of (e _ _ h)) (Rps.dp e r p)
  | _, _, .rol h r, p => .lst (Evl.ex_l e h) (Rps.dp e r p)
  | _, _, .tup h r, p => .tup (Evl.ex_t e h) (Rps.dp e r p)
theorem Rps.dp (e : Ex F H) : ∀ {v : List V} {d : List D}, Rps K F v d → plainL d = true → DpAll K H v (pyL d)
  | _, _, .nil, _ => .nil
  | _, _, .cons h r, p => by
    rw [plainL, Bool.and_eq_true] at p
    exact .cons (Rp.dp e h p.1) (Rps.dp e r p.2)
end
end
/-- repr(x), x plain -/
def rRpr (K : PySem.W.Frag) : List V → Hp → VK → Prop := fun xs H Q => ∃ x d, xs = [x] ∧ Dp K H x d ∧ d.showable = true ∧ d.hasDict = false ∧ d.shown.length ≤ sizeLine ∧ d.depth ≤ 64 ∧ Q (.str d.shown) H
section
variable {X : Cx}
theorem call_repr (hgd : X.A.guards = some []) (hu : X.A.units + 66 < cLine) : CallR X (.builtin "repr") (rRpr X.K) := by
  intro pins s σ H xs us Q I r h
  obtain ⟨x, d, rfl, hd, hs, hn, hz, hdp, q⟩ := h
  obtain ⟨u, rfl, r1⟩ := vals1 r
  obtain ⟨as, rd⟩ := Dp.reads I d x u hd r1
  have scal : ∀ {y : Str} {t : Tok}, y = d.shown → EP X pins σ Q (.str y t) { s with toks := s.toks + 1 } := fun {y t} e => by
    subst e
    exact ⟨.str _, H, I.tok _, ⟨_, rfl⟩, q⟩
  cases hd with
  | non =>
    cases r1
    exact PySem.P.repr_of_none (scal rfl)
  | bl b =>
    cases r1
    exact PySem.P.repr_of_bool (by cases b <;> exact scal rfl)
  | int i =>
    obtain ⟨t, rfl⟩ := r1
    exact PySem.P.repr_of_int (of_decide_eq_true hs) (scal rfl)
  | str y =>
    obtain ⟨t, rfl⟩ := r1
    exact PySem.P.repr_of_str (scal rfl) hz
  | lst h1 h2 =>
    cases r1
    exact repr_of_reads' rd hs (PyData.noDict_hsm hn) hgd (by omega) (fun _ _ e => e) (fun h' t tk hk => ⟨.str _, H, I.kept (t' := tk) hk, ⟨t, rfl⟩, q⟩) hz
  | tup h1 h2 =>
    cases r1
    exact repr_of_reads' rd hs (PyData.noDict_hsm hn) hgd (by omega) (fun _ _ e => e) (fun h' t tk hk => ⟨.str _, H, I.kept (t' := tk) hk, ⟨t, rfl⟩, q⟩) hz
end
/-- what is to be decided of data ahead of its text -/
def D.textOk (d : D) : Bool := d.plain && d.py.showable && !d.py.hasDict && decide (d.py.shown.length ≤ 100000) && decide (d.py.depth ≤ 64)
def D.eqOk (d : D) : Bool := d.plain && SeqAt.shaped d.py
section
variable {X : Cx} {B : Hp} {env : List (Option D)} {ow : Ow} {a b c e o i tg it elt : Expr} {es : List Expr} {d d1 d2 d3 : D} {ds l : List D} {pos : Pos} {Dn : Ends} {rest : List Stmt}
theorem fo_repr (hgd : X.A.guards = some []) (hu : X.A.units + 66 < cLine) (h : d.textOk = true) : BiOk X ow "repr" [d] (.str d.py.shown) := ⟨_, call_repr hgd hu, .mk fun F H xs Q w r k => by
  unfold D.textOk at h
  simp only [Bool.and_eq_true, Bool.not_eq_true', decide_eq_true_eq] at h
  obtain ⟨⟨⟨⟨h1, h2⟩, h3⟩, h4⟩, h5⟩ := h
  cases r with
  | cons r1 r2 =>
    cases r2
    exact ⟨_, d.py, rfl, r1.dp w.ex h1, h2, h3, Evl.sz_of h4, h5, k.here w (.str _)⟩⟩
theorem co_neD (hu : X.A.units + 64 < cLine) (h1 : d1.eqOk = true) (h2 : d2.eqOk = true) : CmpOk X ow .NotEq b d1 d2 (.bl (!PyData.eqv d1.py d2.py)) := ⟨_, op_neD hu, nomark _, .mk fun F H x y Q w r1 r2 k => by
  unfold D.eqOk at h1 h2
  simp only [Bool.and_eq_true] at h1 h2
  exact ⟨_, _, r1.dp w.ex h1.1, r2.dp w.ex h2.1, h1.2, h2.2, k.here w (.bl _)⟩⟩
theorem co_eqD (hu : X.A.units + 64 < cLine) (h1 : d1.eqOk = true) (h2 : d2.eqOk = true) : CmpOk X ow .Eq b d1 d2 (.bl (PyData.eqv d1.py d2.py)) := ⟨_, op_eqD hu, nomark _, .mk fun F H x y Q w r1 r2 k => by
  unfold D.eqOk at h1 h2
  simp only [Bool.and_eq_true] at h1 h2
  exact ⟨_, _, r1.dp w.ex h1.1, r2.dp w.ex h2.1, h1.2, h2.2, k.here w (.bl _)⟩⟩
theorem bo_rep {n : Int} (h : 0 ≤ n ∧ n ≤ 1000 ∧ l.length ≤ 1000) : BinOk X ow .Mult (.lst l) (.int n) (.lst (List.replicate n.toNat l).flatten) := ⟨_, op_rep, .mk fun F H x y Q w r1 r2 k => by
  cases r2
  cases r1 with
  | lst h1 s1 =>
    refine ⟨_, n, _, rfl, rfl, w.ex _ _ h1, by omega, by omega, ?_, fun p hp => k.new w hp (.lst upd_same (Rps.mono (w.exnew hp) ?_))⟩
    · rw [s1.length, sizeLine_eq]
      have z : l.length * n.toNat ≤ 1000 * 1000 := Nat.mul_le_mul h.2.2 (by omega)
      omega
    · generalize n.toNat = m
      induction m with
      | zero => exact .nil
      | succ m ih =>
        rw [List.replicate_succ, List.replicate_succ, List.flatten_cons, List.flatten_cons]
        exact s1.append ih⟩
/-! slices -/
def Vp (X : Cx) (e : Option Expr) (env : List (Option D)) (ow : Ow) (v : Option Int) : Prop := ∃ t, PO X e t ∧ ∀ (σ : L2.St) (F H : Hp) (Q : Option Int → Hp → Prop), Sl X.K F σ env → Wo X.K ow F H → (∀ F2 H2, Ex F F2 → Wo X.K ow F2 H2 → Q v H2) → t σ H Q
theorem vp_none : Vp X none env ow none := ⟨_, po_none, fun σ F H Q s w k => k F H (Evl.Ex.refl F) w⟩
theorem vp_some {n : Int} (h : Ve X e env ow (.int n)) : Vp X (some e) env ow (some n) := ⟨_, po_some pe_can, fun σ F H Q s w k => h σ F H _ s w fun F1 H1 v e1 w1 r1 => by
  cases r1
  exact ⟨n, rfl, k F1 H1 e1 w1⟩⟩
def cutD (l : List D) (lo hi : Option Int) : List D := (l.drop (HT.sIx l.length 0 lo)).take (HT.sIx l.length l.length hi - HT.sIx l.length 0 lo)
theorem Rps.cut {K : PySem.W.Frag} {F : Hp} {xs : List V} (r : Rps K F xs l) (lo hi : Option Int) : Rps K F (cutV xs lo hi) (cutD l lo hi) := by
  unfold cutV cutD
  rw [r.length]
  exact (r.drop _).take _
theorem ve_sliceL {lo hi : Option Expr} {vlo vhi : Option Int} {p2 : Pos} (h : Ve X e env ow (.lst l)) (h1 : Vp X lo env ow vlo) (h2 : Vp X hi env ow vhi) : Ve X (.Subscript e (.Slice lo hi none p2) pos) env ow (.lst (cutD l vlo vhi)) := .mk fun σ F H Q s w k => by
  obtain ⟨t1, p1, q1⟩ := h1
  obtain ⟨t2, p2, q2⟩ := h2
  refine wpe (pe_slice sl_list pe_can p1 p2) (h σ F H _ s w fun F1 H1 v e1 w1 r1 => q1 σ F1 H1 _ (s.mono e1) w1 fun F2 H2 e2 w2 => q2 σ F2 H2 _ (s.mono (e1.trans e2)) w2 fun F3 H3 e3 w3 => ?_)
  cases r1 with
  | lst g s1 => exact ⟨_, _, rfl, SqL.of (w3.ex _ _ ((e2.trans e3) _ _ g)), fun p hp => (k.ex ((e1.trans e2).trans e3)).new w3 hp (.lst upd_same (((s1.cut vlo vhi).mono (e2.trans e3)).mono (w3.exnew hp)))⟩
theorem ve_sliceR {lo hi : Option Expr} {vlo vhi : Option Int} {p2 : Pos} (h : Ve X e env ow (.rol l)) (h1 : Vp X lo env ow vlo) (h2 : Vp X hi env ow vhi) : Ve X (.Subscript e (.Slice lo hi none p2) pos) env ow (.lst (cutD l vlo vhi)) := .mk fun σ F H Q s w k => by
  obtain ⟨t1, p1, q1⟩ := h1
  obtain ⟨t2, p2, q2⟩ := h2
  refine wpe (pe_slice sl_list pe_can p1 p2) (h σ F H _ s w fun F1 H1 v e1 w1 r1 => q1 σ F1 H1 _ (s.mono e1) w1 fun F2 H2 e2 w2 => q2 σ F2 H2 _ (s.mono (e1.trans e2)) w2 fun F3 H3 e3 w3 => ?_)
  cases r1 with
  | rol g s1 => exact ⟨_, _, rfl, Evl.ex_l w3.ex (Evl.ex_l (e2.trans e3) g), fun p hp => (k.ex ((e1.trans e2).trans e3)).new w3 hp (.lst upd_same (((s1.cut vlo vhi).mono (e2.trans e3)).mono (w3.exnew hp)))⟩
theorem xo_rol {i : Int} (h : L2.atI l i = some d) : IxOk X ow (.rol l) (.int i) d := ⟨_, ix_list, .mk fun F H x y Q w r1 r2 k => by
  cases r2
  cases r1 with
  | rol h1 s1 =>
    obtain ⟨v, hv, rv⟩ := s1.atI h
    exact ⟨_, _, _, v, rfl, rfl, Evl.ex_l w.ex h1, hv, k.here w rv⟩⟩
theorem fo_lenR : BiOk X ow "len" [.rol l] (.int (l.length : Nat)) := ⟨_, call_len_seq, .mk fun F H xs Q w r k => by
  cases r with
  | cons r1 r2 =>
    cases r2
    cases r1 with
    | rol h1 s1 => exact ⟨_, _, rfl, .inl (Evl.ex_l w.ex h1), by rw [s1.length]; exact k.here w (.int _)⟩⟩
theorem fo_all {bs : List Bool} (hc : X.calm = true) : BiOk X ow "all" [.lst (bs.map D.bl)] (.bl (bs.all id)) := ⟨_, cr_all hc, rc_all⟩
/-! ### exceptions as values -/
theorem upd_comm {H : Hp} {a b : Addr} {o u : HO} (h : a ≠ b) : upd (upd H a o) b u = upd (upd H b u) a o := by
  funext x
  by_cases q : x = a
  · subst q
    rw [upd_ne h, upd_same, upd_same]
  · by_cases z : x = b
    · subst z
      rw [upd_same, upd_ne q, upd_same]
    · rw [upd_ne z, upd_ne q, upd_ne q, upd_ne z]
theorem upd_over {H : Hp} {a b : Addr} {o o' u : HO} (h : b ≠ a) : upd (upd (upd H a o) b u) a o' = upd (upd H b u) a o' := by
  rw [upd_comm (a := a) (b := b) (fun z => h z.symm), upd_upd]
variable {C fI : Addr} {f : Str} {B0 newId initId : String} {bmB : List Value} {fd : FuncData}
/-- the new exception with its field, frozen -/
theorem exc_new {K : PySem.W.Frag} {F H : Hp} {v : V} {Q : VK} {a dx : Addr} (w : Wo K ow F H) (k : Post K ow F (.exc C [(f, d)]) Q) (r : Rp K F v d) (ha : H a = none) (hdx : upd H a (exo a C none) dx = none) (hne : dx ≠ a) :
    Q (.ref a) (upd (upd (upd H a (exo a C none)) dx (exd dx [(f, v)])) a (exo a C (some dx))) := by
  have hd : H dx = none := by
    rw [upd_ne hne] at hdx
    exact hdx
  rw [upd_over hne]
  have w1 : Wo K ow (upd F dx (exd dx [(f, v)])) (upd H dx (exd dx [(f, v)])) := w.new hd
  have ha1 : upd H dx (exd dx [(f, v)]) a = none := by
    rw [upd_ne (Ne.symm hne)]
    exact ha
  have w2 : Wo K ow (upd (upd F dx (exd dx [(f, v)])) a (exo a C (some dx))) (upd (upd H dx (exd dx [(f, v)])) a (exo a C (some dx))) := w1.new ha1
  have e2 := (w.exnew (o := exd dx [(f, v)]) hd).trans (w1.exnew (o := exo a C (some dx)) ha1)
  exact k _ _ _ e2 w2 (.exc upd_same (by rw [upd_ne hne]; exact upd_same) (.cons (r.mono e2) .nil))
theorem ve_xc1 {x : Str} {p : Pos} (T : XcC X.K C fI B0 newId initId bmB f) (F1 : FnOk X.prog X.w X.K X.mg X.base CX0 1 fI fd ["self", f] (spIf C f)) (hr : Room 2 X.A) (hb : Binds X.K fd ["self", f] []) (hg : Gl X x) (hm : X.mg x = some (.ref C)) (h : Ve X e env ow d)
    (hdb : (x == ("__debug__" : Str)) = false := by decide) (he : starEach (e :: []) X.env = (false, eval e X.env) :: starEach [] X.env := by rfl) (hpl : (backTo pos (starEach [] X.env)).any (·.1) = false := by rfl) :
    Ve X (.Call (.Name x p) [e] [] pos) env ow (.exc C [(f, d)]) := .mk fun σ F H Q s w k => wpe (pe_xc1 T F1 hr hb rfl hg hm pe_can hdb he hpl) (h σ F H _ s w fun F1 H1 v e1 w1 r1 => ⟨by show 1 ≤ 1000; decide, fun a ha => ⟨a, v, rfl, upd_same, fun dx hdx hne => ⟨rfl, exc_new w1 (k.ex e1) r1 ha hdx hne⟩⟩⟩)
theorem ve_xck {x : Str} {p kp : Pos} (T : XcC X.K C fI B0 newId initId bmB f) (F1 : FnOk X.prog X.w X.K X.mg X.base CX0 1 fI fd ["self", f] (spIf C f)) (hr : Room 2 X.A) (hb : ∀ (s : Shared) (x : Addr) (u : Value), X.K.In s.heap → BindsTo s fd ⟨[.ref x], [(f, u)]⟩ ((["self", f] : List Str).zip [.ref x, u])) (hg : Gl X x) (hm : X.mg x = some (.ref C)) (h : Ve X e env ow d)
    (hall : (backToKw pos (keywordEach [⟨some f, e, kp⟩] X.env)).all (·.1.isSome) = true := by rfl) (hks : (backToKw pos (keywordEach [⟨some f, e, kp⟩] X.env)).filterMap (·.1) = [f] := by rfl) (hdb : (x == ("__debug__" : Str)) = false := by decide)
    (hpl : ((backTo pos (starEach [] X.env)).any (·.1) || (backToKw pos (keywordEach [⟨some f, e, kp⟩] X.env)).any (·.1.isNone)) = false := by rfl) (hkw : PK X [⟨some f, e, kp⟩] (tCons (WpE X e) tNil)) :
    Ve X (.Call (.Name x p) [] [⟨some f, e, kp⟩] pos) env ow (.exc C [(f, d)]) := .mk fun σ F H Q s w k => wpe (pe_xck T F1 hr hb hg hm hkw hall hks hdb hpl) (h σ F H _ s w fun F1 H1 v e1 w1 r1 => ⟨rfl, fun a ha => ⟨a, v, rfl, upd_same, fun dx hdx hne => ⟨rfl, exc_new w1 (k.ex e1) r1 ha hdx hne⟩⟩⟩)
theorem ve_xc0 {x : Str} {p : Pos} (T : XcC X.K C fI B0 newId initId bmB f) (F1 : FnOk X.prog X.w X.K X.mg X.base CX0 1 fI fd ["self"] spI0) (hr : Room 2 X.A) (hb : Binds X.K fd ["self"] []) (hg : Gl X x) (hm : X.mg x = some (.ref C)) (hdb : (x == ("__debug__" : Str)) = false := by decide) :
    Ve X (.Call (.Name x p) [] [] pos) env ow (.exc C []) := .mk fun σ F H Q s w k => wpe (pe_xc0 T F1 hr hb rfl hg hm hdb) ⟨by show 0 ≤ 1000; decide, fun a ha => ⟨a, rfl, rfl, k.new w ha (.exc0 upd_same)⟩⟩
end
/-! what an exception is an instance of -/
def rIsX (K : PySem.W.Frag) : List V → Hp → VK → Prop := fun xs H Q => ∃ (a C : Addr) (c : V) (u : Value) (b : Bool), xs = [.ref a, c] ∧ (H a = some (exo a C none) ∨ ∃ dx fs, H a = some (exo a C (some dx)) ∧ H dx = some (exd dx fs)) ∧ ClsV c u ∧
  PySem.W.findIn K (.ref C) "__getattribute__" = some (some (.builtin "BaseException.__getattribute__")) ∧ PySem.W.findIn K (.ref C) "__getattr__" = some none ∧ PySem.W.subIn K (.ref C) (.type "BaseException") = some true ∧ PySem.W.findIn K (.ref C) "__class__" = some (some (.builtin "object.__class__")) ∧
  PySem.W.mroIn K C (.type "object") = some true ∧ (PySem.W.clsIn K C).isSome = true ∧ XcO K ∧ PySem.W.kitOne K (.ref C) u = some b ∧ Q (.bl b) H
section
variable {X : Cx}
theorem exo_inst {pins : List (Addr × Obj)} {σ : L2.St} {H : Hp} {s : Shared} {a C : Addr} (I : Inv X pins σ H s) (h : H a = some (exo a C none) ∨ ∃ dx fs, H a = some (exo a C (some dx)) ∧ H dx = some (exd dx fs)) : ∃ ox od, PySem.W.InstAt s.heap a ox C od := by
  rcases h with h | ⟨dx, fs, h, h2⟩
  · obtain ⟨t1, ho⟩ := exo_at I.hok h
    exact ⟨_, none, ho, rfl, rfl, trivial⟩
  · obtain ⟨t1, ho⟩ := exo_at I.hok h
    obtain ⟨mA, ⟨o, es, ep, e1, e2⟩, _⟩ := exd_at I.hok h2
    exact ⟨_, some o, ho, rfl, rfl, e1⟩
theorem call_isx : CallR X (.builtin "isinstance") (rIsX X.K) := by
  intro pins s σ H xs us Q I r h
  obtain ⟨a, C, c, u, b, rfl, hx, kc, g1, g2, g3, g4, g5, g6, O, e, q⟩ := h
  obtain ⟨u1, u2, rfl, r1, r2⟩ := vals2 r
  have e2 := kc.eq r2
  subst e2
  obtain rfl : u1 = Value.ref a := r1
  obtain ⟨ox, od, J⟩ := exo_inst I hx
  refine PySem.W.kia_one (PySem.W.kitx_exc g6 g1 g2 g3 g4 O.sp O.tk g5) I.kIn J e (fun z => nomatch z) fun tk => ?_
  exact ⟨.bl b, H, I.tok tk, rfl, q⟩
end
section
variable {X : Cx} {B : Hp} {env : List (Option D)} {ow : Ow} {a b c e o i tg it elt : Expr} {es : List Expr} {d d1 d2 d3 : D} {ds l : List D} {pos : Pos} {Dn : Ends} {rest : List Stmt}
variable {C fI : Addr} {f : Str} {B0 newId initId : String} {bmB : List Value}
theorem Rp.exo {K : PySem.W.Frag} {F H : Hp} {v : V} {fl : List (Str × D)} (r : Rp K F v (.exc C fl)) (e : Ex F H) : ∃ a, v = .ref a ∧ (H a = some (exo a C none) ∨ ∃ dx fs, H a = some (L2.exo a C (some dx)) ∧ H dx = some (exd dx fs)) := by
  cases r with
  | exc0 h => exact ⟨_, rfl, .inl (e _ _ h)⟩
  | exc h1 h2 r => exact ⟨_, rfl, .inr ⟨_, _, e _ _ h1, e _ _ h2⟩⟩
theorem fo_isx {fl : List (Str × D)} {cv : V} {u : Value} {t : Bool} (T : XcC X.K C fI B0 newId initId bmB f) (O : XcO X.K) (hc : ClsV cv u) (h : PySem.W.kitOne X.K (.ref C) u = some t) : BiOk X ow "isinstance" [.exc C fl, .ob cv] (.bl t) := ⟨_, call_isx, .mk fun F H xs Q w r k => by
  cases r with
  | cons r1 r2 =>
    cases r2 with
    | cons r3 r4 =>
      cases r4
      cases r3
      obtain ⟨a, rfl, ha⟩ := r1.exo w.ex
      exact ⟨a, C, cv, u, t, rfl, ha, hc, T.ga, T.gg, T.ex, T.cl, T.mo, any_isSome T.hd, O, h, k.here w (.bl _)⟩⟩
/-- a class, a built-in type as values -/
theorem ve_gobj {x : Str} {C : Addr} (hg : Gl X x) (hm : X.mg x = some (.ref C)) (hx : (x == ("__debug__" : Str)) = false := by decide) : Ve X (.Name x pos) env ow (.ob (.ref C)) := ve_glob (v := .ref C) hg hm rfl (fun _ => .ob _) hx
theorem ve_bty {x : Str} {n : String} (hg : Gl X x) (hm : X.mg x = none) (hv : bootBuiltins x = some (.type n)) (hn : x ≠ "__name__" := by decide) (hx : (x == ("__debug__" : Str)) = false := by decide) : Ve X (.Name x pos) env ow (.ob (.ty n)) := .mk fun σ F H Q s w k => wpe (pe_bltn (v := .ty n) hg hm hv rfl hn hx) (k.here w (.ob _))
/-- e.f of an exception -/
def tFx (K : PySem.W.Frag) (C : Addr) (f : Str) (te : TE) : TE := fun σ H Q => te σ H fun x H1 => ∃ a dx fs v, x = .ref a ∧ H1 a = some (exo a C (some dx)) ∧ H1 dx = some (exd dx fs) ∧ fs.lookup f = some v ∧ Q v H1
theorem pe_fx {te : TE} (T : XcC X.K C fI B0 newId initId bmB f) (he : PE X e te) (hb : attributeBase e f X.env (eval e X.env) = eval e X.env := by rfl) : PE X (.Attribute e f pos) (tFx X.K C f te) := by
  refine ⟨fun pins s σ H Q I h => ?_⟩
  refine attr_of hb ?_
  refine thn (he.run pins s σ H _ I h) fun u s1 ⟨x, H1, I1, rx, a, dx, fs, v, ex, ha, hd, hl, q⟩ => ?_
  subst ex
  obtain rfl : u = Value.ref a := rx
  obtain ⟨t1, ho⟩ := exo_at I1.hok ha
  obtain ⟨mA, hns, rel⟩ := exd_at I1.hok hd
  obtain ⟨od, hod, hlk⟩ := lookIn_ns hns
  obtain ⟨u', hu, ru⟩ := RelO.some_of (v := v) (o := mA f) (by rw [← hl]; exact rel f)
  have J : PySem.W.InstAt s1.heap a { cls := .ref C, dict := some dx, data := .fields #[.ref t1, .none, .none, .none, .bool false, .none] } C (some od) := ⟨ho, rfl, rfl, hod⟩
  refine HandSPX.exc_get I1.kIn J T.ga T.gg T.ex (PySem.W.findObj_own T.hd T.no rfl (by rw [hlk, hu])) (handed_of ru) ?_
  exact ⟨v, H1, I1.tok _, ru, q⟩
theorem ve_fx {fl : List (Str × D)} (T : XcC X.K C fI B0 newId initId bmB f) (h : Ve X e env ow (.exc C fl)) (hl : fl.lookup f = some d) (hb : attributeBase e f X.env (eval e X.env) = eval e X.env := by rfl) : Ve X (.Attribute e f pos) env ow d := .mk fun σ F H Q s w k => wpe (pe_fx T pe_can hb) (h σ F H _ s w fun F1 H1 v e1 w1 r1 => by
  cases r1 with
  | exc0 g => simp at hl
  | exc g1 g2 r2 =>
    obtain ⟨y, hy, ry⟩ := r2.look hl
    exact ⟨_, _, _, y, rfl, w1.ex _ _ g1, w1.ex _ _ g2, hy, (k.ex e1).here w1 ry⟩)
end
end Vd

set_option Elab.async false
set_option linter.all false
set_option maxRecDepth 100000
set_option maxHeartbeats 4000000
/-! The law's own call, from a promise that knows no text of a container to be under way. -/
namespace Vd
open PySem L2
open PySem.Spec PyProof.Rows
section
variable {P : Program} {w : World} {K : PySem.W.Frag} {mg mb : Str → Option Value} {k : Nat} {fa a : Addr} {fd : FuncData} {x : Str} {sp : Sp} {s1 : Shared} {vs : List Value} {ns : List Int}
theorem law_core {H : Hp} (KX : K.In s1.heap) (hns : s1.heap.Ns mainGlobals mg) (hb : s1.heap.Ns builtinsNs mb) (hbb : ∀ x : Str, x ≠ "__name__" → mb x = bootBuiltins x) (hlim : s1.heap.NoLimit) (hg : s1.gens = #[])
    (ha : s1.heap.get? a = some { cls := .type "list", data := .seq vs.toArray }) (hr : Room k callerA) (F : ∀ base : Heap, K.In base → base.Ns mainGlobals mg → FnG P w K mg base CX0 k fa fd [x] sp) (hbind : ∀ (s : Shared) (u : Value), BindsTo s fd ⟨[u], []⟩ [(x, u)])
    (hsp : sp [.ref a] H (fun v _ => v = .bl true) E0) (hO : Only H) (hok : HOk P w H s1.heap) (hA : ∀ b u, H b = some u → b = a) (hK : ∀ u, H a = some u → K.lookup a = none) :
    codeAny (model P w) callerA (.call (.ref fa) ⟨[.ref a], []⟩) (fun r s' => r = .ok (.ret (.bool true)) ∧ OldK s1.heap s'.heap ∧ s'.os = s1.os ∧ AllBare s'.gens) s1 := by
  -- what is no list of the script's kind is not tracked
  have notDict : ∀ {b : Addr} {o : Obj} {es : Array DictEntry} {ep : Nat}, s1.heap.get? b = some o → o.data = .dict es ep → H b = none := fun {b o es ep} e q => by
    cases z : H b with
    | none => rfl
    | some u =>
      obtain rfl := hA b u z
      rw [ha] at e
      cases e
      cases q
  have keepNs : ∀ {b : Addr} {m : Str → Option Value}, s1.heap.Ns b m → (hidT s1.heap H).Ns b m := fun {b m} h => by
    obtain ⟨o, es, ep, e, q, r⟩ := h
    exact ⟨o, es, ep, hidT_get e (notDict e q), q, r⟩
  have inB : K.In (hidT s1.heap H) := fun b o e => hidT_get (KX b o e) (by
    cases z : H b with
    | none => rfl
    | some u =>
      obtain rfl := hA b u z
      rw [hK u z] at e
      cases e)
  have M : Mod K mg (hidT s1.heap H) := by
    obtain ⟨mc, l1, l2⟩ := hlim
    exact ⟨inB, keepNs hns, ⟨mb, keepNs hb, hbb⟩, ⟨mc, keepNs l1, l2⟩⟩
  have env : Env0 P w K mg (hidT s1.heap H) callerA [] s1 H := by
    refine ⟨rfl, M, fun b o e => of_hidT e, ?_, trivial, fun b z => ?_, hok, .of_eq hg⟩
    · rw [hidT_size]
      exact Nat.le_refl _
    · exact absurd (show b ∈ ([] : List Addr) from z) List.not_mem_nil
  have run := (F _ inB (keepNs hns)).run callerA [] s1 H ⟨[.ref a], []⟩ [.ref a] [.ref a] _ _ rfl hr env (hbind s1 (.ref a)) (.cons rfl .nil) hsp
  refine codeAny_mono run fun r s' h => ?_
  match r, h with
  | .ok (.ret u), h =>
    obtain ⟨v, H', os, bare, un, hok', rv, q⟩ := h
    have q' : v = .bl true := q
    subst q'
    obtain rfl : u = Value.bool true := rv
    refine ⟨rfl, OldK.of_keep fun b o e => ?_, os, bare⟩
    cases z : H b with
    | none => exact un.keep b o e z (fun y => absurd (show b ∈ ([] : List Addr) from y) List.not_mem_nil) List.not_mem_nil
    | some u =>
      rcases hO b with y | ⟨ob, xs, y⟩
      · rw [z] at y
        cases y
      · obtain ⟨e1, _⟩ := hok b _ y
        obtain ⟨e2, _⟩ := hok' b _ (un.frzs b ob _ y)
        rw [e] at e1
        cases e1
        exact e2
  | .error e, h => exact h.elim
theorem law_callG (KX : K.In s1.heap) (hns : s1.heap.Ns mainGlobals mg) (hb : s1.heap.Ns builtinsNs mb) (hbb : ∀ x : Str, x ≠ "__name__" → mb x = bootBuiltins x) (hlim : s1.heap.NoLimit) (hg : s1.gens = #[])
    (ha : s1.heap.get? a = some { cls := .type "list", data := .seq vs.toArray }) (hi : IntsAre vs ns) (hl : ns.length ≤ sizeLine) (hr : Room k callerA) (F : ∀ base : Heap, K.In base → base.Ns mainGlobals mg → FnG P w K mg base CX0 k fa fd [x] sp) (hbind : ∀ (s : Shared) (u : Value), BindsTo s fd ⟨[u], []⟩ [(x, u)])
    (hsp : ∀ H : Hp, Only H → SqL K H a (ns.map V.int) → sp [.ref a] H (fun v _ => v = .bl true) E0) :
    codeAny (model P w) callerA (.call (.ref fa) ⟨[.ref a], []⟩) (fun r s' => r = .ok (.ret (.bool true)) ∧ OldK s1.heap s'.heap ∧ s'.os = s1.os ∧ AllBare s'.gens) s1 := by
  have rv := vals_ints hi
  have len := hi.length
  cases hk : K.lookup a with
  | some o =>
    have e := KX a o hk
    rw [ha] at e
    cases e
    have hS : SqL K (fun _ => none) a (ns.map V.int) := .inr ⟨_, vs.toArray, _, hk, rfl, rfl, rfl, by rw [List.size_toArray, len]; exact hl, by simpa using rv⟩
    refine law_core (H := fun _ => none) KX hns hb hbb hlim hg ha hr F hbind (hsp _ (fun _ => .inl rfl) hS) (fun _ => .inl rfl) (fun b u z => ?_) (fun b u z => ?_) (fun u z => ?_)
    · exact absurd (show (none : Option HO) = some u from z) (fun y => nomatch y)
    · exact absurd (show (none : Option HO) = some u from z) (fun y => nomatch y)
    · exact absurd (show (none : Option HO) = some u from z) (fun y => nomatch y)
  | none =>
    have at_ : (upd (fun _ => none) a (.frz { cls := .type "list", data := .seq vs.toArray } (.lst (ns.map V.int)))) a = some (.frz { cls := .type "list", data := .seq vs.toArray } (.lst (ns.map V.int))) := upd_same
    have off : ∀ b u, (upd (fun _ => none) a (.frz { cls := .type "list", data := .seq vs.toArray } (.lst (ns.map V.int)))) b = some u → b = a := fun b u z => by
      by_cases y : b = a
      · exact y
      · rw [upd_ne y] at z
        cases z
    have hO : Only (upd (fun _ => none) a (.frz { cls := .type "list", data := .seq vs.toArray } (.lst (ns.map V.int)))) := fun b => by
      by_cases y : b = a
      · subst y
        exact .inr ⟨_, _, at_⟩
      · exact .inl (upd_ne y)
    refine law_core KX hns hb hbb hlim hg ha hr F hbind (hsp _ hO (.inl (.inr ⟨_, at_⟩))) hO (fun b u z => ?_) off (fun u z => hk)
    obtain rfl := off b u z
    rw [at_] at z
    cases z
    exact ⟨ha, by rw [List.length_map]; exact hl, vs, _, rv, ha⟩
end
/-- what a law promises: handed a list of at most 63 integers, it gives True -/
def spLaw (K : PySem.W.Frag) : Sp := fun vs H Q _ => ∃ (F : Hp) (a : Addr) (ns : List Int), vs = [.ref a] ∧ Wo K (fun _ => none) F H ∧ SqL K F a (ns.map V.int) ∧ ns.length ≤ 63 ∧ ∀ H', Q (.bl true) H'
theorem walkG {l : PySem.W.OpenLaw} {k : Nat} {q : Program} {loose : List Str} {XP : (Str → Option Value) → Heap → Prop} {YP : World → Heap → Prop} {d : DefRec} {K : Params → PySem.W.Frag} {x : Str}
    (hn : l.most = some 63) (hdf : d.params.defaults = []) (hr : Room k callerA) (hY : ∀ (w : World) (h : Heap), YP w h → (K w.params).In h)
    (F : ∀ (w : World) (mg : Str → Option Value) (fa : Addr) (h : Heap), (K w.params).In h → h.Ns mainGlobals mg → mg d.name = some (.ref fa) →
      ∃ fd : FuncData, (∀ (s : Shared) (u : Value), BindsTo s fd ⟨[u], []⟩ [(x, u)]) ∧ ∀ base : Heap, (K w.params).In base → base.Ns mainGlobals mg → FnG l.prog w (K w.params) mg base CX0 k fa fd [x] (spLaw (K w.params))) :
    PySem.W.WalkO q loose XP YP l.row.toRowW d [] (fun f vs => PySem.call f vs) := by
  refine Att.attach_call hn hdf fun w s0 s1 mg mb fa o pm cd doc a vs ns G Y ho hd hcd hmg hobj hints hlen hg => ?_
  have KX := hY w _ Y
  obtain ⟨fd, hb, hF⟩ := F w mg fa _ KX G.T.g hmg
  refine law_callG KX G.T.g G.T.b G.T.builtins G.T.nolimit hg hobj hints (Nat.le_trans hlen (by decide)) hr hF hb fun H hO hS => ?_
  exact ⟨H, a, ns, rfl, ⟨Evl.Ex.refl H, fun b u z => nomatch z⟩, hS, hlen, fun _ => rfl⟩
end Vd

set_option Elab.async false
set_option linter.all false
set_option maxRecDepth 100000
set_option maxHeartbeats 4000000
namespace Vd
open PySem L2
open PySem.Spec PyProof.Rows
section
variable {X : Cx} {B : Hp} {env : List (Option D)} {ow : Ow} {a b c e o i tg it elt : Expr} {es : List Expr} {d d1 d2 d3 : D} {ds l m : List D} {pos : Pos} {Dn : Ends} {rest : List Stmt}
/-- x = a + b of lists, the sum owned -/
theorem rn_setCat {x : Str} {p bp : Pos} {j : Nat} (hN : X.N.Nodup) (hi : X.N[j]? = some x) (hx : Loc X.env.scope x) (h1 : Ve X a env ow (.lst l)) (h2 : Ve X b env ow (.lst m)) (hl : l.length + m.length ≤ 100000) (k : ∀ B' q, Ex B B' → ow q = none → Rn X B' rest Dn (env.set j (some (.ob (.ref q)))) (ou ow q (.lst (l ++ m))))
    (hs : swapsWith (.BinOp a .Add b bp) (some (.Name x p)) pos.line X.env = pure false := by rfl) (hf : X.fn x = true ∨ X.env.scope.names.lookup x = some .local := by first | exact .inl rfl | exact .inr rfl | assumption) : Rn X B (.Assign [.Name x p] (.BinOp a .Add b bp) pos :: rest) Dn env ow :=
  rn_one ⟨_, ps_set hN hi hx (pe_op op_cat pe_can pe_can) hs hf, fun σ F H eB s w => h1 σ F H _ s w fun F1 H1 v1 e1 w1 r1 => h2 σ F1 H1 _ (s.mono e1) w1 fun F2 H2 v2 e2 w2 r2 => by
    cases r1 with
    | lst g1 s1 =>
      cases r2 with
      | lst g2 s2 =>
        refine ⟨_, _, _, _, rfl, rfl, w2.ex _ _ (e2 _ _ g1), w2.ex _ _ g2, Evl.sz_of (by rw [s1.length, s2.length]; exact hl), fun q hq => ?_⟩
        exact k F2 q (eB.trans (e1.trans e2)) (w2.ofree hq) _ F2 _ (Evl.Ex.refl F2) ((s.mono (e1.trans e2)).set (.ob _) j) (w2.newL hq ((s1.mono e2).append s2))⟩
theorem env_ext {α : Type} {l l' : List α} (h : l = l') {P : List α → Prop} (p : P l') : P l := h ▸ p
/-- a comprehension without a test, its result told item by item -/
theorem ve_lcZ {scope : Scope} {j : Nat} {y : Str} {py : Pos} (res : List D) (hlen : res.length = ds.length) (hc : X.calm = true) (hN : X.N.Nodup) (hi : Vi X (.Name y py) it env ow ds) (ok : BlkOk X.N X.env.scope scope [(y, j)]) (hl : ds.length ≤ 100000)
    (hg : ∀ (s : Shared) (H : Hp) (C : Addr) (cl : List (Str × Addr)) (fp : List Addr), PG (X.blk s H scope (compEnvC scope cl C X.env) fp) (.Name y py) (gName j))
    (he : ∀ (n : Nat) (d r : D) (ow' : Ow), ds[n]? = some d → res[n]? = some r → Sub ow ow' → ∀ (s : Shared) (H : Hp) (C : Addr) (cl : List (Str × Addr)) (fp : List Addr), Ve (X.blk s H scope (compEnvC scope cl C X.env) fp) elt ((env.set j none).set j (some d)) ow' r)
    (hsf : ∀ x, foldedSetIterable it X.env x = pure x := by intro _; rfl) : Ve X (.ListComp elt [⟨.Name y py, it, [], 0⟩] scope pos) env ow (.lst res) := .mk fun σ F H Q s w k0 => by
  obtain ⟨wi, pi, hw⟩ := hi
  refine wpe (pe_lc (own := [(y, j)]) (g := gName j) (tt := tYes) (te := fun σ H Q => ∀ (s : Shared) (H0 : Hp) (C : Addr) (cl : List (Str × Addr)) (fp : List Addr), WpE (X.blk s H0 scope (compEnvC scope cl C X.env) fp) elt σ H Q) hc hN pi ok hg
    (fun s0 H0 C cl fp => pts_nil) (fun s0 H0 C cl fp => ⟨fun pins s σ H Q I h => h s0 H0 C cl fp pins s I⟩) hsf) ?_
  refine hw σ F H _ s w fun J F1 H1 e1 w1 src => ?_
  intro Dl hD
  refine ⟨fun i m H => m = ds.length - i ∧ i ≤ ds.length ∧ ∃ F2 xs, Ex F1 F2 ∧ Wo X.K ow F2 H ∧ F2 Dl = none ∧ ow Dl = none ∧ H Dl = some (.lst xs) ∧ Rps X.K F2 xs (res.take i), ⟨ds.length, by simp, Nat.zero_le _, F1, [], Evl.Ex.refl F1, w1.grow hD, w1.free hD, w1.ofree hD, upd_same, .nil⟩, ?_⟩
  rintro i m H2 ⟨rfl, hi, F2, xs, e2, w2, hF2, hoD, hH2, r2⟩
  by_cases hlt : i < ds.length
  · have hdi : ds[i]? = some ds[i] := by simp [hlt]
    have hlr : i < res.length := by rw [hlen]; exact hlt
    have hri : res[i]? = some res[i] := by simp [hlr]
    have htk : res.take (i + 1) = res.take i ++ [res[i]] := by rw [List.take_add_one, hri]; rfl
    have w2' : Wo X.K (ou ow Dl (.lst (res.take i))) F2 H2 := ⟨w2.ex, fun a o q => by
      by_cases z : a = Dl
      · subst z
        rw [ou_same] at q
        cases q
        exact ⟨hF2, xs, hH2, r2⟩
      · rw [ou_ne z] at q
        exact w2.own a o q⟩
    obtain ⟨stop', go'⟩ := src F2 H2 _ i e2 w2'
    obtain ⟨hgo, hy'⟩ := go' ds[i] hdi
    refine .inr ⟨hgo, fun H3 => ∃ F3 xs, Ex F1 F3 ∧ Wo X.K ow F3 H3 ∧ F3 Dl = none ∧ ow Dl = none ∧ H3 Dl = some (.lst xs) ∧ Rps X.K F3 xs (res.take (i + 1)), fun H3 q => ⟨ds.length - (i + 1), by omega, rfl, hlt, q⟩, fun x H3 hx => ?_⟩
    obtain ⟨F3, e3, w3', r3⟩ := hy' x H3 hx
    have sub : Sub ow (ou ow Dl (.lst (res.take i))) := fun a o q => by
      rw [ou_ne (fun z => by rw [z, hoD] at q; cases q)]
      exact q
    have sl : Sl X.K F3 ((L2.wipe σ [j]).set j (some x)) ((env.set j none).set j (some ds[i])) := (((s.mono (e1.trans (e2.trans e3))).unset j).set r3 j)
    refine ⟨wipe_one, ?_⟩
    unfold tYes
    simp only [if_true]
    intro s1 H01 C1 cl1 fp1
    refine he i ds[i] res[i] _ hdi hri sub s1 H01 C1 cl1 fp1 _ F3 H3 _ sl w3' fun F5 H5 y e5 w5 r5 => ?_
    obtain ⟨n5, ys, h5, s5⟩ := w5.own Dl _ ou_same
    refine ⟨ys, h5, ?_, F5, ys ++ [y], e2.trans (e3.trans e5), ?_, n5, hoD, upd_same, ?_⟩
    · have z := s5.length
      rw [List.length_take] at z
      exact Evl.sz_lt (by omega)
    · exact (w5.setL ou_same (s5.append (.cons r5 .nil))).drop fun a o q => by
        rw [ou_ne (fun z => by rw [z, hoD] at q; cases q)]
        exact sub a o q
    · rw [htk]
      exact s5.append (.cons r5 .nil)
  · have e : i = ds.length := by omega
    subst e
    obtain ⟨stop, _⟩ := src F2 H2 ow ds.length e2 w2
    refine .inl ⟨stop (Nat.le_refl _), ?_⟩
    rw [← hlen, List.take_length] at r2
    exact k0 (upd F2 Dl (.lst xs)) H2 _ ((e1.trans e2).trans (Evl.Ex.new hF2)) (w2.freeze hF2 hH2 hoD) (.lst upd_same (r2.mono (Evl.Ex.new hF2)))
/-! the same data compared -/
mutual
theorem py_plain : ∀ d : D, d.plain = true → d.py.plain = true
  | .non, _ => rfl
  | .bl _, _ => rfl
  | .int _, _ => rfl
  | .str _, _ => rfl
  | .lst l, h => pyL_plain l h
  | .rol l, h => pyL_plain l h
  | .tup l, h => pyL_plain l h
theorem pyL_plain : ∀ l : List D, plainL l = true → PyData.plainAll (pyL l) = true
  | [], _ => rfl
  | d :: l, h => by
    rw [plainL, Bool.and_eq_true] at h
    show (d.py.plain && PyData.plainAll (pyL l)) = true
    rw [py_plain d h.1, pyL_plain l h.2]
    rfl
end
theorem eqv_self {d : D} (h : d.eqOk = true) : PyData.eqv d.py d.py = true := by
  unfold D.eqOk at h
  rw [Bool.and_eq_true] at h
  exact PySem.SeqAt.eqv_refl_plain _ (py_plain d h.1)
theorem co_neR (hu : X.A.units + 64 < cLine) (h : d.eqOk = true) : CmpOk X ow .NotEq b d d (.bl false) := by
  have z := co_neD (b := b) (ow := ow) hu h h
  rw [eqv_self h] at z
  exact z
theorem co_eqR (hu : X.A.units + 64 < cLine) (h : d.eqOk = true) : CmpOk X ow .Eq b d d (.bl true) := by
  have z := co_eqD (b := b) (ow := ow) hu h h
  rw [eqv_self h] at z
  exact z
theorem bo_to {op : Operator} (h : BinOk X ow op d1 d2 d) (q : d = d3) : BinOk X ow op d1 d2 d3 := q ▸ h
theorem co_to {op : CmpOp} (h : CmpOk X ow op b d1 d2 d) (q : d = d3) : CmpOk X ow op b d1 d2 d3 := q ▸ h
theorem co_neSR {x : Str} : CmpOk X ow .NotEq b (.str x) (.str x) (.bl false) := co_to co_neS (by simp)
/-! dicts written out: {} and {'..': n} -/
theorem ve_dict0 : Ve X (.Dict [] [] pos) env ow (.dct []) := .mk fun σ F H Q s w k => wpe pe_dnewK fun q hq => k.new w hq (.dct upd_same .nil)
end
/-! ### the cup of a law -/
section
variable {K : PySem.W.Frag}
def spCup (K : PySem.W.Frag) : Sp := fun vs H Q _ => ∃ (F : Hp) (ow : Ow) (v : V) (ns : List Int) (n : Nat), vs = [v, .int n] ∧ Wo K ow F H ∧ Rp K F v (.rol (ns.map D.int)) ∧ ∀ F' H' q x y, Ex F F' → ow q = none → Wo K (ou ow q (.lst [.int x, .int y])) F' H' → 0 ≤ x → 0 ≤ y → Q (.ref q) H'
variable {X : Cx} {env : List (Option D)} {ow : Ow} {es1 : Expr} {e1 e2 : Expr} {pos pos2 p p2 : Pos} {x1 x2 : Str} {f1 f2 : Addr} {fd1 fd2 : FuncData} {ps1 ps2 : List Str} {k1 k2 : Nat} {ns : List Int} {n : Nat}
/-- right(cup(script, spot)) -/
theorem ve_right {G : List D → Prop} {R : List D → D → Prop} {d : D} (F2 : FnG X.prog X.w X.K X.mg X.base CX0 k2 f2 fd2 ps2 (spC X.K G R)) (F1 : FnG X.prog X.w X.K X.mg X.base CX0 k1 f1 fd1 ps1 (spCup X.K)) (hgd : X.A.guards = some []) (hr1 : Room k1 X.A) (hr2 : Room k2 X.A) (hg1 : Gl X x1) (hg2 : Gl X x2) (hm1 : X.mg x1 = some (.ref f1)) (hm2 : X.mg x2 = some (.ref f2))
    (hk1 : PySem.W.keepIn X.K (.ref f1) = true) (hk2 : PySem.W.keepIn X.K (.ref f2) = true) (hb1 : Binds X.K fd1 ps1 []) (hb2 : Binds X.K fd2 ps2 []) (h1 : Ve X e1 env ow (.rol (ns.map D.int))) (h2 : Ve X e2 env ow (.int n)) (hG : G []) (hR : ∀ d', R [] d' → d' = d)
    (hd1 : (x1 == ("__debug__" : Str)) = false := by decide) (hd2 : (x2 == ("__debug__" : Str)) = false := by decide) (st1 : starEach (e1 :: [e2]) X.env = (false, eval e1 X.env) :: starEach [e2] X.env := by rfl) (st1' : starEach (e2 :: []) X.env = (false, eval e2 X.env) :: starEach [] X.env := by rfl)
    (pl1 : (backTo pos (starEach [e2] X.env)).any (·.1) = false := by rfl) (st2 : starEach (Expr.Call (.Name x1 p) [e1, e2] [] pos :: []) X.env = (false, eval (.Call (.Name x1 p) [e1, e2] [] pos) X.env) :: starEach [] X.env := by rfl) (pl2 : (backTo pos2 (starEach [] X.env)).any (·.1) = false := by rfl) :
    Ve X (.Call (.Name x2 p2) [.Call (.Name x1 p) [e1, e2] [] pos] [] pos2) env ow d := .mk fun σ F H Q s w k => by
  refine wpe (pe_callG F2 hgd hr2 hg2 hm2 hk2 hb2 .nil pass0 (pa_cons (pe_callG F1 hgd hr1 hg1 hm1 hk1 hb1 .nil pass0 (pa_cons pe_can (pa_cons pe_can pa_nil st1') st1) hd1 st1 pl1) pa_nil st2) hd2 st2 pl2) ?_
  refine h1 σ F H _ s w fun Fa Ha v e1 w1 r1 => h2 σ Fa Ha _ (s.mono e1) w1 fun Fb Hb u e2 w2 r2 => ?_
  cases r2
  refine ⟨Fb, ow, v, ns, n, rfl, w2, r1.mono e2, fun Fc Hc q x y e3 hq w3 hx hy => ?_⟩
  refine ⟨Fc, ou ow q (.lst [.int x, .int y]), q, [], [], rfl, w3, ⟨x, y, hx, hy, ou_same⟩, .nil, hG, fun Fd Hd ow2 z d' e4 w4 s4 c4 r4 hd => ?_⟩
  obtain rfl := hR d' hd
  refine k Fd Hd z (((e1.trans e2).trans e3).trans e4) (w4.drop fun b o hb => ?_) r4
  have hbq : b ≠ q := fun y => by
    rw [y, hq] at hb
    cases hb
  exact s4 b o hbq (by rw [ou_ne hbq]; exact hb)
end
end Vd

set_option Elab.async false
set_option linter.all false
set_option maxRecDepth 100000
set_option maxHeartbeats 4000000
/-! Dicts of texts and integers as things: their making, their texts. -/
namespace Vd
open PySem L2
open PySem.Spec PyProof.Rows
def dkV (l : List (Str × Int)) : List (Key × V) := l.map fun p => (Sum.inr p.1, V.int p.2)
def dkD (l : List (Str × Int)) : List (Key × D) := l.map fun p => (Sum.inr p.1, D.int p.2)
def dkP (l : List (Str × Int)) : List (PyData × PyData) := l.map fun p => (.str p.1, .int p.2)
theorem rpk_V {K : PySem.W.Frag} {F : Hp} : ∀ {l : List (Str × Int)} {kvs : List (Key × V)}, Rpk K F kvs (dkD l) → kvs = dkV l
  | [], _, .nil => rfl
  | (x, i) :: l, _, .cons (.int _) r => by
    rw [rpk_V (l := l) r]
    rfl
theorem pairs_reads {P : Program} {w : World} {h : Heap} : ∀ {l : List (Str × Int)} {es : List DictEntry} {vs : List (Key × Value)}, KV (dkV l) vs → Pairs (mixKind P w) es vs →
    ReadsAll h (es.map (·.key)) ((dkP l).map (·.1)) [] ∧ ReadsAll h (es.map (·.val)) ((dkP l).map (·.2)) []
  | [], _, _, r, q => by
    cases r
    cases q
    exact ⟨.nil, .nil⟩
  | (x, i) :: l, _, _, r, q => by
    cases r with
    | @cons _ kv _ _ h1 h2 =>
      cases q with
      | @cons e _ es _ k v q =>
        obtain ⟨z1, z2⟩ := pairs_reads (h := h) h2 q
        obtain ⟨g1, g2⟩ := h1
        obtain ⟨t, ht⟩ : ∃ t, kv.2 = .int i t := g2
        have kk : keyIs kv.1 e.key = true := k
        rw [← g1] at kk
        rcases keyIs_shape kk with ⟨j, u, e1, e2⟩ | ⟨y, u, e1, e2⟩
        · cases e1
        · cases e1
          constructor
          · show ReadsAll h (e.key :: es.map (·.key)) (PyData.str x :: (dkP l).map (·.1)) ([] ++ [])
            rw [e2]
            exact .cons (.str x u) z1
          · show ReadsAll h (e.val :: es.map (·.val)) (PyData.int i :: (dkP l).map (·.2)) ([] ++ [])
            rw [v, ht]
            exact .cons (.int i t) z2
def rRpk : List V → Hp → VK → Prop := fun xs H Q => ∃ a l, xs = [.ref a] ∧ H a = some (.dK (dkV l)) ∧ (PyData.dict (dkP l)).showable = true ∧ (PyData.dict (dkP l)).shown.length ≤ sizeLine ∧ (PyData.dict (dkP l)).depth ≤ 64 ∧ Q (.str (PyData.dict (dkP l)).shown) H
theorem call_reprK {X : Cx} (hgd : X.A.guards = some []) (hu : X.A.units + 66 < cLine) : CallR X (.builtin "repr") rRpk := by
  intro pins s σ H xs us Q I r h
  obtain ⟨a, l, rfl, ha, hs, hz, hdp, q⟩ := h
  obtain ⟨u, rfl, r1⟩ := vals1 r
  obtain rfl : u = Value.ref a := r1
  obtain ⟨_, hsys, vs, kv, o, es, ep, ho, ex, hd, _, pr, _⟩ := dk_of I.hok ha
  obtain ⟨z1, z2⟩ := pairs_reads (h := s.heap) kv pr
  have rd : Reads s.heap (.ref a) (.dict (dkP l)) (a :: [] ++ []) := .dict ho ex.1 hd z1 z2
  refine repr_of_reads' rd hs (fun _ hm => ?_) hgd (by omega) (fun _ _ e => e) (fun h' t tk hk => ⟨.str _, H, I.kept (t' := tk) hk, ⟨t, rfl⟩, q⟩) hz
  have : sysModules = a := by simpa using hm
  rw [this] at hsys
  simp at hsys
def dictOk (l : List (Str × Int)) : Bool := (PyData.dict (dkP l)).showable && decide ((PyData.dict (dkP l)).shown.length ≤ 100000) && decide ((PyData.dict (dkP l)).depth ≤ 64)
section
variable {X : Cx} {B : Hp} {env : List (Option D)} {ow : Ow} {pos p1 p2 : Pos} {k1 k2 : Nat} {x : Str} {i : Int} {l : List (Str × Int)} {d : D}
theorem fo_reprK (hgd : X.A.guards = some []) (hu : X.A.units + 66 < cLine) (h : dictOk l = true) : BiOk X ow "repr" [.dct (dkD l)] (.str (PyData.dict (dkP l)).shown) := ⟨_, call_reprK hgd hu, .mk fun F H xs Q w r k => by
  unfold dictOk at h
  simp only [Bool.and_eq_true, decide_eq_true_eq] at h
  cases r with
  | cons r1 r2 =>
    cases r2
    cases r1 with
    | dct g s1 =>
      have e := rpk_V s1
      subst e
      exact ⟨_, l, rfl, w.ex _ _ g, h.1.1, Evl.sz_of h.1.2, h.2, k.here w (.str _)⟩⟩
theorem ve_dict1 {i : Int} : Ve X (.Dict [some (.Constant (.str x) k1 p1)] [.Constant (.int i) k2 p2] pos) env ow (.dct (dkD [(x, i)])) := .mk fun σ F H Q s w k => wpe (pe_disp (pps_cons pe_str pe_int pps_nil) rfl rfl (by simp) (by simp)) fun p hp =>
  ⟨upd_same, [(Sum.inr x, .int i)], rfl, by simp, by
    rw [upd_upd]
    exact k.new w hp (.dct upd_same (.cons (.int i) .nil))⟩
/-- a thing whose text is known -/
def TextOf (d : D) (t : Str) : Prop := ∀ (X : Cx) (ow : Ow), X.A.guards = some [] → X.A.units + 66 < cLine → BiOk X ow "repr" [d] (.str t)
theorem text_plain (h : d.textOk = true) : TextOf d d.py.shown := fun X ow a b => fo_repr a b h
theorem text_dict (h : dictOk l = true) : TextOf (.dct (dkD l)) (PyData.dict (dkP l)).shown := fun X ow a b => fo_reprK a b h
end
end Vd

set_option Elab.async false
set_option linter.all false
set_option maxRecDepth 100000
set_option maxHeartbeats 4000000
namespace K1
open PySem L2 Vd
open PySem.Spec PyProof.Rows
def top (i : Nat) : Stmt := PySem.Challenge.pw_evertreads_k01_constants_and_errors.main.body.getD i (.Pass ⟨0, 0, 0, 0⟩)
/-! the walk over data -/
local macro_rules | `(tactic| walk_at "vis") => `(tactic| first | exact Or.inl rfl | exact Or.inr (Or.inl rfl) | exact Or.inr (Or.inr rfl))
local macro_rules | `(tactic| walk_at "none") => `(tactic| first | assumption)
local macro_rules | `(tactic| walk_at "num") => `(tactic| first | decide | omega)
local macro_rules | `(tactic| walk_at "vr") => `(tactic| first
  | exact bo_add | exact bo_sub | exact bo_mulR (by decide) | exact bo_mulL (by decide) | exact bo_mod (by walk_at "num") | exact bo_div (by walk_at "num") (by walk_at "num") | exact bo_pow (by decide) (by decide) (by decide) | exact bo_cat (by walk_at "num") | exact bo_mulR (by omega) | exact bo_mulL (by omega))
local macro_rules | `(tactic| walk_at "vq") => `(tactic| first
  | exact co_lt | exact co_le | exact co_gt | exact co_ge | exact co_eqI | exact co_neI | exact co_eqS | exact co_neS)
local macro_rules | `(tactic| walk_at "vx") => `(tactic| first
  | exact xo_own (by assumption) rfl | exact xo_lst rfl | exact xo_tup rfl)
local macro_rules | `(tactic| walk_at "vf") => `(tactic| first
  | exact fo_abs | exact fo_lenL | exact fo_lenT | exact fo_lenO (by assumption) | exact fo_divmod (by walk_at "num") (by walk_at "num") | exact fo_max rfl | exact fo_min rfl)
local macro_rules | `(tactic| walk_at "vn") => `(tactic| first
  | exact ve_var (i := 0) rfl rfl (by walk_at "vis") | exact ve_var (i := 1) rfl rfl (by walk_at "vis") | exact ve_var (i := 2) rfl rfl (by walk_at "vis") | exact ve_var (i := 3) rfl rfl (by walk_at "vis") | exact ve_var (i := 4) rfl rfl (by walk_at "vis") | exact ve_var (i := 5) rfl rfl (by walk_at "vis") | exact ve_var (i := 6) rfl rfl (by walk_at "vis") | exact ve_var (i := 7) rfl rfl (by walk_at "vis"))
local macro_rules | `(tactic| walk_at "vd") => `(tactic| first
  | exact ve_int | exact ve_bl | exact ve_non | exact ve_str
  | (refine' ve_bin ?ha ?hb ?hr; (case ha => walk_at "vd"); (case hb => walk_at "vd"); (case hr => walk_at "vr"))
  | (refine' ve_sub ?ha ?hb (fun _ _ => rfl) ?hr; (case ha => walk_at "vd"); (case hb => walk_at "vd"); (case hr => walk_at "vx"))
  | (refine' ve_ty (id := "int") ?ha rfl ?hm boot_int ?hr; (case ha => walk_at "va"); (case hm => walk_at "none"); (case hr => exact to_int))
  | (refine' ve_bi ?ha rfl ?hm ?hv ?hr; (case hv => first | exact boot_abs | exact boot_len | exact boot_divmod | exact boot_max | exact boot_min); (case ha => walk_at "va"); (case hm => walk_at "none"); (case hr => walk_at "vf"))
  | (refine' ve_tup ?ha ?hl; (case ha => walk_at "va"); (case hl => walk_at "num"))
  | (refine' ve_lst ?ha ?hl; (case ha => walk_at "va"); (case hl => walk_at "num"))
  | (refine' ve_comp ?ha ?hb ?hr; (case ha => walk_at "vd"); (case hb => walk_at "vd"); (case hr => walk_at "vq"))
  | walk_at "vn")
local macro_rules | `(tactic| walk_at "va") => `(tactic| first | exact va_nil | (refine' va_cons ?ha ?hb; (case ha => walk_at "vd"); (case hb => walk_at "va")))
local macro_rules | `(tactic| walk_at "vt") => `(tactic| first
  | (refine' vt_comp ?ha ?hb ?hr; (case ha => walk_at "vd"); (case hb => walk_at "vd"); (case hr => walk_at "vq"))
  | (refine' vt_val ?hv; case hv => walk_at "vd"))
abbrev sSip : Stmt := top 32
theorem scSip : FnScope ["cup", "many", "part"] ["cup", "many"] (defScope sSip) := ⟨rfl, rfl, rfl, by decide +kernel, rfl, by decide +kernel, by decide +kernel⟩
section
variable {P : Program} {w : World} {K : PySem.W.Frag} {mg : Str → Option Value} {base : Heap}
def GSip (ds : List D) : Prop := ∃ m : Int, ds = [.int m] ∧ 0 < m ∧ m < 1073741824
def RSip (ds : List D) (d : D) : Prop := ∃ m r : Int, ds = [.int m] ∧ d = .int r ∧ 0 ≤ r ∧ r < m
theorem ok_sip {f : Addr} {fd : FuncData} (Fn : Fun K "_law_sip" "_law_sip" sSip f fd) (mI : mg "int" = none) (mD : mg "divmod" = none) : FnG P w K mg base CX0 1 f fd ["cup", "many"] (spC K GSip RSip) := by
  refine okC Fn scSip (fun ds ⟨m, e, _⟩ => by rw [e]; rfl) fun cdv A outer s H B ow c ds Q E hgd hr hG hc k => ?_
  obtain ⟨m, rfl, hm0, hm1⟩ := hG
  obtain ⟨x, y, hx, hy, hco⟩ := hc
  refine' rn_seti (q := c) (n := 0) (j := 0) ?h ?ho ?hi hco rfl ?k (pg_sub pe_can pe_can set_list)
  case h => walk_at "vd"
  case ho => walk_at "vd"
  case hi => walk_at "vd"
  case k =>
  intro B' e1
  have ho2 : ou ow c (.lst ([D.int x, .int y].set 0 (.int ((x * 48271 + 11) % 2147483629)))) c = some (.lst [.int ((x * 48271 + 11) % 2147483629), .int y]) := ou_same
  refine' rn_if (t := decide (0 < y)) ?h ?h1 ?h2
  case h => walk_at "vt"
  case h1 =>
    intro ht B2 e2
    have hy0 : 0 < y := of_decide_eq_true ht
    refine' rn_setiName (q := c) (n := 1) (j := 1) (m := 2) rfl ?h ?ho ?hi ho2 rfl scSip.nd rfl (.inl rfl) ?k rfl rfl rfl (pg_tup rfl (pgs_cons (pg_sub pe_can pe_can set_list) (pgs_cons (pg_name scSip.nd rfl (.inl rfl)) pgs_nil)))
    case h => walk_at "vd"
    case ho => walk_at "vd"
    case hi => walk_at "vd"
    case k =>
    intro B3 e3
    refine rn_retC (ow0 := ow) (d := .int (y % m)) ?_ k (e1.trans (e2.trans e3)) ?_ ?_ ⟨m, _, rfl, rfl, Int.emod_nonneg _ (by omega), Int.emod_lt_of_pos _ hm0⟩
    · walk_at "vd"
    · intro b o n e
      rw [ou_ne n, ou_ne n]
      exact e
    · exact ⟨_, _, Int.emod_nonneg _ (by omega), Int.ediv_nonneg hy (by omega), ou_same⟩
  case h2 =>
    intro ht B2 e2
    refine rn_go ?_
    refine rn_retC (ow0 := ow) (d := .int (((x * 48271 + 11) % 2147483629 / 1021) % m)) ?_ k (e1.trans e2) ?_ ?_ ⟨m, _, rfl, rfl, Int.emod_nonneg _ (by omega), Int.emod_lt_of_pos _ hm0⟩
    · walk_at "vd"
    · intro b o n e
      rw [ou_ne n]
      exact e
    · exact ⟨_, _, Int.emod_nonneg _ (by omega), hy, ou_same⟩
abbrev sCup : Stmt := top 31
theorem scCup : FnScope ["script", "spot", "cell", "one"] ["script", "spot"] (defScope sCup) := ⟨rfl, rfl, rfl, by decide +kernel, rfl, by decide +kernel, by decide +kernel⟩
theorem cut_ints (ns : List Int) (lo hi : Option Int) : ∃ L : List Int, Vd.cutD (ns.map D.int) lo hi = L.map D.int := by
  unfold Vd.cutD
  exact ⟨((ns.drop (HT.sIx (ns.map D.int).length 0 lo)).take (HT.sIx (ns.map D.int).length (ns.map D.int).length hi - HT.sIx (ns.map D.int).length 0 lo)), by rw [List.map_take, List.map_drop]⟩
theorem atI_nat {α : Type} {xs : List α} {n : Nat} (h : n < xs.length) : L2.atI xs (n : Int) = some xs[n] := by
  unfold L2.atI L2.ixN
  rw [if_pos (by omega), if_pos (by omega)]
  simp [h]
theorem atI_map {ns : List Int} {n : Nat} (h : n < ns.length) : L2.atI (ns.map D.int) (n : Int) = some (.int ns[n]) := by
  rw [atI_nat (by rw [List.length_map]; exact h)]
  simp
theorem ok_cup {f : Addr} {fd : FuncData} (Fn : Fun K "_law_cup" "_law_cup" sCup f fd) (mI : mg "int" = none) (mA : mg "abs" = none) (mL : mg "len" = none) : FnG P w K mg base CX0 1 f fd ["script", "spot"] (spCup K) := by
  refine okG Fn scCup (fun vs H Q E ⟨F, ow, v, ns, n, e, _⟩ => by rw [e]; rfl) fun cdv A outer s H vs Q E hgd hr ⟨F, ow, v, ns, n, e, wo, rv, k⟩ => ?_
  subst e
  refine ⟨F, ow, [.rol (ns.map D.int), .int n], wo, .cons rv (.cons (.int _) .nil), ?_⟩
  have hlen : ((ns.map D.int).length : Int) = ns.length := by rw [List.length_map]
  obtain ⟨L, hL⟩ := cut_ints ns none (some 2)
  obtain ⟨c0, hc0⟩ : ∃ c0 : Int, c0 = if h : n < ns.length then ns[n] else 7919 * n + 104729 := ⟨_, rfl⟩
  obtain ⟨L0, hL0⟩ : ∃ L0 : List Int, L0 = if n < ns.length then [] else L := ⟨_, rfl⟩
  refine' rn_set (i := 2) (d := .int c0) scCup.nd rfl (.inl rfl) ?h ?k
  case h =>
    refine' ve_if (t := decide ((n : Int) < ((ns.map D.int).length : Nat))) ?c ?a ?b
    case c =>
      refine' vt_comp ?ha ?hb co_lt
      case ha => walk_at "vd"
      case hb =>
        refine' ve_bi ?ha rfl ?hm ?hv ?hr
        case hv => exact boot_len
        case ha => walk_at "va"
        case hm => walk_at "none"
        case hr => exact fo_lenR
    case a =>
      intro t
      have h : n < ns.length := by
        have z := of_decide_eq_true t
        rw [hlen] at z
        omega
      rw [dif_pos h] at hc0
      subst hc0
      refine' ve_sub ?ha ?hb (fun _ _ => rfl) ?hr
      case ha => walk_at "vd"
      case hb => walk_at "vd"
      case hr => exact xo_rol (atI_map h)
    case b =>
      intro t
      have h : ¬ n < ns.length := by
        have z := of_decide_eq_false t
        rw [hlen] at z
        omega
      rw [dif_neg h] at hc0
      subst hc0
      walk_at "vd"
  case k =>
  intro B1 e1
  refine' rn_for (ds := L0.map D.int) (g := gName 3) (f := fun d env => env.set 3 (some d)) (fun i env ow' => ow' = ow ∧ ∃ (c : Int) (o : Option D), env = [some (.rol (ns.map D.int)), some (.int n), some (.int c), o]) PassesOwn.never rfl ?hi (pg_name scCup.nd rfl (.inl rfl)) (fun ow d _ => gd_name 3) ⟨rfl, c0, none, rfl⟩ ?hs ?hd
  case hi =>
    refine vi_list ?_
    refine' ve_if (t := decide (((ns.map D.int).length : Nat) ≤ (n : Int))) ?c ?a ?b
    case c =>
      refine' vt_comp ?ha ?hb co_ge
      case ha => walk_at "vd"
      case hb =>
        refine' ve_bi ?ha rfl ?hm ?hv ?hr
        case hv => exact boot_len
        case ha => walk_at "va"
        case hm => walk_at "none"
        case hr => exact fo_lenR
    case a =>
      intro t
      have h : ¬ n < ns.length := by
        have z := of_decide_eq_true t
        rw [hlen] at z
        omega
      rw [if_neg h] at hL0
      rw [hL0, ← hL]
      exact ve_sliceR (ve_var (i := 0) rfl rfl (by walk_at "vis")) vp_none (vp_some ve_int)
    case b =>
      intro t
      have h : n < ns.length := by
        have z := of_decide_eq_false t
        rw [hlen] at z
        omega
      rw [if_pos h] at hL0
      rw [hL0]
      exact ve_lst va_nil (Nat.zero_le _)
  case hs =>
    rintro B2 i d env' ow' e2 hd ⟨rfl, c, o, rfl⟩
    obtain ⟨j, hj⟩ : ∃ j : Int, d = .int j := by
      rw [List.getElem?_map] at hd
      cases q : L0[i]? with
      | none => rw [q] at hd; cases hd
      | some j => rw [q] at hd; cases hd; exact ⟨j, rfl⟩
    subst hj
    refine' rn_set (i := 2) (d := .int ((c * 31 + j) % 1000000007)) scCup.nd rfl (.inl rfl) ?h ?k
    case h => walk_at "vd"
    case k =>
      intro B3 e3
      refine rn_nextW ?_ e3
      exact ⟨rfl, _, some (.int j), rfl⟩
  case hd =>
    rintro B2 env' ow' e2 ⟨rfl, c, o, rfl⟩
    refine' rn_retL (ds := [.int ((c * 4099 + 271 * n + 17) % 2147483629), .int (if decide (c < 0) || decide ((10 : Int) ^ (18 : Int).toNat ≤ c) then (if c < 0 then -c else c) else 0)]) ?h ?hl ?k
    case h =>
      refine' va_cons ?ha (va_cons ?hb va_nil)
      case ha => walk_at "vd"
      case hb =>
        refine' ve_if (t := decide (c < 0) || decide ((10 : Int) ^ (18 : Int).toNat ≤ c)) ?c ?a ?b
        case c =>
          refine vt_w (vw_or ?_ (fun _ => vw_or1 ?_) (pw_all_or _ _))
          · walk_at "vt"
          · walk_at "vt"
        case a =>
          intro t
          rw [if_pos t]
          walk_at "vd"
        case b =>
          intro t
          rw [if_neg (by rw [t]; exact Bool.false_ne_true)]
          walk_at "vd"
    case hl => show 2 ≤ 100000; decide
    case k =>
      intro F2 H2 q e3 hq w2
      refine k F2 H2 q _ _ (e1.trans (e2.trans e3)) hq w2 (Int.emod_nonneg _ (by omega)) ?_
      split <;> (try split) <;> omega
abbrev sPick : Stmt := top 33
theorem scPick : FnScope ["cup", "things"] ["cup", "things"] (defScope sPick) := ⟨rfl, rfl, rfl, by decide +kernel, rfl, by decide +kernel, by decide +kernel⟩
def GPick (ds : List D) : Prop := ∃ l : List D, ds = [.lst l] ∧ 0 < l.length ∧ l.length < 1073741824
def RPick (ds : List D) (d : D) : Prop := ∃ l : List D, ds = [.lst l] ∧ d ∈ l
theorem ok_pick {f f1 : Addr} {fd fd1 : FuncData} (Fn : Fun K "_law_pick" "_law_pick" sPick f fd) (F1 : FnG P w K mg base CX0 1 f1 fd1 ["cup", "many"] (spC K GSip RSip)) (m1 : mg "_law_sip" = some (.ref f1)) (k1 : PySem.W.keepIn K (.ref f1) = true) (b1 : Binds K fd1 ["cup", "many"] []) (mL : mg "len" = none) :
    FnG P w K mg base CX0 2 f fd ["cup", "things"] (spC K GPick RPick) := by
  refine okC Fn scPick (fun ds ⟨m, e, _⟩ => by rw [e]; rfl) fun cdv A outer s H B ow c ds Q E hgd hr hG hc k => ?_
  obtain ⟨l, rfl, h0, h1⟩ := hG
  refine rn_retM (P := fun d ow2 => SameO c ow ow2 ∧ CupO ow2 c ∧ d ∈ l) ?_ (fun d ow2 ⟨a, b, e⟩ F2 H2 v e2 w2 r2 => k F2 H2 ow2 v d e2 w2 a b r2 ⟨l, rfl, e⟩)
  refine' vm_ix2 (d1 := .lst l) ix_list (fun _ _ => rfl) ?ha (vm_draw F1 hgd hr rfl m1 k1 b1 ?hb hc ?hG) ?hk
  case ha => walk_at "vd"
  case hb => exact va_cons (ve_var (i := 0) rfl rfl (by walk_at "vis")) (va_cons (by refine' ve_bi ?ha rfl ?hm ?hv ?hr; (case hv => exact boot_len); (case ha => walk_at "va"); (case hm => walk_at "none"); (case hr => exact fo_lenL)) va_nil)
  case hG => exact ⟨_, rfl, by omega, by omega⟩
  case hk =>
    rintro d2 ow2 ⟨s2, c2, m, r, e, rfl, r0, r1⟩
    cases e
    have hr : r.toNat < l.length := by omega
    have er : r = (r.toNat : Int) := by omega
    have at_ : L2.atI l r = some l[r.toNat] := (congrArg (L2.atI l) er).trans (atI_nat hr)
    exact ⟨l[r.toNat], rd_ixL at_, s2, c2, List.getElem_mem hr⟩
end
end K1

set_option Elab.async false
set_option linter.all false
set_option maxRecDepth 100000
set_option maxHeartbeats 4000000
namespace K1
open PySem L2 Vd
open PySem.Spec PyProof.Rows
/-! ### the errors of the program -/
inductive Kd | v | l | a
def Kd.b : Kd → String | .v => "ValueError" | .l => "LookupError" | .a => "ArithmeticError"
def Kd.new : Kd → String | .v => "ValueError.__new__" | .l => "LookupError.__new__" | .a => "ArithmeticError.__new__"
def Kd.ini : Kd → String | .v => "ValueError.__init__" | .l => "LookupError.__init__" | .a => "ArithmeticError.__init__"
def Kd.bm (k : Kd) : List Value := [.type k.b, .type "Exception", .type "BaseException", .type "object"]
theorem Kd.fb : ∀ k : Kd, ExcBaseFacts k.b k.new k.ini k.bm
  | .v => PySem.F.excBase_ValueError
  | .l => PySem.F.excBase_LookupError
  | .a => PySem.F.excBase_ArithmeticError
theorem Kd.sf : ∀ k : Kd, StoreFacts k.b k.bm "object.__setattr__" "object"
  | .v => PySem.F.store_ValueError
  | .l => PySem.F.store_LookupError
  | .a => PySem.F.store_ArithmeticError
def xcB (K : PySem.W.Frag) (C fI : Addr) (k : Kd) (f : Str) : Bool :=
  PySem.W.excInitIn K C k.bm k.new && PySem.W.excOver K C k.bm && decide (PySem.W.findIn K (.ref C) "__setattr__" = some (some (.builtin "object.__setattr__")))
    && decide (PySem.W.findIn K (.ref C) "__getattribute__" = some (some (.builtin "BaseException.__getattribute__"))) && decide (PySem.W.findIn K (.ref C) "__getattr__" = some none)
    && decide (PySem.W.findIn K (.ref C) f = some none) && decide (PySem.W.findIn K (.ref C) "__init__" = some (some (.ref fI))) && decide (PySem.W.typeIn K (.ref fI) = some (.type "function"))
    && PySem.W.keepIn K (.ref C) && decide (PySem.W.subIn K (.ref C) (.type "BaseException") = some true) && PySem.W.hasDictIn K C
    && decide (PySem.W.findIn K (.ref C) "__class__" = some (some (.builtin "object.__class__"))) && decide (PySem.W.mroIn K C (.type "object") = some true)
abbrev Xk (K : PySem.W.Frag) (C fI : Addr) (k : Kd) (f : Str) : Prop := XcC K C fI k.b k.new k.ini k.bm f
theorem xk_of {K : PySem.W.Frag} {C fI : Addr} {k : Kd} {f : Str} (h : xcB K C fI k f = true) : Xk K C fI k f := by
  unfold xcB at h
  simp only [Bool.and_eq_true, decide_eq_true_eq] at h
  obtain ⟨⟨⟨⟨⟨⟨⟨⟨⟨⟨⟨⟨h1, h2⟩, h3⟩, h4⟩, h5⟩, h6⟩, h7⟩, h8⟩, h9⟩, h10⟩, h11⟩, h12⟩, h13⟩ := h
  exact ⟨k.fb, k.sf, h1, h2, h3, h4, h5, h6, h7, h8, h9, h10, h11, h12, h13⟩
section
variable {P : Program} {w : World} {K : PySem.W.Frag} {mg : Str → Option Value} {base : Heap}
/-- a class with one field -/
structure C1 (P : Program) (w : World) (K : PySem.W.Frag) (mg : Str → Option Value) (base : Heap) (x : Str) (C : Addr) (f : Str) : Prop where
  gl : mg x = some (.ref C)
  ex : ∃ fI k fd, Xk K C fI k f ∧ FnOk P w K mg base CX0 1 fI fd ["self", f] (spIf C f) ∧ Binds K fd ["self", f] [] ∧ ∀ (s : Shared) (a : Addr) (u : Value), K.In s.heap → BindsTo s fd ⟨[.ref a], [(f, u)]⟩ ((["self", f] : List Str).zip [.ref a, u])
/-- a class without -/
structure C0 (P : Program) (w : World) (K : PySem.W.Frag) (mg : Str → Option Value) (base : Heap) (x : Str) (C : Addr) : Prop where
  gl : mg x = some (.ref C)
  ex : ∃ fI k fd, Xk K C fI k "given" ∧ FnOk P w K mg base CX0 1 fI fd ["self"] spI0 ∧ Binds K fd ["self"] []
abbrev sNotAWalker : Stmt := inClass (top 2) 0
theorem scNotAWalker : FnScope ["self", "given"] ["self", "given"] (defScope sNotAWalker) := ⟨rfl, rfl, rfl, by decide +kernel, rfl, by decide +kernel, by decide +kernel⟩
theorem mkNotAWalker {C fI : Addr} {oc kV dc pm cd ct : Value} {od an : Option Addr} {sl : Array (Option Value)} (gl : mg "NotAWalker" = some (.ref C)) (T : Xk K C fI .v "given") (l : K.lookup fI = some ⟨oc, od, .func (PySem.W.fnOf "__init__" "NotAWalker.__init__" (defArgs sNotAWalker) (defBody sNotAWalker) (defScope sNotAWalker) .none kV dc pm an cd ct), sl⟩)
    (c : PySem.W.codeIn K cd "NotAWalker.__init__" = true) (k : PySem.W.keepIn K (.ref fI) = true) : C1 P w K mg base "NotAWalker" C "given" :=
  ⟨gl, fI, .v, _, T, ok_initF (fun_mk (st := sNotAWalker) l c k) scNotAWalker T (fun cdv A outer s H E a => ⟨_, pss_one (ps_osx T (pv 0) (pv 1)), rfl⟩), (fun_mk (st := sNotAWalker) l c k).binds (fun _ _ _ _ _ _ us hl => match us, hl with | [_, _], _ => rfl), fun s a u _ => .of_eq rfl⟩
abbrev sInvalidRow : Stmt := inClass (top 3) 0
theorem scInvalidRow : FnScope ["self", "given"] ["self", "given"] (defScope sInvalidRow) := ⟨rfl, rfl, rfl, by decide +kernel, rfl, by decide +kernel, by decide +kernel⟩
theorem mkInvalidRow {C fI : Addr} {oc kV dc pm cd ct : Value} {od an : Option Addr} {sl : Array (Option Value)} (gl : mg "InvalidRow" = some (.ref C)) (T : Xk K C fI .v "given") (l : K.lookup fI = some ⟨oc, od, .func (PySem.W.fnOf "__init__" "InvalidRow.__init__" (defArgs sInvalidRow) (defBody sInvalidRow) (defScope sInvalidRow) .none kV dc pm an cd ct), sl⟩)
    (c : PySem.W.codeIn K cd "InvalidRow.__init__" = true) (k : PySem.W.keepIn K (.ref fI) = true) : C1 P w K mg base "InvalidRow" C "given" :=
  ⟨gl, fI, .v, _, T, ok_initF (fun_mk (st := sInvalidRow) l c k) scInvalidRow T (fun cdv A outer s H E a => ⟨_, pss_one (ps_osx T (pv 0) (pv 1)), rfl⟩), (fun_mk (st := sInvalidRow) l c k).binds (fun _ _ _ _ _ _ us hl => match us, hl with | [_, _], _ => rfl), fun s a u _ => .of_eq rfl⟩
abbrev sInvalidSquare : Stmt := inClass (top 4) 0
theorem scInvalidSquare : FnScope ["self", "given"] ["self", "given"] (defScope sInvalidSquare) := ⟨rfl, rfl, rfl, by decide +kernel, rfl, by decide +kernel, by decide +kernel⟩
theorem mkInvalidSquare {C fI : Addr} {oc kV dc pm cd ct : Value} {od an : Option Addr} {sl : Array (Option Value)} (gl : mg "InvalidSquare" = some (.ref C)) (T : Xk K C fI .v "given") (l : K.lookup fI = some ⟨oc, od, .func (PySem.W.fnOf "__init__" "InvalidSquare.__init__" (defArgs sInvalidSquare) (defBody sInvalidSquare) (defScope sInvalidSquare) .none kV dc pm an cd ct), sl⟩)
    (c : PySem.W.codeIn K cd "InvalidSquare.__init__" = true) (k : PySem.W.keepIn K (.ref fI) = true) : C1 P w K mg base "InvalidSquare" C "given" :=
  ⟨gl, fI, .v, _, T, ok_initF (fun_mk (st := sInvalidSquare) l c k) scInvalidSquare T (fun cdv A outer s H E a => ⟨_, pss_one (ps_osx T (pv 0) (pv 1)), rfl⟩), (fun_mk (st := sInvalidSquare) l c k).binds (fun _ _ _ _ _ _ us hl => match us, hl with | [_, _], _ => rfl), fun s a u _ => .of_eq rfl⟩
abbrev sInvalidWay : Stmt := inClass (top 5) 0
theorem scInvalidWay : FnScope ["self", "given"] ["self", "given"] (defScope sInvalidWay) := ⟨rfl, rfl, rfl, by decide +kernel, rfl, by decide +kernel, by decide +kernel⟩
theorem mkInvalidWay {C fI : Addr} {oc kV dc pm cd ct : Value} {od an : Option Addr} {sl : Array (Option Value)} (gl : mg "InvalidWay" = some (.ref C)) (T : Xk K C fI .v "given") (l : K.lookup fI = some ⟨oc, od, .func (PySem.W.fnOf "__init__" "InvalidWay.__init__" (defArgs sInvalidWay) (defBody sInvalidWay) (defScope sInvalidWay) .none kV dc pm an cd ct), sl⟩)
    (c : PySem.W.codeIn K cd "InvalidWay.__init__" = true) (k : PySem.W.keepIn K (.ref fI) = true) : C1 P w K mg base "InvalidWay" C "given" :=
  ⟨gl, fI, .v, _, T, ok_initF (fun_mk (st := sInvalidWay) l c k) scInvalidWay T (fun cdv A outer s H E a => ⟨_, pss_one (ps_osx T (pv 0) (pv 1)), rfl⟩), (fun_mk (st := sInvalidWay) l c k).binds (fun _ _ _ _ _ _ us hl => match us, hl with | [_, _], _ => rfl), fun s a u _ => .of_eq rfl⟩
abbrev sInvalidTime : Stmt := inClass (top 6) 0
theorem scInvalidTime : FnScope ["self", "given"] ["self", "given"] (defScope sInvalidTime) := ⟨rfl, rfl, rfl, by decide +kernel, rfl, by decide +kernel, by decide +kernel⟩
theorem mkInvalidTime {C fI : Addr} {oc kV dc pm cd ct : Value} {od an : Option Addr} {sl : Array (Option Value)} (gl : mg "InvalidTime" = some (.ref C)) (T : Xk K C fI .v "given") (l : K.lookup fI = some ⟨oc, od, .func (PySem.W.fnOf "__init__" "InvalidTime.__init__" (defArgs sInvalidTime) (defBody sInvalidTime) (defScope sInvalidTime) .none kV dc pm an cd ct), sl⟩)
    (c : PySem.W.codeIn K cd "InvalidTime.__init__" = true) (k : PySem.W.keepIn K (.ref fI) = true) : C1 P w K mg base "InvalidTime" C "given" :=
  ⟨gl, fI, .v, _, T, ok_initF (fun_mk (st := sInvalidTime) l c k) scInvalidTime T (fun cdv A outer s H E a => ⟨_, pss_one (ps_osx T (pv 0) (pv 1)), rfl⟩), (fun_mk (st := sInvalidTime) l c k).binds (fun _ _ _ _ _ _ us hl => match us, hl with | [_, _], _ => rfl), fun s a u _ => .of_eq rfl⟩
abbrev sInvalidCount : Stmt := inClass (top 7) 0
theorem scInvalidCount : FnScope ["self", "given"] ["self", "given"] (defScope sInvalidCount) := ⟨rfl, rfl, rfl, by decide +kernel, rfl, by decide +kernel, by decide +kernel⟩
theorem mkInvalidCount {C fI : Addr} {oc kV dc pm cd ct : Value} {od an : Option Addr} {sl : Array (Option Value)} (gl : mg "InvalidCount" = some (.ref C)) (T : Xk K C fI .v "given") (l : K.lookup fI = some ⟨oc, od, .func (PySem.W.fnOf "__init__" "InvalidCount.__init__" (defArgs sInvalidCount) (defBody sInvalidCount) (defScope sInvalidCount) .none kV dc pm an cd ct), sl⟩)
    (c : PySem.W.codeIn K cd "InvalidCount.__init__" = true) (k : PySem.W.keepIn K (.ref fI) = true) : C1 P w K mg base "InvalidCount" C "given" :=
  ⟨gl, fI, .v, _, T, ok_initF (fun_mk (st := sInvalidCount) l c k) scInvalidCount T (fun cdv A outer s H E a => ⟨_, pss_one (ps_osx T (pv 0) (pv 1)), rfl⟩), (fun_mk (st := sInvalidCount) l c k).binds (fun _ _ _ _ _ _ us hl => match us, hl with | [_, _], _ => rfl), fun s a u _ => .of_eq rfl⟩
abbrev sInvalidMove : Stmt := inClass (top 8) 0
theorem scInvalidMove : FnScope ["self", "given"] ["self", "given"] (defScope sInvalidMove) := ⟨rfl, rfl, rfl, by decide +kernel, rfl, by decide +kernel, by decide +kernel⟩
theorem mkInvalidMove {C fI : Addr} {oc kV dc pm cd ct : Value} {od an : Option Addr} {sl : Array (Option Value)} (gl : mg "InvalidMove" = some (.ref C)) (T : Xk K C fI .v "given") (l : K.lookup fI = some ⟨oc, od, .func (PySem.W.fnOf "__init__" "InvalidMove.__init__" (defArgs sInvalidMove) (defBody sInvalidMove) (defScope sInvalidMove) .none kV dc pm an cd ct), sl⟩)
    (c : PySem.W.codeIn K cd "InvalidMove.__init__" = true) (k : PySem.W.keepIn K (.ref fI) = true) : C1 P w K mg base "InvalidMove" C "given" :=
  ⟨gl, fI, .v, _, T, ok_initF (fun_mk (st := sInvalidMove) l c k) scInvalidMove T (fun cdv A outer s H E a => ⟨_, pss_one (ps_osx T (pv 0) (pv 1)), rfl⟩), (fun_mk (st := sInvalidMove) l c k).binds (fun _ _ _ _ _ _ us hl => match us, hl with | [_, _], _ => rfl), fun s a u _ => .of_eq rfl⟩
abbrev sInvalidPeriod : Stmt := inClass (top 9) 0
theorem scInvalidPeriod : FnScope ["self", "given"] ["self", "given"] (defScope sInvalidPeriod) := ⟨rfl, rfl, rfl, by decide +kernel, rfl, by decide +kernel, by decide +kernel⟩
theorem mkInvalidPeriod {C fI : Addr} {oc kV dc pm cd ct : Value} {od an : Option Addr} {sl : Array (Option Value)} (gl : mg "InvalidPeriod" = some (.ref C)) (T : Xk K C fI .v "given") (l : K.lookup fI = some ⟨oc, od, .func (PySem.W.fnOf "__init__" "InvalidPeriod.__init__" (defArgs sInvalidPeriod) (defBody sInvalidPeriod) (defScope sInvalidPeriod) .none kV dc pm an cd ct), sl⟩)
    (c : PySem.W.codeIn K cd "InvalidPeriod.__init__" = true) (k : PySem.W.keepIn K (.ref fI) = true) : C1 P w K mg base "InvalidPeriod" C "given" :=
  ⟨gl, fI, .v, _, T, ok_initF (fun_mk (st := sInvalidPeriod) l c k) scInvalidPeriod T (fun cdv A outer s H E a => ⟨_, pss_one (ps_osx T (pv 0) (pv 1)), rfl⟩), (fun_mk (st := sInvalidPeriod) l c k).binds (fun _ _ _ _ _ _ us hl => match us, hl with | [_, _], _ => rfl), fun s a u _ => .of_eq rfl⟩
abbrev sInvalidMarks : Stmt := inClass (top 10) 0
theorem scInvalidMarks : FnScope ["self", "given"] ["self", "given"] (defScope sInvalidMarks) := ⟨rfl, rfl, rfl, by decide +kernel, rfl, by decide +kernel, by decide +kernel⟩
theorem mkInvalidMarks {C fI : Addr} {oc kV dc pm cd ct : Value} {od an : Option Addr} {sl : Array (Option Value)} (gl : mg "InvalidMarks" = some (.ref C)) (T : Xk K C fI .v "given") (l : K.lookup fI = some ⟨oc, od, .func (PySem.W.fnOf "__init__" "InvalidMarks.__init__" (defArgs sInvalidMarks) (defBody sInvalidMarks) (defScope sInvalidMarks) .none kV dc pm an cd ct), sl⟩)
    (c : PySem.W.codeIn K cd "InvalidMarks.__init__" = true) (k : PySem.W.keepIn K (.ref fI) = true) : C1 P w K mg base "InvalidMarks" C "given" :=
  ⟨gl, fI, .v, _, T, ok_initF (fun_mk (st := sInvalidMarks) l c k) scInvalidMarks T (fun cdv A outer s H E a => ⟨_, pss_one (ps_osx T (pv 0) (pv 1)), rfl⟩), (fun_mk (st := sInvalidMarks) l c k).binds (fun _ _ _ _ _ _ us hl => match us, hl with | [_, _], _ => rfl), fun s a u _ => .of_eq rfl⟩
abbrev sInvalidName : Stmt := inClass (top 11) 0
theorem scInvalidName : FnScope ["self", "given"] ["self", "given"] (defScope sInvalidName) := ⟨rfl, rfl, rfl, by decide +kernel, rfl, by decide +kernel, by decide +kernel⟩
theorem mkInvalidName {C fI : Addr} {oc kV dc pm cd ct : Value} {od an : Option Addr} {sl : Array (Option Value)} (gl : mg "InvalidName" = some (.ref C)) (T : Xk K C fI .v "given") (l : K.lookup fI = some ⟨oc, od, .func (PySem.W.fnOf "__init__" "InvalidName.__init__" (defArgs sInvalidName) (defBody sInvalidName) (defScope sInvalidName) .none kV dc pm an cd ct), sl⟩)
    (c : PySem.W.codeIn K cd "InvalidName.__init__" = true) (k : PySem.W.keepIn K (.ref fI) = true) : C1 P w K mg base "InvalidName" C "given" :=
  ⟨gl, fI, .v, _, T, ok_initF (fun_mk (st := sInvalidName) l c k) scInvalidName T (fun cdv A outer s H E a => ⟨_, pss_one (ps_osx T (pv 0) (pv 1)), rfl⟩), (fun_mk (st := sInvalidName) l c k).binds (fun _ _ _ _ _ _ us hl => match us, hl with | [_, _], _ => rfl), fun s a u _ => .of_eq rfl⟩
abbrev sInvalidClaim : Stmt := inClass (top 12) 0
theorem scInvalidClaim : FnScope ["self", "given"] ["self", "given"] (defScope sInvalidClaim) := ⟨rfl, rfl, rfl, by decide +kernel, rfl, by decide +kernel, by decide +kernel⟩
theorem mkInvalidClaim {C fI : Addr} {oc kV dc pm cd ct : Value} {od an : Option Addr} {sl : Array (Option Value)} (gl : mg "InvalidClaim" = some (.ref C)) (T : Xk K C fI .v "given") (l : K.lookup fI = some ⟨oc, od, .func (PySem.W.fnOf "__init__" "InvalidClaim.__init__" (defArgs sInvalidClaim) (defBody sInvalidClaim) (defScope sInvalidClaim) .none kV dc pm an cd ct), sl⟩)
    (c : PySem.W.codeIn K cd "InvalidClaim.__init__" = true) (k : PySem.W.keepIn K (.ref fI) = true) : C1 P w K mg base "InvalidClaim" C "given" :=
  ⟨gl, fI, .v, _, T, ok_initF (fun_mk (st := sInvalidClaim) l c k) scInvalidClaim T (fun cdv A outer s H E a => ⟨_, pss_one (ps_osx T (pv 0) (pv 1)), rfl⟩), (fun_mk (st := sInvalidClaim) l c k).binds (fun _ _ _ _ _ _ us hl => match us, hl with | [_, _], _ => rfl), fun s a u _ => .of_eq rfl⟩
abbrev sInvalidIndex : Stmt := inClass (top 13) 0
theorem scInvalidIndex : FnScope ["self", "given"] ["self", "given"] (defScope sInvalidIndex) := ⟨rfl, rfl, rfl, by decide +kernel, rfl, by decide +kernel, by decide +kernel⟩
theorem mkInvalidIndex {C fI : Addr} {oc kV dc pm cd ct : Value} {od an : Option Addr} {sl : Array (Option Value)} (gl : mg "InvalidIndex" = some (.ref C)) (T : Xk K C fI .v "given") (l : K.lookup fI = some ⟨oc, od, .func (PySem.W.fnOf "__init__" "InvalidIndex.__init__" (defArgs sInvalidIndex) (defBody sInvalidIndex) (defScope sInvalidIndex) .none kV dc pm an cd ct), sl⟩)
    (c : PySem.W.codeIn K cd "InvalidIndex.__init__" = true) (k : PySem.W.keepIn K (.ref fI) = true) : C1 P w K mg base "InvalidIndex" C "given" :=
  ⟨gl, fI, .v, _, T, ok_initF (fun_mk (st := sInvalidIndex) l c k) scInvalidIndex T (fun cdv A outer s H E a => ⟨_, pss_one (ps_osx T (pv 0) (pv 1)), rfl⟩), (fun_mk (st := sInvalidIndex) l c k).binds (fun _ _ _ _ _ _ us hl => match us, hl with | [_, _], _ => rfl), fun s a u _ => .of_eq rfl⟩
abbrev sInvalidText : Stmt := inClass (top 14) 0
theorem scInvalidText : FnScope ["self", "given"] ["self", "given"] (defScope sInvalidText) := ⟨rfl, rfl, rfl, by decide +kernel, rfl, by decide +kernel, by decide +kernel⟩
theorem mkInvalidText {C fI : Addr} {oc kV dc pm cd ct : Value} {od an : Option Addr} {sl : Array (Option Value)} (gl : mg "InvalidText" = some (.ref C)) (T : Xk K C fI .v "given") (l : K.lookup fI = some ⟨oc, od, .func (PySem.W.fnOf "__init__" "InvalidText.__init__" (defArgs sInvalidText) (defBody sInvalidText) (defScope sInvalidText) .none kV dc pm an cd ct), sl⟩)
    (c : PySem.W.codeIn K cd "InvalidText.__init__" = true) (k : PySem.W.keepIn K (.ref fI) = true) : C1 P w K mg base "InvalidText" C "given" :=
  ⟨gl, fI, .v, _, T, ok_initF (fun_mk (st := sInvalidText) l c k) scInvalidText T (fun cdv A outer s H E a => ⟨_, pss_one (ps_osx T (pv 0) (pv 1)), rfl⟩), (fun_mk (st := sInvalidText) l c k).binds (fun _ _ _ _ _ _ us hl => match us, hl with | [_, _], _ => rfl), fun s a u _ => .of_eq rfl⟩
abbrev sInvalidParts : Stmt := inClass (top 15) 0
theorem scInvalidParts : FnScope ["self", "index"] ["self", "index"] (defScope sInvalidParts) := ⟨rfl, rfl, rfl, by decide +kernel, rfl, by decide +kernel, by decide +kernel⟩
theorem mkInvalidParts {C fI : Addr} {oc kV dc pm cd ct : Value} {od an : Option Addr} {sl : Array (Option Value)} (gl : mg "InvalidParts" = some (.ref C)) (T : Xk K C fI .v "index") (l : K.lookup fI = some ⟨oc, od, .func (PySem.W.fnOf "__init__" "InvalidParts.__init__" (defArgs sInvalidParts) (defBody sInvalidParts) (defScope sInvalidParts) .none kV dc pm an cd ct), sl⟩)
    (c : PySem.W.codeIn K cd "InvalidParts.__init__" = true) (k : PySem.W.keepIn K (.ref fI) = true) : C1 P w K mg base "InvalidParts" C "index" :=
  ⟨gl, fI, .v, _, T, ok_initF (fun_mk (st := sInvalidParts) l c k) scInvalidParts T (fun cdv A outer s H E a => ⟨_, pss_one (ps_osx T (pv 0) (pv 1)), rfl⟩), (fun_mk (st := sInvalidParts) l c k).binds (fun _ _ _ _ _ _ us hl => match us, hl with | [_, _], _ => rfl), fun s a u _ => .of_eq rfl⟩
abbrev sInvalidDeeds : Stmt := inClass (top 16) 0
theorem scInvalidDeeds : FnScope ["self", "index"] ["self", "index"] (defScope sInvalidDeeds) := ⟨rfl, rfl, rfl, by decide +kernel, rfl, by decide +kernel, by decide +kernel⟩
theorem mkInvalidDeeds {C fI : Addr} {oc kV dc pm cd ct : Value} {od an : Option Addr} {sl : Array (Option Value)} (gl : mg "InvalidDeeds" = some (.ref C)) (T : Xk K C fI .v "index") (l : K.lookup fI = some ⟨oc, od, .func (PySem.W.fnOf "__init__" "InvalidDeeds.__init__" (defArgs sInvalidDeeds) (defBody sInvalidDeeds) (defScope sInvalidDeeds) .none kV dc pm an cd ct), sl⟩)
    (c : PySem.W.codeIn K cd "InvalidDeeds.__init__" = true) (k : PySem.W.keepIn K (.ref fI) = true) : C1 P w K mg base "InvalidDeeds" C "index" :=
  ⟨gl, fI, .v, _, T, ok_initF (fun_mk (st := sInvalidDeeds) l c k) scInvalidDeeds T (fun cdv A outer s H E a => ⟨_, pss_one (ps_osx T (pv 0) (pv 1)), rfl⟩), (fun_mk (st := sInvalidDeeds) l c k).binds (fun _ _ _ _ _ _ us hl => match us, hl with | [_, _], _ => rfl), fun s a u _ => .of_eq rfl⟩
abbrev sUnknownName : Stmt := inClass (top 18) 0
theorem scUnknownName : FnScope ["self", "given"] ["self", "given"] (defScope sUnknownName) := ⟨rfl, rfl, rfl, by decide +kernel, rfl, by decide +kernel, by decide +kernel⟩
theorem mkUnknownName {C fI : Addr} {oc kV dc pm cd ct : Value} {od an : Option Addr} {sl : Array (Option Value)} (gl : mg "UnknownName" = some (.ref C)) (T : Xk K C fI .l "given") (l : K.lookup fI = some ⟨oc, od, .func (PySem.W.fnOf "__init__" "UnknownName.__init__" (defArgs sUnknownName) (defBody sUnknownName) (defScope sUnknownName) .none kV dc pm an cd ct), sl⟩)
    (c : PySem.W.codeIn K cd "UnknownName.__init__" = true) (k : PySem.W.keepIn K (.ref fI) = true) : C1 P w K mg base "UnknownName" C "given" :=
  ⟨gl, fI, .l, _, T, ok_initF (fun_mk (st := sUnknownName) l c k) scUnknownName T (fun cdv A outer s H E a => ⟨_, pss_one (ps_osx T (pv 0) (pv 1)), rfl⟩), (fun_mk (st := sUnknownName) l c k).binds (fun _ _ _ _ _ _ us hl => match us, hl with | [_, _], _ => rfl), fun s a u _ => .of_eq rfl⟩
abbrev sInUse : Stmt := inClass (top 19) 0
theorem scInUse : FnScope ["self", "index"] ["self", "index"] (defScope sInUse) := ⟨rfl, rfl, rfl, by decide +kernel, rfl, by decide +kernel, by decide +kernel⟩
theorem mkInUse {C fI : Addr} {oc kV dc pm cd ct : Value} {od an : Option Addr} {sl : Array (Option Value)} (gl : mg "InUse" = some (.ref C)) (T : Xk K C fI .l "index") (l : K.lookup fI = some ⟨oc, od, .func (PySem.W.fnOf "__init__" "InUse.__init__" (defArgs sInUse) (defBody sInUse) (defScope sInUse) .none kV dc pm an cd ct), sl⟩)
    (c : PySem.W.codeIn K cd "InUse.__init__" = true) (k : PySem.W.keepIn K (.ref fI) = true) : C1 P w K mg base "InUse" C "index" :=
  ⟨gl, fI, .l, _, T, ok_initF (fun_mk (st := sInUse) l c k) scInUse T (fun cdv A outer s H E a => ⟨_, pss_one (ps_osx T (pv 0) (pv 1)), rfl⟩), (fun_mk (st := sInUse) l c k).binds (fun _ _ _ _ _ _ us hl => match us, hl with | [_, _], _ => rfl), fun s a u _ => .of_eq rfl⟩
abbrev sBroken : Stmt := inClass (top 21) 0
theorem scBroken : FnScope ["self", "index"] ["self", "index"] (defScope sBroken) := ⟨rfl, rfl, rfl, by decide +kernel, rfl, by decide +kernel, by decide +kernel⟩
theorem mkBroken {C fI : Addr} {oc kV dc pm cd ct : Value} {od an : Option Addr} {sl : Array (Option Value)} (gl : mg "Broken" = some (.ref C)) (T : Xk K C fI .a "index") (l : K.lookup fI = some ⟨oc, od, .func (PySem.W.fnOf "__init__" "Broken.__init__" (defArgs sBroken) (defBody sBroken) (defScope sBroken) .none kV dc pm an cd ct), sl⟩)
    (c : PySem.W.codeIn K cd "Broken.__init__" = true) (k : PySem.W.keepIn K (.ref fI) = true) : C1 P w K mg base "Broken" C "index" :=
  ⟨gl, fI, .a, _, T, ok_initF (fun_mk (st := sBroken) l c k) scBroken T (fun cdv A outer s H E a => ⟨_, pss_one (ps_osx T (pv 0) (pv 1)), rfl⟩), (fun_mk (st := sBroken) l c k).binds (fun _ _ _ _ _ _ us hl => match us, hl with | [_, _], _ => rfl), fun s a u _ => .of_eq rfl⟩
abbrev sWrongValue : Stmt := inClass (top 1) 0
theorem scWrongValue : FnScope ["self"] ["self"] (defScope sWrongValue) := ⟨rfl, rfl, rfl, by decide +kernel, rfl, by decide +kernel, by decide +kernel⟩
theorem mkWrongValue {x : Str} {C fI : Addr} {oc kV dc pm cd ct : Value} {od an : Option Addr} {sl : Array (Option Value)} (gl : mg x = some (.ref C)) (T : Xk K C fI .v "given") (l : K.lookup fI = some ⟨oc, od, .func (PySem.W.fnOf "__init__" "WrongValue.__init__" (defArgs sWrongValue) (defBody sWrongValue) (defScope sWrongValue) .none kV dc pm an cd ct), sl⟩)
    (c : PySem.W.codeIn K cd "WrongValue.__init__" = true) (k : PySem.W.keepIn K (.ref fI) = true) : C0 P w K mg base x C :=
  ⟨gl, fI, .v, _, T, ok_init0 (fun_mk (st := sWrongValue) l c k) scWrongValue (fun cdv A outer s H E => pss_one ps_pass), (fun_mk (st := sWrongValue) l c k).binds (fun _ _ _ _ _ _ us hl => match us, hl with | [_], _ => rfl)⟩
abbrev sWrongName : Stmt := inClass (top 17) 0
theorem scWrongName : FnScope ["self"] ["self"] (defScope sWrongName) := ⟨rfl, rfl, rfl, by decide +kernel, rfl, by decide +kernel, by decide +kernel⟩
theorem mkWrongName {x : Str} {C fI : Addr} {oc kV dc pm cd ct : Value} {od an : Option Addr} {sl : Array (Option Value)} (gl : mg x = some (.ref C)) (T : Xk K C fI .l "given") (l : K.lookup fI = some ⟨oc, od, .func (PySem.W.fnOf "__init__" "WrongName.__init__" (defArgs sWrongName) (defBody sWrongName) (defScope sWrongName) .none kV dc pm an cd ct), sl⟩)
    (c : PySem.W.codeIn K cd "WrongName.__init__" = true) (k : PySem.W.keepIn K (.ref fI) = true) : C0 P w K mg base x C :=
  ⟨gl, fI, .l, _, T, ok_init0 (fun_mk (st := sWrongName) l c k) scWrongName (fun cdv A outer s H E => pss_one ps_pass), (fun_mk (st := sWrongName) l c k).binds (fun _ _ _ _ _ _ us hl => match us, hl with | [_], _ => rfl)⟩
abbrev sNoAnswer : Stmt := inClass (top 20) 0
theorem scNoAnswer : FnScope ["self"] ["self"] (defScope sNoAnswer) := ⟨rfl, rfl, rfl, by decide +kernel, rfl, by decide +kernel, by decide +kernel⟩
theorem mkNoAnswer {x : Str} {C fI : Addr} {oc kV dc pm cd ct : Value} {od an : Option Addr} {sl : Array (Option Value)} (gl : mg x = some (.ref C)) (T : Xk K C fI .a "given") (l : K.lookup fI = some ⟨oc, od, .func (PySem.W.fnOf "__init__" "NoAnswer.__init__" (defArgs sNoAnswer) (defBody sNoAnswer) (defScope sNoAnswer) .none kV dc pm an cd ct), sl⟩)
    (c : PySem.W.codeIn K cd "NoAnswer.__init__" = true) (k : PySem.W.keepIn K (.ref fI) = true) : C0 P w K mg base x C :=
  ⟨gl, fI, .a, _, T, ok_init0 (fun_mk (st := sNoAnswer) l c k) scNoAnswer (fun cdv A outer s H E => pss_one ps_pass), (fun_mk (st := sNoAnswer) l c k).binds (fun _ _ _ _ _ _ us hl => match us, hl with | [_], _ => rfl)⟩
end
end K1

set_option Elab.async false
set_option linter.all false
set_option maxRecDepth 100000
set_option maxHeartbeats 4000000
namespace K1
open PySem L2 Vd
open PySem.Spec PyProof.Rows
/-! the walk over data -/
local macro_rules | `(tactic| walk_at "vis") => `(tactic| first | exact Or.inl rfl | exact Or.inr (Or.inl rfl) | exact Or.inr (Or.inr rfl))
local macro_rules | `(tactic| walk_at "none") => `(tactic| first | assumption)
local macro_rules | `(tactic| walk_at "num") => `(tactic| first | decide | omega)
local macro_rules | `(tactic| walk_at "vr") => `(tactic| first
  | exact bo_add | exact bo_sub | exact bo_mulR (by decide) | exact bo_mulL (by decide) | exact bo_mod (by walk_at "num") | exact bo_div (by walk_at "num") (by walk_at "num") | exact bo_pow (by decide) (by decide) (by decide) | exact bo_cat (by walk_at "num") | exact bo_mulR (by omega) | exact bo_mulL (by omega))
local macro_rules | `(tactic| walk_at "vq") => `(tactic| first
  | exact co_lt | exact co_le | exact co_gt | exact co_ge | exact co_eqI | exact co_neI | exact co_eqS | exact co_neS)
local macro_rules | `(tactic| walk_at "vx") => `(tactic| first
  | exact xo_own (by assumption) rfl | exact xo_lst rfl | exact xo_tup rfl)
local macro_rules | `(tactic| walk_at "vf") => `(tactic| first
  | exact fo_abs | exact fo_lenL | exact fo_lenT | exact fo_lenO (by assumption) | exact fo_divmod (by walk_at "num") (by walk_at "num") | exact fo_max rfl | exact fo_min rfl)
local macro_rules | `(tactic| walk_at "vn") => `(tactic| first
  | exact ve_var (i := 0) rfl rfl (by walk_at "vis") | exact ve_var (i := 1) rfl rfl (by walk_at "vis") | exact ve_var (i := 2) rfl rfl (by walk_at "vis") | exact ve_var (i := 3) rfl rfl (by walk_at "vis") | exact ve_var (i := 4) rfl rfl (by walk_at "vis") | exact ve_var (i := 5) rfl rfl (by walk_at "vis") | exact ve_var (i := 6) rfl rfl (by walk_at "vis") | exact ve_var (i := 7) rfl rfl (by walk_at "vis"))
local macro_rules | `(tactic| walk_at "vd") => `(tactic| first
  | exact ve_int | exact ve_bl | exact ve_non | exact ve_str
  | (refine' ve_bin ?ha ?hb ?hr; (case ha => walk_at "vd"); (case hb => walk_at "vd"); (case hr => walk_at "vr"))
  | (refine' ve_sub ?ha ?hb (fun _ _ => rfl) ?hr; (case ha => walk_at "vd"); (case hb => walk_at "vd"); (case hr => walk_at "vx"))
  | (refine' ve_ty (id := "int") ?ha rfl ?hm boot_int ?hr; (case ha => walk_at "va"); (case hm => walk_at "none"); (case hr => exact to_int))
  | (refine' ve_bi ?ha rfl ?hm ?hv ?hr; (case hv => first | exact boot_abs | exact boot_len | exact boot_divmod | exact boot_max | exact boot_min); (case ha => walk_at "va"); (case hm => walk_at "none"); (case hr => walk_at "vf"))
  | (refine' ve_tup ?ha ?hl; (case ha => walk_at "va"); (case hl => walk_at "num"))
  | (refine' ve_lst ?ha ?hl; (case ha => walk_at "va"); (case hl => walk_at "num"))
  | (refine' ve_comp ?ha ?hb ?hr; (case ha => walk_at "vd"); (case hb => walk_at "vd"); (case hr => walk_at "vq"))
  | walk_at "vn")
local macro_rules | `(tactic| walk_at "va") => `(tactic| first | exact va_nil | (refine' va_cons ?ha ?hb; (case ha => walk_at "vd"); (case hb => walk_at "va")))
local macro_rules | `(tactic| walk_at "vt") => `(tactic| first
  | (refine' vt_comp ?ha ?hb ?hr; (case ha => walk_at "vd"); (case hb => walk_at "vd"); (case hr => walk_at "vq"))
  | (refine' vt_val ?hv; case hv => walk_at "vd"))
theorem bt_ValueError : bootBuiltins "ValueError" = some (.type "ValueError") := by decide +kernel
theorem bt_LookupError : bootBuiltins "LookupError" = some (.type "LookupError") := by decide +kernel
theorem bt_ArithmeticError : bootBuiltins "ArithmeticError" = some (.type "ArithmeticError") := by decide +kernel
def nmL : List Str := ["NotAWalker", "InvalidRow", "InvalidSquare", "InvalidWay", "InvalidTime", "InvalidCount", "InvalidMove", "InvalidPeriod", "InvalidMarks", "InvalidName", "InvalidClaim", "InvalidIndex", "InvalidText", "InvalidParts", "InvalidDeeds", "UnknownName", "InUse", "Broken", "NothingToUndo", "WrongValue", "WrongName", "NoAnswer"]
def baseOf (i : Nat) : Nat := if i < 15 then 19 else if i < 17 then 20 else if i < 19 then 21 else i
def tb (i j : Nat) : Bool := if j < 19 then i == j else if j < 22 then baseOf i == j else baseOf i + 3 == j
def btyN : Nat → String | 22 => "ValueError" | 23 => "LookupError" | _ => "ArithmeticError"
def colU (Cs : List Addr) (j : Nat) : Value := if j < 22 then .ref (Cs.getD j 0) else .type (btyN j)
structure Tab (K : PySem.W.Frag) (mg : Str → Option Value) (Cs : List Addr) : Prop where
  O : XcO K
  xk : ∀ C ∈ Cs, ∃ fI k f, Xk K C fI k f
  gl : ∀ j x, nmL[j]? = some x → mg x = some (.ref (Cs.getD j 0))
  tab : ∀ i C j, Cs[i]? = some C → j < 25 → PySem.W.kitOne K (.ref C) (colU Cs j) = some (tb i j)
  mI : mg "isinstance" = none
  mR : mg "range" = none
  mV : mg "ValueError" = none
  mL : mg "LookupError" = none
  mA : mg "ArithmeticError" = none
section
variable {X : Cx} {env : List (Option D)} {ow : Ow} {C : Addr} {Cs : List Addr} {fl : List (Str × D)} {i j : Nat} {x e : Str} {pos p p1 p2 : Pos}
theorem ve_isj (T : Tab X.K X.mg Cs) (hi : Cs[i]? = some C) (hx : nmL[j]? = some x) (hj : j < 22) (he : Ve X (.Name e p1) env ow (.exc C fl)) (hgI : Gl X "isinstance") (hg : Gl X x) (hdb : (x == ("__debug__" : Str)) = false) :
    Ve X (.Call (.Name "isinstance" p) [.Name e p1, .Name x p2] [] pos) env ow (.bl (tb i j)) := by
  obtain ⟨fI, k, f, xk⟩ := T.xk C (List.mem_of_getElem? hi)
  have z := T.tab i C j hi (by omega)
  unfold colU at z
  rw [if_pos hj] at z
  exact ve_bi (va_cons he (va_cons (ve_gobj hg (T.gl j x hx) hdb) va_nil)) hgI T.mI boot_isinstance (fo_isx xk T.O (.own _) z)
theorem ve_isb {n : String} (T : Tab X.K X.mg Cs) (hi : Cs[i]? = some C) (hj : j < 25) (hj2 : 22 ≤ j) (hn : btyN j = n) (hm : X.mg x = none) (hb : bootBuiltins x = some (.type n)) (he : Ve X (.Name e p1) env ow (.exc C fl)) (hgI : Gl X "isinstance") (hg : Gl X x) (hdb : (x == ("__debug__" : Str)) = false) (hn0 : x ≠ "__name__") :
    Ve X (.Call (.Name "isinstance" p) [.Name e p1, .Name x p2] [] pos) env ow (.bl (tb i j)) := by
  obtain ⟨fI, k, f, xk⟩ := T.xk C (List.mem_of_getElem? hi)
  have z := T.tab i C j hi hj
  unfold colU at z
  rw [if_neg (by omega), hn] at z
  exact ve_bi (va_cons he (va_cons (ve_bty hg hm hb hn0 hdb) va_nil)) hgI T.mI boot_isinstance (fo_isx xk T.O (.ty _) z)
end
def kpA (i : Nat) : D → Bool | .int n => tb i n.toNat | _ => false
def kpB (i : Nat) : D → Bool | .int n => tb i (19 + n.toNat) | _ => false
def f20 : D → D | .int n => .int (20 + n) | d => d
def clsD (i : Nat) : List D := ((rangeD 0 (19 : Int).toNat).filter (kpA i)).map (fun d => d) ++ ((rangeD 0 (6 : Int).toNat).filter (kpB i)).map f20
def RCls (Cs : List Addr) (ds : List D) (d : D) : Prop := ∃ i C fl, Cs[i]? = some C ∧ ds = [.exc C fl] ∧ d = .lst (clsD i)
theorem rangeD_mem {n : Nat} {d : D} (h : d ∈ rangeD 0 n) : ∃ k : Nat, k < n ∧ d = .int (k : Int) := by
  obtain ⟨k, hk⟩ := List.mem_iff_getElem?.mp h
  obtain ⟨a, b⟩ := rangeD_get hk
  exact ⟨k, a, by rw [b]; simp⟩
abbrev sCls : Stmt := top 34
theorem scCls : FnScope ["e", "found", "above", "at"] ["e"] (defScope sCls) := ⟨rfl, rfl, rfl, by decide +kernel, rfl, by decide +kernel, by decide +kernel⟩
def fnd (i : Nat) : List D := (List.range 19).map fun j => .bl (tb i j)
def abv (i : Nat) : List D := (List.range 6).map fun j => .bl (tb i (19 + j))
local macro_rules | `(tactic| walk_at "vj") => `(tactic| first
  | exact ve_isj (by assumption) (by assumption) rfl (by decide) (ve_var (i := 0) rfl rfl (by walk_at "vis")) rfl rfl (by decide)
  | exact ve_isb (by assumption) (by assumption) (by decide) (by decide) rfl (by assumption) bt_ValueError (ve_var (i := 0) rfl rfl (by walk_at "vis")) rfl rfl (by decide) (by decide)
  | exact ve_isb (by assumption) (by assumption) (by decide) (by decide) rfl (by assumption) bt_LookupError (ve_var (i := 0) rfl rfl (by walk_at "vis")) rfl rfl (by decide) (by decide)
  | exact ve_isb (by assumption) (by assumption) (by decide) (by decide) rfl (by assumption) bt_ArithmeticError (ve_var (i := 0) rfl rfl (by walk_at "vis")) rfl rfl (by decide) (by decide))
local macro_rules | `(tactic| walk_at "vja") => `(tactic| first | exact va_nil | (refine' va_cons ?ha ?hb; (case ha => walk_at "vj"); (case hb => walk_at "vja")))
section
variable {P : Program} {w : World} {K : PySem.W.Frag} {mg : Str → Option Value} {base : Heap}
theorem ok_classes {f : Addr} {fd : FuncData} {Cs : List Addr} (Fn : Fun K "_law_classes" "_law_classes" sCls f fd) (T : Tab K mg Cs) : FnG P w K mg base CX0 1 f fd ["e"] (spR K (RCls Cs)) := by
  have mI := T.mI
  have mR := T.mR
  have mV := T.mV
  have mL := T.mL
  have mA := T.mA
  refine okR Fn scCls (fun ds d ⟨i, C, fl, _, e, _⟩ => by rw [e]; rfl) fun cdv A outer s H B ow ds d Q E hgd hr hR k => ?_
  obtain ⟨i, C, fl, hi, rfl, rfl⟩ := hR
  refine' rn_set (i := 1) (d := .lst [.bl (tb i 0), .bl (tb i 1), .bl (tb i 2)]) scCls.nd rfl (by first | exact .inl rfl | exact .inr rfl) ?h ?k
  case h => exact ve_lst (by walk_at "vja") (by show 3 ≤ 100000; decide)
  case k =>
  intro B1 e1
  refine' rn_set (i := 1) (d := .lst ([.bl (tb i 0), .bl (tb i 1), .bl (tb i 2)] ++ [.bl (tb i 3), .bl (tb i 4), .bl (tb i 5)])) scCls.nd rfl (by first | exact .inl rfl | exact .inr rfl) ?h ?k
  case h => exact ve_bin (ve_var (i := 1) rfl rfl (by walk_at "vis")) (ve_lst (ds := [.bl (tb i 3), .bl (tb i 4), .bl (tb i 5)]) (by walk_at "vja") (by show 3 ≤ 100000; decide)) (bo_cat (by show 6 ≤ 100000; decide))
  case k =>
  intro B2 e2
  refine' rn_set (i := 1) (d := .lst (([.bl (tb i 0), .bl (tb i 1), .bl (tb i 2)] ++ [.bl (tb i 3), .bl (tb i 4), .bl (tb i 5)]) ++ [.bl (tb i 6), .bl (tb i 7), .bl (tb i 8)])) scCls.nd rfl (by first | exact .inl rfl | exact .inr rfl) ?h ?k
  case h => exact ve_bin (ve_var (i := 1) rfl rfl (by walk_at "vis")) (ve_lst (ds := [.bl (tb i 6), .bl (tb i 7), .bl (tb i 8)]) (by walk_at "vja") (by show 3 ≤ 100000; decide)) (bo_cat (by show 9 ≤ 100000; decide))
  case k =>
  intro B3 e3
  refine' rn_set (i := 1) (d := .lst ((([.bl (tb i 0), .bl (tb i 1), .bl (tb i 2)] ++ [.bl (tb i 3), .bl (tb i 4), .bl (tb i 5)]) ++ [.bl (tb i 6), .bl (tb i 7), .bl (tb i 8)]) ++ [.bl (tb i 9), .bl (tb i 10), .bl (tb i 11)])) scCls.nd rfl (by first | exact .inl rfl | exact .inr rfl) ?h ?k
  case h => exact ve_bin (ve_var (i := 1) rfl rfl (by walk_at "vis")) (ve_lst (ds := [.bl (tb i 9), .bl (tb i 10), .bl (tb i 11)]) (by walk_at "vja") (by show 3 ≤ 100000; decide)) (bo_cat (by show 12 ≤ 100000; decide))
  case k =>
  intro B4 e4
  refine' rn_set (i := 1) (d := .lst (((([.bl (tb i 0), .bl (tb i 1), .bl (tb i 2)] ++ [.bl (tb i 3), .bl (tb i 4), .bl (tb i 5)]) ++ [.bl (tb i 6), .bl (tb i 7), .bl (tb i 8)]) ++ [.bl (tb i 9), .bl (tb i 10), .bl (tb i 11)]) ++ [.bl (tb i 12), .bl (tb i 13), .bl (tb i 14)])) scCls.nd rfl (by first | exact .inl rfl | exact .inr rfl) ?h ?k
  case h => exact ve_bin (ve_var (i := 1) rfl rfl (by walk_at "vis")) (ve_lst (ds := [.bl (tb i 12), .bl (tb i 13), .bl (tb i 14)]) (by walk_at "vja") (by show 3 ≤ 100000; decide)) (bo_cat (by show 15 ≤ 100000; decide))
  case k =>
  intro B5 e5
  refine' rn_setCat (j := 1) (l := (((([.bl (tb i 0), .bl (tb i 1), .bl (tb i 2)] ++ [.bl (tb i 3), .bl (tb i 4), .bl (tb i 5)]) ++ [.bl (tb i 6), .bl (tb i 7), .bl (tb i 8)]) ++ [.bl (tb i 9), .bl (tb i 10), .bl (tb i 11)]) ++ [.bl (tb i 12), .bl (tb i 13), .bl (tb i 14)])) (m := [.bl (tb i 15), .bl (tb i 16), .bl (tb i 17)]) scCls.nd rfl (by first | exact .inl rfl | exact .inr rfl) ?h1 ?h2 ?hl ?k
  case h1 => exact ve_var (i := 1) rfl rfl (by walk_at "vis")
  case h2 => exact ve_lst (by walk_at "vja") (by show 3 ≤ 100000; decide)
  case hl => show 18 ≤ 100000; decide
  case k =>
  intro B6 q e6 hq
  refine' rn_app (q := q) (d := .bl (tb i 18)) ?ho ou_same ?he ?hl ?k
  case ho => exact ve_var (i := 1) rfl rfl (by walk_at "vis")
  case he => walk_at "vj"
  case hl => show 18 < 100000; decide
  case k =>
  intro B7 e7
  refine' rn_freeze (j := 1) (q := q) rfl ou_same ?k
  case k =>
  intro B8 e8
  refine' rn_set (i := 2) (d := .lst [.bl (tb i 19), .bl (tb i 20), .bl (tb i 21)]) scCls.nd rfl (by first | exact .inl rfl | exact .inr rfl) ?h ?k
  case h => exact ve_lst (by walk_at "vja") (by show 3 ≤ 100000; decide)
  case k =>
  intro B9 e9
  refine' rn_set (i := 2) (d := .lst ([.bl (tb i 19), .bl (tb i 20), .bl (tb i 21)] ++ [.bl (tb i 22), .bl (tb i 23), .bl (tb i 24)])) scCls.nd rfl (by first | exact .inl rfl | exact .inr rfl) ?h ?k
  case h => exact ve_bin (ve_var (i := 2) rfl rfl (by walk_at "vis")) (ve_lst (ds := [.bl (tb i 22), .bl (tb i 23), .bl (tb i 24)]) (by walk_at "vja") (by show 3 ≤ 100000; decide)) (bo_cat (by show 6 ≤ 100000; decide))
  case k =>
  intro B10 e10
  refine' rn_retS (ow0 := ow) ?h ?sub (k.ex (e1.trans (e2.trans (e3.trans (e4.trans (e5.trans (e6.trans (e7.trans (e8.trans (e9.trans e10))))))))))
  case sub =>
    intro b o hb
    have hbq : b ≠ q := fun z => by rw [z, hq] at hb; cases hb
    rw [oz_ne hbq, ou_ne hbq, ou_ne hbq]
    exact hb
  case h =>
    refine' ve_bin ?ha ?hb (bo_cat ?hl)
    case ha =>
      refine' ve_lc (j := 3) (kpA i) (fun d => d) rfl scCls.nd (vi_range1 rfl mR ve_int (by decide)) (blkOk_by (N := ["e", "found", "above", "at"]) (sc := defScope sCls) (by decide +kernel)) (by decide) ?hg ?ht ?he
      case hg => exact fun _ _ _ _ _ => pg_name scCls.nd rfl (.inl rfl)
      case ht =>
        intro d ow' hd sub s0 H0 C0 cl fp
        obtain ⟨k0, hk0, rfl⟩ := rangeD_mem hd
        refine vts_one (vt_val ?_)
        refine' ve_sub (d := .bl (tb i k0)) (ve_var (d := .lst (fnd i)) (i := 1) rfl rfl (by walk_at "vis")) (ve_var (i := 3) rfl rfl (by walk_at "vis")) (fun _ _ => rfl) (xo_lst ?hx)
        case hx =>
          rw [atI_nat (by unfold fnd; rw [List.length_map, List.length_range]; exact hk0)]
          simp [fnd]
      case he =>
        intro d ow' hd hk sub s0 H0 C0 cl fp
        exact ve_var (i := 3) rfl rfl (by walk_at "vis")
    case hb =>
      refine' ve_lc (j := 3) (kpB i) f20 rfl scCls.nd (vi_range1 rfl mR ve_int (by decide)) (blkOk_by (N := ["e", "found", "above", "at"]) (sc := defScope sCls) (by decide +kernel)) (by decide) ?hg ?ht ?he
      case hg => exact fun _ _ _ _ _ => pg_name scCls.nd rfl (.inl rfl)
      case ht =>
        intro d ow' hd sub s0 H0 C0 cl fp
        obtain ⟨k0, hk0, rfl⟩ := rangeD_mem hd
        refine vts_one (vt_val ?_)
        refine' ve_sub (d := .bl (tb i (19 + k0))) (ve_var (d := .lst (abv i)) (i := 2) rfl rfl (by walk_at "vis")) (ve_var (i := 3) rfl rfl (by walk_at "vis")) (fun _ _ => rfl) (xo_lst ?hx)
        case hx =>
          rw [atI_nat (by unfold abv; rw [List.length_map, List.length_range]; exact hk0)]
          simp [abv]
      case he =>
        intro d ow' hd hk sub s0 H0 C0 cl fp
        obtain ⟨k0, hk0, rfl⟩ := rangeD_mem hd
        exact ve_bin ve_int (ve_var (i := 3) rfl rfl (by walk_at "vis")) bo_add
    case hl =>
      have h1 : ∀ p : D → Bool, ((rangeD 0 (19 : Int).toNat).filter p).length ≤ 19 := fun p => Nat.le_trans (List.length_filter_le _ _) (by rw [rangeD_len]; decide)
      have h2 : ∀ p : D → Bool, ((rangeD 0 (6 : Int).toNat).filter p).length ≤ 6 := fun p => Nat.le_trans (List.length_filter_le _ _) (by rw [rangeD_len]; decide)
      have z1 := h1 (kpA i)
      have z2 := h2 (kpB i)
      rw [List.length_map, List.length_map]
      omega
end
end K1

set_option Elab.async false
set_option linter.all false
set_option maxRecDepth 100000
set_option maxHeartbeats 4000000
namespace K1
open PySem L2 Vd
open PySem.Spec PyProof.Rows
/-! the walk over data -/
local macro_rules | `(tactic| walk_at "vis") => `(tactic| first | exact Or.inl rfl | exact Or.inr (Or.inl rfl) | exact Or.inr (Or.inr rfl))
local macro_rules | `(tactic| walk_at "none") => `(tactic| first | assumption)
local macro_rules | `(tactic| walk_at "num") => `(tactic| first | decide | omega)
local macro_rules | `(tactic| walk_at "vr") => `(tactic| first
  | exact bo_add | exact bo_sub | exact bo_mulR (by decide) | exact bo_mulL (by decide) | exact bo_mod (by walk_at "num") | exact bo_div (by walk_at "num") (by walk_at "num") | exact bo_pow (by decide) (by decide) (by decide) | exact bo_cat (by walk_at "num") | exact bo_mulR (by omega) | exact bo_mulL (by omega))
local macro_rules | `(tactic| walk_at "vq") => `(tactic| first
  | exact co_lt | exact co_le | exact co_gt | exact co_ge | exact co_eqI | exact co_neI | exact co_eqS | exact co_neS)
local macro_rules | `(tactic| walk_at "vx") => `(tactic| first
  | exact xo_own (by assumption) rfl | exact xo_lst rfl | exact xo_tup rfl)
local macro_rules | `(tactic| walk_at "vf") => `(tactic| first
  | exact fo_abs | exact fo_lenL | exact fo_lenT | exact fo_lenO (by assumption) | exact fo_divmod (by walk_at "num") (by walk_at "num") | exact fo_max rfl | exact fo_min rfl)
local macro_rules | `(tactic| walk_at "vn") => `(tactic| first
  | exact ve_var (i := 0) rfl rfl (by walk_at "vis") | exact ve_var (i := 1) rfl rfl (by walk_at "vis") | exact ve_var (i := 2) rfl rfl (by walk_at "vis") | exact ve_var (i := 3) rfl rfl (by walk_at "vis") | exact ve_var (i := 4) rfl rfl (by walk_at "vis") | exact ve_var (i := 5) rfl rfl (by walk_at "vis") | exact ve_var (i := 6) rfl rfl (by walk_at "vis") | exact ve_var (i := 7) rfl rfl (by walk_at "vis"))
local macro_rules | `(tactic| walk_at "vd") => `(tactic| first
  | exact ve_int | exact ve_bl | exact ve_non | exact ve_str
  | (refine' ve_bin ?ha ?hb ?hr; (case ha => walk_at "vd"); (case hb => walk_at "vd"); (case hr => walk_at "vr"))
  | (refine' ve_sub ?ha ?hb (fun _ _ => rfl) ?hr; (case ha => walk_at "vd"); (case hb => walk_at "vd"); (case hr => walk_at "vx"))
  | (refine' ve_ty (id := "int") ?ha rfl ?hm boot_int ?hr; (case ha => walk_at "va"); (case hm => walk_at "none"); (case hr => exact to_int))
  | (refine' ve_bi ?ha rfl ?hm ?hv ?hr; (case hv => first | exact boot_abs | exact boot_len | exact boot_divmod | exact boot_max | exact boot_min); (case ha => walk_at "va"); (case hm => walk_at "none"); (case hr => walk_at "vf"))
  | (refine' ve_tup ?ha ?hl; (case ha => walk_at "va"); (case hl => walk_at "num"))
  | (refine' ve_lst ?ha ?hl; (case ha => walk_at "va"); (case hl => walk_at "num"))
  | (refine' ve_comp ?ha ?hb ?hr; (case ha => walk_at "vd"); (case hb => walk_at "vd"); (case hr => walk_at "vq"))
  | walk_at "vn")
local macro_rules | `(tactic| walk_at "va") => `(tactic| first | exact va_nil | (refine' va_cons ?ha ?hb; (case ha => walk_at "vd"); (case hb => walk_at "va")))
local macro_rules | `(tactic| walk_at "vt") => `(tactic| first
  | (refine' vt_comp ?ha ?hb ?hr; (case ha => walk_at "vd"); (case hb => walk_at "vd"); (case hr => walk_at "vq"))
  | (refine' vt_val ?hv; case hv => walk_at "vd"))
def fldN (i : Nat) : Str := if i = 13 ∨ i = 14 ∨ i = 16 ∨ i = 17 then "index" else "given"
/-- the errors, with and without a field -/
structure Ers (P : Program) (w : World) (K : PySem.W.Frag) (mg : Str → Option Value) (base : Heap) (Cs : List Addr) : Prop where
  one : ∀ i x, i < 18 → nmL[i]? = some x → C1 P w K mg base x (Cs.getD i 0) (fldN i)
  zero : ∀ i x, 18 ≤ i → nmL[i]? = some x → C0 P w K mg base x (Cs.getD i 0)
def exD (Cs : List Addr) (i : Nat) (d : D) : D := .exc (Cs.getD i 0) [(fldN i, d)]
section
variable {X : Cx} {env : List (Option D)} {ow : Ow} {Cs : List Addr} {i : Nat} {x f : Str} {e : Expr} {d : D} {pos p kp : Pos}
theorem ve_e1 (Es : Ers X.prog X.w X.K X.mg X.base Cs) (hi : i < 18) (hx : nmL[i]? = some x) (hr : Room 2 X.A) (hg : Gl X x) (h : Ve X e env ow d) (hdb : (x == ("__debug__" : Str)) = false) (he : starEach (e :: []) X.env = (false, eval e X.env) :: starEach [] X.env := by rfl) (hpl : (backTo pos (starEach [] X.env)).any (·.1) = false := by rfl) :
    Ve X (.Call (.Name x p) [e] [] pos) env ow (exD Cs i d) := by
  obtain ⟨gl, fI, k, fd, xk, F1, hb, hb2⟩ := Es.one i x hi hx
  exact ve_xc1 xk F1 hr hb hg gl h hdb he hpl
theorem ve_ek (Es : Ers X.prog X.w X.K X.mg X.base Cs) (hi : i < 18) (hx : nmL[i]? = some x) (hf : f = fldN i) (hr : Room 2 X.A) (hg : Gl X x) (h : Ve X e env ow d) (hdb : (x == ("__debug__" : Str)) = false)
    (hall : (backToKw pos (keywordEach [⟨some f, e, kp⟩] X.env)).all (·.1.isSome) = true := by rfl) (hks : (backToKw pos (keywordEach [⟨some f, e, kp⟩] X.env)).filterMap (·.1) = [f] := by rfl)
    (hpl : ((backTo pos (starEach [] X.env)).any (·.1) || (backToKw pos (keywordEach [⟨some f, e, kp⟩] X.env)).any (·.1.isNone)) = false := by rfl) (hkw : PK X [⟨some f, e, kp⟩] (tCons (WpE X e) tNil) := by exact pk_cons pe_can pk_nil) :
    Ve X (.Call (.Name x p) [] [⟨some f, e, kp⟩] pos) env ow (exD Cs i d) := by
  subst hf
  obtain ⟨gl, fI, k, fd, xk, F1, hb, hb2⟩ := Es.one i x hi hx
  exact ve_xck xk F1 hr hb2 hg gl h hall hks hdb hpl hkw
theorem ve_e0 (Es : Ers X.prog X.w X.K X.mg X.base Cs) (hi : 18 ≤ i) (hx : nmL[i]? = some x) (hr : Room 2 X.A) (hg : Gl X x) (hdb : (x == ("__debug__" : Str)) = false) : Ve X (.Call (.Name x p) [] [] pos) env ow (.exc (Cs.getD i 0) []) := by
  obtain ⟨gl, fI, k, fd, xk, F1, hb⟩ := Es.zero i x hi hx
  exact ve_xc0 xk F1 hr hb hg gl hdb
end
abbrev sGiv : Stmt := top 35
theorem scGiv : FnScope ["thing", "found"] ["thing"] (defScope sGiv) := ⟨rfl, rfl, rfl, by decide +kernel, rfl, by decide +kernel, by decide +kernel⟩
def prD (Cs : List Addr) (t : D) (i : Nat) : D := .lst [exD Cs i t, exD Cs i t]
def RGiv (Cs : List Addr) (ds : List D) (d : D) : Prop := ∃ t, ds = [t] ∧ d = .lst ((List.range 13).map (prD Cs t))
local macro_rules | `(tactic| walk_at "ve") => `(tactic| first
  | exact ve_e1 (by assumption) (by decide) rfl (by assumption) rfl (ve_var (i := 0) rfl rfl (by walk_at "vis")) (by decide)
  | exact ve_ek (by assumption) (by decide) rfl rfl (by assumption) rfl (ve_var (i := 0) rfl rfl (by walk_at "vis")) (by decide))
local macro_rules | `(tactic| walk_at "vp") => `(tactic| (refine' ve_lst (va_cons ?ha (va_cons ?hb va_nil)) ?hl; (case ha => walk_at "ve"); (case hb => walk_at "ve"); (case hl => show 2 ≤ 100000; decide)))
local macro_rules | `(tactic| walk_at "vps") => `(tactic| first | exact va_nil | (refine' va_cons ?ha ?hb; (case ha => walk_at "vp"); (case hb => walk_at "vps")))
section
variable {P : Program} {w : World} {K : PySem.W.Frag} {mg : Str → Option Value} {base : Heap}
theorem ok_given {f : Addr} {fd : FuncData} {Cs : List Addr} (Fn : Fun K "_law_given" "_law_given" sGiv f fd) (Es : Ers P w K mg base Cs) : FnG P w K mg base CX0 3 f fd ["thing"] (spR K (RGiv Cs)) := by
  refine okR Fn scGiv (fun ds d ⟨t, e, _⟩ => by rw [e]; rfl) fun cdv A outer s H B ow ds d Q E hgd hr hR k => ?_
  obtain ⟨t, rfl, rfl⟩ := hR
  refine' rn_newL (j := 1) (ds := [.lst [exD Cs 0 t, exD Cs 0 t], .lst [exD Cs 1 t, exD Cs 1 t]]) scGiv.nd rfl (by first | exact .inl rfl | exact .inr rfl) ?h ?hl ?k
  case h => walk_at "vps"
  case hl => show 2 ≤ 100000; decide
  case k =>
  intro B1 q e1 hq
  refine' rn_app (q := q) (d := .lst [exD Cs 2 t, exD Cs 2 t]) ?ho ou_same ?he ?hl ?k
  case ho => exact ve_var (i := 1) rfl rfl (by walk_at "vis")
  case he => walk_at "vp"
  case hl => show 2 < 100000; decide
  case k =>
  intro B2 e2
  refine' rn_freeze (j := 1) (q := q) rfl ou_same ?k
  case k =>
  intro B3 e3
  refine' rn_set (i := 1) (d := .lst (([.lst [exD Cs 0 t, exD Cs 0 t], .lst [exD Cs 1 t, exD Cs 1 t]] ++ [.lst [exD Cs 2 t, exD Cs 2 t]]) ++ [.lst [exD Cs 3 t, exD Cs 3 t], .lst [exD Cs 4 t, exD Cs 4 t]])) scGiv.nd rfl (by first | exact .inl rfl | exact .inr rfl) ?h ?k
  case h => exact ve_bin (ve_var (i := 1) rfl rfl (by walk_at "vis")) (ve_lst (ds := [.lst [exD Cs 3 t, exD Cs 3 t], .lst [exD Cs 4 t, exD Cs 4 t]]) (by walk_at "vps") (by show 2 ≤ 100000; decide)) (bo_cat (by show 5 ≤ 100000; decide))
  case k =>
  intro B4 e4
  refine' rn_setCat (j := 1) (l := (([.lst [exD Cs 0 t, exD Cs 0 t], .lst [exD Cs 1 t, exD Cs 1 t]] ++ [.lst [exD Cs 2 t, exD Cs 2 t]]) ++ [.lst [exD Cs 3 t, exD Cs 3 t], .lst [exD Cs 4 t, exD Cs 4 t]])) (m := [.lst [exD Cs 5 t, exD Cs 5 t], .lst [exD Cs 6 t, exD Cs 6 t]]) scGiv.nd rfl (by first | exact .inl rfl | exact .inr rfl) ?h1 ?h2 ?hl ?k
  case h1 => exact ve_var (i := 1) rfl rfl (by walk_at "vis")
  case h2 => exact ve_lst (by walk_at "vps") (by show 2 ≤ 100000; decide)
  case hl => show 7 ≤ 100000; decide
  case k =>
  intro B5 q2 e5 hq2
  refine' rn_app (q := q2) (d := .lst [exD Cs 7 t, exD Cs 7 t]) ?ho ou_same ?he ?hl ?k
  case ho => exact ve_var (i := 1) rfl rfl (by walk_at "vis")
  case he => walk_at "vp"
  case hl => show 7 < 100000; decide
  case k =>
  intro B6 e6
  refine' rn_app (q := q2) (d := .lst [exD Cs 8 t, exD Cs 8 t]) ?ho ou_same ?he ?hl ?k
  case ho => exact ve_var (i := 1) rfl rfl (by walk_at "vis")
  case he => walk_at "vp"
  case hl => show 8 < 100000; decide
  case k =>
  intro B7 e7
  refine' rn_freeze (j := 1) (q := q2) rfl ou_same ?k
  case k =>
  intro B8 e8
  refine' rn_set (i := 1) (d := .lst (((((([.lst [exD Cs 0 t, exD Cs 0 t], .lst [exD Cs 1 t, exD Cs 1 t]] ++ [.lst [exD Cs 2 t, exD Cs 2 t]]) ++ [.lst [exD Cs 3 t, exD Cs 3 t], .lst [exD Cs 4 t, exD Cs 4 t]]) ++ [.lst [exD Cs 5 t, exD Cs 5 t], .lst [exD Cs 6 t, exD Cs 6 t]]) ++ [.lst [exD Cs 7 t, exD Cs 7 t]]) ++ [.lst [exD Cs 8 t, exD Cs 8 t]]) ++ [.lst [exD Cs 9 t, exD Cs 9 t], .lst [exD Cs 10 t, exD Cs 10 t]])) scGiv.nd rfl (by first | exact .inl rfl | exact .inr rfl) ?h ?k
  case h => exact ve_bin (ve_var (i := 1) rfl rfl (by walk_at "vis")) (ve_lst (ds := [.lst [exD Cs 9 t, exD Cs 9 t], .lst [exD Cs 10 t, exD Cs 10 t]]) (by walk_at "vps") (by show 2 ≤ 100000; decide)) (bo_cat (by show 11 ≤ 100000; decide))
  case k =>
  intro B9 e9
  refine' rn_retS (ow0 := ow) ?h ?sub (k.ex (e1.trans (e2.trans (e3.trans (e4.trans (e5.trans (e6.trans (e7.trans (e8.trans e9)))))))))
  case h => exact ve_bin (ve_var (i := 1) rfl rfl (by walk_at "vis")) (ve_lst (ds := [.lst [exD Cs 11 t, exD Cs 11 t], .lst [exD Cs 12 t, exD Cs 12 t]]) (by walk_at "vps") (by show 2 ≤ 100000; decide)) (bo_cat (by show 13 ≤ 100000; decide))
  case sub =>
    intro b o hb
    have n1 : b ≠ q := fun z => by rw [z, hq] at hb; cases hb
    have hq2' : ow q2 = none ∨ q2 = q := by
      by_cases z : q2 = q
      · exact .inr z
      · refine .inl ?_
        rw [oz_ne z, ou_ne z, ou_ne z] at hq2
        exact hq2
    have n2 : b ≠ q2 := fun z => by
      rcases hq2' with y | y
      · rw [z, y] at hb; cases hb
      · exact n1 (z.trans y)
    rw [oz_ne n2, ou_ne n2, ou_ne n2, ou_ne n2, oz_ne n1, ou_ne n1, ou_ne n1]
    exact hb
end
end K1

set_option Elab.async false
set_option linter.all false
set_option maxRecDepth 100000
set_option maxHeartbeats 4000000
namespace K1
open PySem L2 Vd
open PySem.Spec PyProof.Rows
/-! the walk over data -/
local macro_rules | `(tactic| walk_at "vis") => `(tactic| first | exact Or.inl rfl | exact Or.inr (Or.inl rfl) | exact Or.inr (Or.inr rfl))
local macro_rules | `(tactic| walk_at "none") => `(tactic| first | assumption)
local macro_rules | `(tactic| walk_at "num") => `(tactic| first | decide | omega)
local macro_rules | `(tactic| walk_at "vr") => `(tactic| first
  | exact bo_add | exact bo_sub | exact bo_mulR (by decide) | exact bo_mulL (by decide) | exact bo_mod (by walk_at "num") | exact bo_div (by walk_at "num") (by walk_at "num") | exact bo_pow (by decide) (by decide) (by decide) | exact bo_cat (by walk_at "num") | exact bo_mulR (by omega) | exact bo_mulL (by omega))
local macro_rules | `(tactic| walk_at "vq") => `(tactic| first
  | exact co_lt | exact co_le | exact co_gt | exact co_ge | exact co_eqI | exact co_neI | exact co_eqS | exact co_neS)
local macro_rules | `(tactic| walk_at "vx") => `(tactic| first
  | exact xo_own (by assumption) rfl | exact xo_lst rfl | exact xo_tup rfl)
local macro_rules | `(tactic| walk_at "vf") => `(tactic| first
  | exact fo_abs | exact fo_lenL | exact fo_lenT | exact fo_lenO (by assumption) | exact fo_divmod (by walk_at "num") (by walk_at "num") | exact fo_max rfl | exact fo_min rfl)
local macro_rules | `(tactic| walk_at "vn") => `(tactic| first
  | exact ve_var (i := 0) rfl rfl (by walk_at "vis") | exact ve_var (i := 1) rfl rfl (by walk_at "vis") | exact ve_var (i := 2) rfl rfl (by walk_at "vis") | exact ve_var (i := 3) rfl rfl (by walk_at "vis") | exact ve_var (i := 4) rfl rfl (by walk_at "vis") | exact ve_var (i := 5) rfl rfl (by walk_at "vis") | exact ve_var (i := 6) rfl rfl (by walk_at "vis") | exact ve_var (i := 7) rfl rfl (by walk_at "vis"))
local macro_rules | `(tactic| walk_at "vd") => `(tactic| first
  | exact ve_int | exact ve_bl | exact ve_non | exact ve_str
  | (refine' ve_bin ?ha ?hb ?hr; (case ha => walk_at "vd"); (case hb => walk_at "vd"); (case hr => walk_at "vr"))
  | (refine' ve_sub ?ha ?hb (fun _ _ => rfl) ?hr; (case ha => walk_at "vd"); (case hb => walk_at "vd"); (case hr => walk_at "vx"))
  | (refine' ve_ty (id := "int") ?ha rfl ?hm boot_int ?hr; (case ha => walk_at "va"); (case hm => walk_at "none"); (case hr => exact to_int))
  | (refine' ve_bi ?ha rfl ?hm ?hv ?hr; (case hv => first | exact boot_abs | exact boot_len | exact boot_divmod | exact boot_max | exact boot_min); (case ha => walk_at "va"); (case hm => walk_at "none"); (case hr => walk_at "vf"))
  | (refine' ve_tup ?ha ?hl; (case ha => walk_at "va"); (case hl => walk_at "num"))
  | (refine' ve_lst ?ha ?hl; (case ha => walk_at "va"); (case hl => walk_at "num"))
  | (refine' ve_comp ?ha ?hb ?hr; (case ha => walk_at "vd"); (case hb => walk_at "vd"); (case hr => walk_at "vq"))
  | walk_at "vn")
local macro_rules | `(tactic| walk_at "va") => `(tactic| first | exact va_nil | (refine' va_cons ?ha ?hb; (case ha => walk_at "vd"); (case hb => walk_at "va")))
local macro_rules | `(tactic| walk_at "vt") => `(tactic| first
  | (refine' vt_comp ?ha ?hb ?hr; (case ha => walk_at "vd"); (case hb => walk_at "vd"); (case hr => walk_at "vq"))
  | (refine' vt_val ?hv; case hv => walk_at "vd"))
section
variable {X : Cx} {env : List (Option D)} {ow : Ow} {Cs : List Addr} {i k : Nat} {x f : Str} {e : Expr} {es : List Expr} {d : D} {ds : List D} {pos p kp : Pos}
theorem ve_R {fa : Addr} {fd : FuncData} {ps : List Str} {R : List D → D → Prop} (Fn : FnG X.prog X.w X.K X.mg X.base CX0 k fa fd ps (spR X.K R)) (hgd : X.A.guards = some []) (hr : Room k X.A) (hg : Gl X x) (hm : X.mg x = some (.ref fa)) (hk : PySem.W.keepIn X.K (.ref fa) = true) (hb : Binds X.K fd ps []) (ha : Va X (e :: es) env ow ds) (hR : R ds d)
    (hdb : (x == ("__debug__" : Str)) = false := by decide) (he : starEach (e :: es) X.env = (false, eval e X.env) :: starEach es X.env := by rfl) (hpl : (backTo pos (starEach es X.env)).any (·.1) = false := by rfl) : Ve X (.Call (.Name x p) (e :: es) [] pos) env ow d :=
  ve_call Fn hgd hr hg hm hk hb .nil pass0 ha (fun F H vs Q w r k0 => by
    rw [List.append_nil]
    exact ⟨F, ow, ds, d, w, r, hR, k0⟩) hdb he hpl
theorem ve_fld (Es : Ers X.prog X.w X.K X.mg X.base Cs) (hi : i < 18) (hx : nmL[i]? = some x) (hf : f = fldN i) (h : Ve X e env ow (exD Cs i d)) (hb : attributeBase e f X.env (eval e X.env) = eval e X.env := by rfl) : Ve X (.Attribute e f pos) env ow d := by
  subst hf
  obtain ⟨gl, fI, k, fd, xk, F1, hb1, hb2⟩ := Es.one i x hi hx
  exact ve_fx xk h (by simp [List.lookup]) hb
theorem ve_neg {i : Int} (h : Ve X e env ow (.int i)) : Ve X (.UnaryOp .USub e pos) env ow (.int (-i)) := ve_un un_neg h (.mk fun F H x Q w r k => by
  cases r
  exact ⟨_, rfl, k.here w (.int _)⟩)
end
theorem getD_get {Cs : List Addr} (h : Cs.length = 22) {i : Nat} (hi : i < 22) : Cs[i]? = some (Cs.getD i 0) := by
  have : i < Cs.length := by omega
  simp [this]
def rw3 (a b c : Int) (t : Str) : D := .lst [.int a, .int b, .int c, .str t]
def gv (d : D) : Prop := ∃ t, TextOf d t ∧ ∀ a b c, (D.lst [rw3 a b c t, rw3 a b c t]).eqOk = true
def thD : List D := [.non, .int 0, .int (-3), .bl true, .str "a", .str "", .tup [], .tup [.int 1, .int 2], .lst [], .lst [.int 7], .dct (dkD []), .dct (dkD [("a", 1)]), .int ((10 : Int) ^ (30 : Int).toNat), .tup [.str "set", .int 3]]
theorem gv_plain {d : D} (h : d.textOk = true) (q : PyData.canLay0 (.str d.py.shown) = true) : gv d := ⟨_, text_plain h, fun a b c => by
  unfold rw3 D.eqOk D.plain SeqAt.shaped
  simp only [D.py, pyL, plainL, D.plain, PyData.canLay0, PyData.canLayAll0, PyData.depth, PyData.depthAll] at q ⊢
  rw [q]
  rfl⟩
theorem gv_dict {l : List (Str × Int)} (h : dictOk l = true) (q : PyData.canLay0 (.str (PyData.dict (dkP l)).shown) = true) : gv (.dct (dkD l)) := ⟨_, text_dict h, fun a b c => by
  unfold rw3 D.eqOk D.plain SeqAt.shaped
  simp only [D.py, pyL, plainL, D.plain, PyData.canLay0, PyData.canLayAll0, PyData.depth, PyData.depthAll] at q ⊢
  rw [q]
  rfl⟩
theorem gv_all : ∀ d ∈ thD, gv d := by
  intro d hd
  simp only [thD, List.mem_cons, List.not_mem_nil, or_false] at hd
  rcases hd with rfl | rfl | rfl | rfl | rfl | rfl | rfl | rfl | rfl | rfl | rfl | rfl | rfl | rfl
  · exact gv_plain (by decide +kernel) (by decide +kernel)
  · exact gv_plain (by decide +kernel) (by decide +kernel)
  · exact gv_plain (by decide +kernel) (by decide +kernel)
  · exact gv_plain (by decide +kernel) (by decide +kernel)
  · exact gv_plain (by decide +kernel) (by decide +kernel)
  · exact gv_plain (by decide +kernel) (by decide +kernel)
  · exact gv_plain (by decide +kernel) (by decide +kernel)
  · exact gv_plain (by decide +kernel) (by decide +kernel)
  · exact gv_plain (by decide +kernel) (by decide +kernel)
  · exact gv_plain (by decide +kernel) (by decide +kernel)
  · exact gv_dict (by decide +kernel) (by decide +kernel)
  · exact gv_dict (by decide +kernel) (by decide +kernel)
  · exact gv_plain (by decide +kernel) (by decide +kernel)
  · exact gv_plain (by decide +kernel) (by decide +kernel)
theorem clsD_low : ∀ i : Nat, i < 15 → clsD i = [.int i, .int 20, .int 23]
  | 0, _ => rfl | 1, _ => rfl | 2, _ => rfl | 3, _ => rfl | 4, _ => rfl | 5, _ => rfl | 6, _ => rfl | 7, _ => rfl | 8, _ => rfl | 9, _ => rfl | 10, _ => rfl | 11, _ => rfl | 12, _ => rfl | 13, _ => rfl | 14, _ => rfl
  | n + 15, h => absurd h (by omega)
theorem nm_at : ∀ i : Nat, i < 18 → ∃ x, nmL[i]? = some x := fun i h => ⟨nmL[i]'(by show i < 22; omega), by simp [nmL]⟩
theorem fld_low {i : Nat} (h : i < 13) : fldN i = "given" := if_neg (by omega)
end K1

set_option Elab.async false
set_option linter.all false
set_option maxRecDepth 100000
set_option maxHeartbeats 4000000
namespace K1
open PySem L2 Vd
open PySem.Spec PyProof.Rows
/-! the walk over data -/
local macro_rules | `(tactic| walk_at "vis") => `(tactic| first | exact Or.inl rfl | exact Or.inr (Or.inl rfl) | exact Or.inr (Or.inr rfl))
local macro_rules | `(tactic| walk_at "none") => `(tactic| first | assumption)
local macro_rules | `(tactic| walk_at "num") => `(tactic| first | decide | omega)
local macro_rules | `(tactic| walk_at "vr") => `(tactic| first
  | exact bo_add | exact bo_sub | exact bo_mulR (by decide) | exact bo_mulL (by decide) | exact bo_mod (by walk_at "num") | exact bo_div (by walk_at "num") (by walk_at "num") | exact bo_pow (by decide) (by decide) (by decide) | exact bo_cat (by walk_at "num") | exact bo_mulR (by omega) | exact bo_mulL (by omega))
local macro_rules | `(tactic| walk_at "vq") => `(tactic| first
  | exact co_lt | exact co_le | exact co_gt | exact co_ge | exact co_eqI | exact co_neI | exact co_eqS | exact co_neS)
local macro_rules | `(tactic| walk_at "vx") => `(tactic| first
  | exact xo_own (by assumption) rfl | exact xo_lst rfl | exact xo_tup rfl)
local macro_rules | `(tactic| walk_at "vf") => `(tactic| first
  | exact fo_abs | exact fo_lenL | exact fo_lenT | exact fo_lenO (by assumption) | exact fo_divmod (by walk_at "num") (by walk_at "num") | exact fo_max rfl | exact fo_min rfl)
local macro_rules | `(tactic| walk_at "vn") => `(tactic| first
  | exact ve_var (i := 0) rfl rfl (by walk_at "vis") | exact ve_var (i := 1) rfl rfl (by walk_at "vis") | exact ve_var (i := 2) rfl rfl (by walk_at "vis") | exact ve_var (i := 3) rfl rfl (by walk_at "vis") | exact ve_var (i := 4) rfl rfl (by walk_at "vis") | exact ve_var (i := 5) rfl rfl (by walk_at "vis") | exact ve_var (i := 6) rfl rfl (by walk_at "vis") | exact ve_var (i := 7) rfl rfl (by walk_at "vis"))
local macro_rules | `(tactic| walk_at "vd") => `(tactic| first
  | exact ve_int | exact ve_bl | exact ve_non | exact ve_str
  | (refine' ve_bin ?ha ?hb ?hr; (case ha => walk_at "vd"); (case hb => walk_at "vd"); (case hr => walk_at "vr"))
  | (refine' ve_sub ?ha ?hb (fun _ _ => rfl) ?hr; (case ha => walk_at "vd"); (case hb => walk_at "vd"); (case hr => walk_at "vx"))
  | (refine' ve_ty (id := "int") ?ha rfl ?hm boot_int ?hr; (case ha => walk_at "va"); (case hm => walk_at "none"); (case hr => exact to_int))
  | (refine' ve_bi ?ha rfl ?hm ?hv ?hr; (case hv => first | exact boot_abs | exact boot_len | exact boot_divmod | exact boot_max | exact boot_min); (case ha => walk_at "va"); (case hm => walk_at "none"); (case hr => walk_at "vf"))
  | (refine' ve_tup ?ha ?hl; (case ha => walk_at "va"); (case hl => walk_at "num"))
  | (refine' ve_lst ?ha ?hl; (case ha => walk_at "va"); (case hl => walk_at "num"))
  | (refine' ve_comp ?ha ?hb ?hr; (case ha => walk_at "vd"); (case hb => walk_at "vd"); (case hr => walk_at "vq"))
  | walk_at "vn")
local macro_rules | `(tactic| walk_at "va") => `(tactic| first | exact va_nil | (refine' va_cons ?ha ?hb; (case ha => walk_at "vd"); (case hb => walk_at "va")))
local macro_rules | `(tactic| walk_at "vt") => `(tactic| first
  | (refine' vt_comp ?ha ?hb ?hr; (case ha => walk_at "vd"); (case hb => walk_at "vd"); (case hr => walk_at "vq"))
  | (refine' vt_val ?hv; case hv => walk_at "vd"))
abbrev sRig : Stmt := top 36
theorem scRig : FnScope ["cup", "things", "thing", "at", "both", "e", "some"] ["cup"] (defScope sRig) := ⟨rfl, rfl, rfl, by decide +kernel, rfl, by decide +kernel, by decide +kernel⟩
def GRig (ds : List D) : Prop := ds = []
def RRig (ds : List D) (d : D) : Prop := d = .bl true
local macro_rules | `(tactic| walk_at "vg") => `(tactic| first
  | exact ve_non | exact ve_bl | exact ve_str | exact ve_int | exact ve_dict0 | exact ve_dict1
  | exact ve_neg ve_int | exact ve_bin ve_int ve_int (bo_pow (by decide) (by decide) (by decide))
  | (refine' ve_tup ?ha ?hl; (case ha => walk_at "vgs"); (case hl => first | exact Nat.zero_le _ | (show 2 ≤ 100000; decide)))
  | (refine' ve_lst ?ha ?hl; (case ha => walk_at "vgs"); (case hl => first | exact Nat.zero_le _ | (show 1 ≤ 100000; decide))))
local macro_rules | `(tactic| walk_at "vgs") => `(tactic| first | exact va_nil | (refine' va_cons ?ha ?hb; (case ha => walk_at "vg"); (case hb => walk_at "vgs")))
local macro_rules | `(tactic| walk_at "vw") => `(tactic| first
  | exact ve_e1 (by assumption) (by decide) rfl (by assumption) rfl (ve_var (i := 2) rfl rfl (by walk_at "vis")) (by decide)
  | exact ve_ek (by assumption) (by decide) rfl rfl (by assumption) rfl (ve_var (i := 2) rfl rfl (by walk_at "vis")) (by decide))
local macro_rules | `(tactic| walk_at "vwp") => `(tactic| (refine' ve_lst (va_cons ?ha (va_cons ?hb va_nil)) ?hl; (case ha => walk_at "vw"); (case hb => walk_at "vw"); (case hl => show 2 ≤ 100000; decide)))
section
variable {P : Program} {w : World} {K : PySem.W.Frag} {mg : Str → Option Value} {base : Heap}
set_option maxHeartbeats 8000000 in
theorem ok_right {f fP fG fC : Addr} {fd fdP fdG fdC : FuncData} {Cs : List Addr} (Fn : Fun K "_law_right" "_law_right" sRig f fd) (FP : FnG P w K mg base CX0 2 fP fdP ["cup", "things"] (spC K GPick RPick)) (mP : mg "_law_pick" = some (.ref fP)) (kP : PySem.W.keepIn K (.ref fP) = true) (bP : Binds K fdP ["cup", "things"] [])
    (FG : FnG P w K mg base CX0 3 fG fdG ["thing"] (spR K (RGiv Cs))) (mG : mg "_law_given" = some (.ref fG)) (kG : PySem.W.keepIn K (.ref fG) = true) (bG : Binds K fdG ["thing"] [])
    (FC : FnG P w K mg base CX0 1 fC fdC ["e"] (spR K (RCls Cs))) (mC : mg "_law_classes" = some (.ref fC)) (kC : PySem.W.keepIn K (.ref fC) = true) (bC : Binds K fdC ["e"] [])
    (Es : Ers P w K mg base Cs) (hCs : Cs.length = 22) (mRp : mg "repr" = none) (mEn : mg "enumerate" = none) : FnG P w K mg base CX0 4 f fd ["cup"] (spC K GRig RRig) := by
  refine okC Fn scRig (fun ds e => by rw [e]; rfl) fun cdv A outer s H B ow c ds Q E hgd hr hG hc k => ?_
  obtain rfl : ds = [] := hG
  have hu : A.units + 3 + 66 < cLine := by
    have z := hr.un
    have z2 : A.units + 3 + 16 * 3 + 200 < cLine := z
    omega
  have hu64 : A.units + 3 + 64 < cLine := by omega
  have hr2 : Room 2 (A.deeper (envOfC "_law_right" (defScope sRig) s.heap.objs.size f cdv)) := hr.mono (by decide)
  have hr1 : Room 1 (A.deeper (envOfC "_law_right" (defScope sRig) s.heap.objs.size f cdv)) := hr.mono (by decide)
  refine' rn_set (i := 1) (d := .lst thD) scRig.nd rfl (by first | exact .inl rfl | exact .inr rfl) ?h ?k
  case h => exact ve_lst (by walk_at "vgs") (by show 14 ≤ 100000; decide)
  case k =>
  intro B1 e1
  refine' rn_setM (i := 2) scRig.nd rfl (by first | exact .inl rfl | exact .inr rfl) (vm_draw FP hgd hr2 rfl mP kP bP (va_cons (ve_var (i := 0) rfl rfl (by walk_at "vis")) (va_cons (ve_var (i := 1) rfl rfl (by walk_at "vis")) va_nil)) hc ⟨thD, rfl, by decide, by decide⟩) ?k
  case k =>
  rintro B2 t ow2 e2 ⟨s2, c2, l, el, ht⟩
  obtain rfl : thD = l := by
    injection el with z1 z2
    injection z1
  obtain ⟨tx, hT, hQ⟩ := gv_all t ht
  refine' rn_for (ds := enumD 0 ((List.range 13).map (prD Cs t))) (g := gTup K 2 (gCons (gName 3) (gCons (gName 4) gNil))) (f := (fun d env => match d with | .tup [a, b] => (env.set 3 (some a)).set 4 (some b) | _ => env)) (fun (n : Nat) env ow' => ow2 = ow' ∧ ∃ a b z : Option D, env = [some (.ob (.ref c)), some (.lst thD), some t, a, b, none, z]) PassesOwn.never rfl ?hi (pg_tup rfl (pgs_cons (pg_name scRig.nd rfl (.inl rfl)) (pgs_cons (pg_name scRig.nd rfl (.inl rfl)) pgs_nil))) ?hgd ⟨rfl, none, none, none, rfl⟩ ?hs ?hd
  case hi =>
    exact vi_enum rfl mEn (ve_R FG hgd hr rfl mG kG bG (va_cons (ve_var (i := 2) rfl rfl (by walk_at "vis")) va_nil) ⟨t, rfl, rfl⟩)
  case hgd =>
    intro ow' d hd
    obtain ⟨n, hn⟩ := List.mem_iff_getElem?.mp hd
    obtain ⟨x, hx, rfl⟩ := enumD_get hn
    exact gd_two 3 4
  case hs =>
    rintro B3 i d env' ow' e3 hd ⟨rfl, a, b, z, rfl⟩
    obtain ⟨x0, hx0, rfl⟩ := enumD_get hd
    obtain ⟨hi, rfl⟩ : i < 13 ∧ x0 = prD Cs t i := by
      rw [List.getElem?_map] at hx0
      by_cases q : i < 13
      · have y : (List.range 13)[i]? = some i := by simp [q]
        rw [y] at hx0
        exact ⟨q, (Option.some.inj hx0).symm⟩
      · have y : (List.range 13)[i]? = none := by simp; omega
        rw [y] at hx0
        cases hx0
    obtain ⟨x, hx⟩ := nm_at i (by omega)
    have e0 : ((0 + i : Nat) : Int) = (i : Int) := by simp
    rw [e0]
    refine' rn_if (t := false) ?h ?h1 ?h2
    case h =>
      refine' vt_comp (d1 := .lst [rw3 (i : Int) 20 23 tx, rw3 (i : Int) 20 23 tx]) ?ha ?hb (co_neR hu64 (hQ _ _ _))
      case ha =>
        exact ve_is (d := .lst [rw3 (i : Int) 20 23 tx, rw3 (i : Int) 20 23 tx]) (by
        refine' ve_lc (j := 5) (fun _ => true) (fun _ => rw3 (i : Int) 20 23 tx) rfl scRig.nd (vi_list (ve_var (d := prD Cs t i) (i := 4) rfl rfl (by walk_at "vis"))) (blkOk_by (N := ["cup", "things", "thing", "at", "both", "e", "some"]) (sc := defScope sRig) (by decide +kernel)) ?ul ?ug (fun _ _ _ _ _ _ _ _ _ => vts_nil) ?ue
        case ul => show 2 ≤ 100000; decide
        case ug => exact fun _ _ _ _ _ => pg_name scRig.nd rfl (.inl rfl)
        case ue =>
          intro d ow' hd _ sub s0 H0 C0 cl fp
          obtain rfl : d = exD Cs i t := by simpa using hd
          refine' ve_bin (d1 := .lst (clsD i)) (d2 := .lst [.str tx]) ?ua ?ub (bo_to (bo_cat ?uz) ?uq)
          case ua => exact ve_R FC hgd hr1 rfl mC kC bC (va_cons (ve_var (i := 5) rfl rfl (by walk_at "vis")) va_nil) ⟨i, _, _, getD_get hCs (by omega), rfl, rfl⟩
          case ub =>
            refine' ve_lst (va_cons ?uc va_nil) ?ud
            case uc => exact ve_bi (va_cons (ve_fld Es (by omega) hx (fld_low hi).symm (ve_var (i := 5) rfl rfl (by walk_at "vis"))) va_nil) rfl mRp boot_repr (hT _ _ hgd hu)
            case ud => show 1 ≤ 100000; decide
          case uz => rw [clsD_low i (by omega)]; show 4 ≤ 100000; decide
          case uq => rw [clsD_low i (by omega)]; rfl) rfl
      case hb =>
        exact ve_bin (d1 := .lst [rw3 (i : Int) 20 23 tx]) (d2 := .int 2) (ve_lst (va_cons (ve_lst (va_cons (ve_var (i := 3) rfl rfl (by walk_at "vis")) (va_cons ve_int (va_cons ve_int (va_cons (ve_bi (va_cons (ve_var (i := 2) rfl rfl (by walk_at "vis")) va_nil) rfl mRp boot_repr (hT _ _ hgd hu)) va_nil)))) (by show 4 ≤ 100000; decide)) va_nil) (by show 1 ≤ 100000; decide)) ve_int (bo_to (bo_rep ⟨by decide, by decide, by show 1 ≤ 1000; decide⟩) rfl)
    case h1 => exact fun z => nomatch z
    case h2 =>
      intro _ B4 e4
      refine rn_go ?_
      refine rn_nextW ?_ e4
      exact ⟨rfl, _, _, _, rfl⟩
  case hd =>
  rintro B3 env' ow' e3 ⟨rfl, a, b, z, rfl⟩
  refine' rn_set (i := 6) (d := .lst [prD Cs t 13, prD Cs t 14]) scRig.nd rfl (by first | exact .inl rfl | exact .inr rfl) ?h ?k
  case h =>
    refine' ve_lst (va_cons ?ha (va_cons ?hb va_nil)) ?hl
    case ha => walk_at "vwp"
    case hb => walk_at "vwp"
    case hl => show 2 ≤ 100000; decide
  case k =>
  intro B4 e4
  refine' rn_for (ds := enumD 0 [prD Cs t 13, prD Cs t 14]) (g := gTup K 2 (gCons (gName 3) (gCons (gName 4) gNil))) (f := (fun d env => match d with | .tup [a, b] => (env.set 3 (some a)).set 4 (some b) | _ => env)) (fun (n : Nat) env ow' => ow2 = ow' ∧ ∃ a b : Option D, env = [some (.ob (.ref c)), some (.lst thD), some t, a, b, none, some (.lst [prD Cs t 13, prD Cs t 14])]) PassesOwn.never rfl ?hi (pg_tup rfl (pgs_cons (pg_name scRig.nd rfl (.inl rfl)) (pgs_cons (pg_name scRig.nd rfl (.inl rfl)) pgs_nil))) ?hgd ⟨rfl, a, b, rfl⟩ ?hs ?hd
  case hi => exact vi_enum rfl mEn (ve_var (i := 6) rfl rfl (by walk_at "vis"))
  case hgd =>
    intro ow' d hd
    obtain ⟨n, hn⟩ := List.mem_iff_getElem?.mp hd
    obtain ⟨x, hx, rfl⟩ := enumD_get hn
    exact gd_two 3 4
  case hs =>
    rintro B5 i d env' ow' e5 hd ⟨rfl, a, b, rfl⟩
    obtain ⟨x0, hx0, rfl⟩ := enumD_get hd
    obtain ⟨j, hj0, hj, rfl⟩ : ∃ j : Nat, (13 ≤ j ∧ j < 15) ∧ ((j : Nat) : Int) = 13 + ((0 + i : Nat) : Int) ∧ x0 = prD Cs t j := by
      match i, hx0 with
      | 0, hx0 => exact ⟨13, by decide, rfl, (Option.some.inj hx0).symm⟩
      | 1, hx0 => exact ⟨14, by decide, rfl, (Option.some.inj hx0).symm⟩
      | n + 2, hx0 => simp at hx0
    obtain ⟨x, hx⟩ := nm_at j (by omega)
    have hf : "index" = fldN j := by
      unfold fldN
      rw [if_pos (by omega)]
    refine' rn_if (t := false) ?h ?h1 ?h2
    case h =>
      refine' vt_comp (d1 := .lst [rw3 (j : Int) 20 23 tx, rw3 (j : Int) 20 23 tx]) ?ha ?hb (co_neR hu64 (hQ _ _ _))
      case ha =>
        exact ve_is (d := .lst [rw3 (j : Int) 20 23 tx, rw3 (j : Int) 20 23 tx]) (by
        refine' ve_lc (j := 5) (fun _ => true) (fun _ => rw3 (j : Int) 20 23 tx) rfl scRig.nd (vi_list (ve_var (d := prD Cs t j) (i := 4) rfl rfl (by walk_at "vis"))) (blkOk_by (N := ["cup", "things", "thing", "at", "both", "e", "some"]) (sc := defScope sRig) (by decide +kernel)) ?ul ?ug (fun _ _ _ _ _ _ _ _ _ => vts_nil) ?ue
        case ul => show 2 ≤ 100000; decide
        case ug => exact fun _ _ _ _ _ => pg_name scRig.nd rfl (.inl rfl)
        case ue =>
          intro d ow' hd _ sub s0 H0 C0 cl fp
          obtain rfl : d = exD Cs j t := by simpa using hd
          refine' ve_bin (d1 := .lst (clsD j)) (d2 := .lst [.str tx]) ?ua ?ub (bo_to (bo_cat ?uz) ?uq)
          case ua => exact ve_R FC hgd hr1 rfl mC kC bC (va_cons (ve_var (i := 5) rfl rfl (by walk_at "vis")) va_nil) ⟨j, _, _, getD_get hCs (by omega), rfl, rfl⟩
          case ub =>
            refine' ve_lst (va_cons ?uc va_nil) ?ud
            case uc => exact ve_bi (va_cons (ve_fld Es (by omega) hx hf (ve_var (i := 5) rfl rfl (by walk_at "vis"))) va_nil) rfl mRp boot_repr (hT _ _ hgd hu)
            case ud => show 1 ≤ 100000; decide
          case uz => rw [clsD_low j (by omega)]; show 4 ≤ 100000; decide
          case uq => rw [clsD_low j (by omega)]; rfl) rfl
      case hb =>
        exact ve_bin (d1 := .lst [rw3 (j : Int) 20 23 tx]) (d2 := .int 2) (ve_lst (va_cons (ve_lst (va_cons (ve_is (ve_bin ve_int (ve_var (i := 3) rfl rfl (by walk_at "vis")) bo_add) (by rw [hj])) (va_cons ve_int (va_cons ve_int (va_cons (ve_bi (va_cons (ve_var (i := 2) rfl rfl (by walk_at "vis")) va_nil) rfl mRp boot_repr (hT _ _ hgd hu)) va_nil)))) (by show 4 ≤ 100000; decide)) va_nil) (by show 1 ≤ 100000; decide)) ve_int (bo_to (bo_rep ⟨by decide, by decide, by show 1 ≤ 1000; decide⟩) rfl)
    case h1 => exact fun z => nomatch z
    case h2 =>
      intro _ B6 e6
      refine rn_go ?_
      refine rn_nextW ?_ e6
      exact ⟨rfl, _, _, rfl⟩
  case hd =>
  rintro B5 env' ow' e5 ⟨rfl, a', b', rfl⟩
  refine' rn_set (i := 4) (d := prD Cs t 15) scRig.nd rfl (by first | exact .inl rfl | exact .inr rfl) ?h ?k
  case h => walk_at "vwp"
  case k =>
  intro B6 e6
  refine' rn_if (t := false) ?h ?h1 ?h2
  case h =>
      refine' vt_comp (d1 := .lst [rw3 15 21 24 tx, rw3 15 21 24 tx]) ?ha ?hb (co_neR hu64 (hQ _ _ _))
      case ha =>
        exact ve_is (d := .lst [rw3 15 21 24 tx, rw3 15 21 24 tx]) (by
        refine' ve_lc (j := 5) (fun _ => true) (fun _ => rw3 15 21 24 tx) rfl scRig.nd (vi_list (ve_var (d := prD Cs t 15) (i := 4) rfl rfl (by walk_at "vis"))) (blkOk_by (N := ["cup", "things", "thing", "at", "both", "e", "some"]) (sc := defScope sRig) (by decide +kernel)) ?ul ?ug (fun _ _ _ _ _ _ _ _ _ => vts_nil) ?ue
        case ul => show 2 ≤ 100000; decide
        case ug => exact fun _ _ _ _ _ => pg_name scRig.nd rfl (.inl rfl)
        case ue =>
          intro d ow' hd _ sub s0 H0 C0 cl fp
          obtain rfl : d = exD Cs 15 t := by simpa using hd
          refine' ve_bin (d1 := .lst (clsD 15)) (d2 := .lst [.str tx]) ?ua ?ub (bo_to (bo_cat ?uz) ?uq)
          case ua => exact ve_R FC hgd hr1 rfl mC kC bC (va_cons (ve_var (i := 5) rfl rfl (by walk_at "vis")) va_nil) ⟨15, _, _, getD_get hCs (by decide), rfl, rfl⟩
          case ub =>
            refine' ve_lst (va_cons ?uc va_nil) ?ud
            case uc => exact ve_bi (va_cons (ve_fld Es (by decide) (x := "UnknownName") rfl rfl (ve_var (i := 5) rfl rfl (by walk_at "vis"))) va_nil) rfl mRp boot_repr (hT _ _ hgd hu)
            case ud => show 1 ≤ 100000; decide
          case uz => rw [show clsD 15 = [.int 15, .int 21, .int 24] from rfl]; show 4 ≤ 100000; decide
          case uq => rw [show clsD 15 = [.int 15, .int 21, .int 24] from rfl]; rfl) rfl
      case hb =>
        exact ve_bin (d1 := .lst [rw3 15 21 24 tx]) (d2 := .int 2) (ve_lst (va_cons (ve_lst (va_cons (ve_int) (va_cons ve_int (va_cons ve_int (va_cons (ve_bi (va_cons (ve_var (i := 2) rfl rfl (by walk_at "vis")) va_nil) rfl mRp boot_repr (hT _ _ hgd hu)) va_nil)))) (by show 4 ≤ 100000; decide)) va_nil) (by show 1 ≤ 100000; decide)) ve_int (bo_to (bo_rep ⟨by decide, by decide, by show 1 ≤ 1000; decide⟩) rfl)
  case h1 => exact fun z => nomatch z
  case h2 =>
  intro _ B7 e7
  refine rn_go ?_
  refine' rn_set (i := 4) (d := prD Cs t 16) scRig.nd rfl (by first | exact .inl rfl | exact .inr rfl) ?h ?k
  case h => walk_at "vwp"
  case k =>
  intro B8 e8
  refine' rn_if (t := false) ?h ?h1 ?h2
  case h =>
      refine' vt_comp (d1 := .lst [rw3 16 21 24 tx, rw3 16 21 24 tx]) ?ha ?hb (co_neR hu64 (hQ _ _ _))
      case ha =>
        exact ve_is (d := .lst [rw3 16 21 24 tx, rw3 16 21 24 tx]) (by
        refine' ve_lc (j := 5) (fun _ => true) (fun _ => rw3 16 21 24 tx) rfl scRig.nd (vi_list (ve_var (d := prD Cs t 16) (i := 4) rfl rfl (by walk_at "vis"))) (blkOk_by (N := ["cup", "things", "thing", "at", "both", "e", "some"]) (sc := defScope sRig) (by decide +kernel)) ?ul ?ug (fun _ _ _ _ _ _ _ _ _ => vts_nil) ?ue
        case ul => show 2 ≤ 100000; decide
        case ug => exact fun _ _ _ _ _ => pg_name scRig.nd rfl (.inl rfl)
        case ue =>
          intro d ow' hd _ sub s0 H0 C0 cl fp
          obtain rfl : d = exD Cs 16 t := by simpa using hd
          refine' ve_bin (d1 := .lst (clsD 16)) (d2 := .lst [.str tx]) ?ua ?ub (bo_to (bo_cat ?uz) ?uq)
          case ua => exact ve_R FC hgd hr1 rfl mC kC bC (va_cons (ve_var (i := 5) rfl rfl (by walk_at "vis")) va_nil) ⟨16, _, _, getD_get hCs (by decide), rfl, rfl⟩
          case ub =>
            refine' ve_lst (va_cons ?uc va_nil) ?ud
            case uc => exact ve_bi (va_cons (ve_fld Es (by decide) (x := "InUse") rfl rfl (ve_var (i := 5) rfl rfl (by walk_at "vis"))) va_nil) rfl mRp boot_repr (hT _ _ hgd hu)
            case ud => show 1 ≤ 100000; decide
          case uz => rw [show clsD 16 = [.int 16, .int 21, .int 24] from rfl]; show 4 ≤ 100000; decide
          case uq => rw [show clsD 16 = [.int 16, .int 21, .int 24] from rfl]; rfl) rfl
      case hb =>
        exact ve_bin (d1 := .lst [rw3 16 21 24 tx]) (d2 := .int 2) (ve_lst (va_cons (ve_lst (va_cons (ve_int) (va_cons ve_int (va_cons ve_int (va_cons (ve_bi (va_cons (ve_var (i := 2) rfl rfl (by walk_at "vis")) va_nil) rfl mRp boot_repr (hT _ _ hgd hu)) va_nil)))) (by show 4 ≤ 100000; decide)) va_nil) (by show 1 ≤ 100000; decide)) ve_int (bo_to (bo_rep ⟨by decide, by decide, by show 1 ≤ 1000; decide⟩) rfl)
  case h1 => exact fun z => nomatch z
  case h2 =>
  intro _ B9 e9
  refine rn_go ?_
  refine' rn_set (i := 4) (d := prD Cs t 17) scRig.nd rfl (by first | exact .inl rfl | exact .inr rfl) ?h ?k
  case h => walk_at "vwp"
  case k =>
  intro B10 e10
  refine' rn_retC (d := .bl true) ?h k (e1.trans (e2.trans (e3.trans (e4.trans (e5.trans (e6.trans (e7.trans (e8.trans (e9.trans e10))))))))) s2 c2 rfl
  case h =>
      refine' ve_comp (d1 := .lst [rw3 17 22 25 tx, rw3 17 22 25 tx]) ?ha ?hb (co_eqR hu64 (hQ _ _ _))
      case ha =>
        exact ve_is (d := .lst [rw3 17 22 25 tx, rw3 17 22 25 tx]) (by
        refine' ve_lc (j := 5) (fun _ => true) (fun _ => rw3 17 22 25 tx) rfl scRig.nd (vi_list (ve_var (d := prD Cs t 17) (i := 4) rfl rfl (by walk_at "vis"))) (blkOk_by (N := ["cup", "things", "thing", "at", "both", "e", "some"]) (sc := defScope sRig) (by decide +kernel)) ?ul ?ug (fun _ _ _ _ _ _ _ _ _ => vts_nil) ?ue
        case ul => show 2 ≤ 100000; decide
        case ug => exact fun _ _ _ _ _ => pg_name scRig.nd rfl (.inl rfl)
        case ue =>
          intro d ow' hd _ sub s0 H0 C0 cl fp
          obtain rfl : d = exD Cs 17 t := by simpa using hd
          refine' ve_bin (d1 := .lst (clsD 17)) (d2 := .lst [.str tx]) ?ua ?ub (bo_to (bo_cat ?uz) ?uq)
          case ua => exact ve_R FC hgd hr1 rfl mC kC bC (va_cons (ve_var (i := 5) rfl rfl (by walk_at "vis")) va_nil) ⟨17, _, _, getD_get hCs (by decide), rfl, rfl⟩
          case ub =>
            refine' ve_lst (va_cons ?uc va_nil) ?ud
            case uc => exact ve_bi (va_cons (ve_fld Es (by decide) (x := "Broken") rfl rfl (ve_var (i := 5) rfl rfl (by walk_at "vis"))) va_nil) rfl mRp boot_repr (hT _ _ hgd hu)
            case ud => show 1 ≤ 100000; decide
          case uz => rw [show clsD 17 = [.int 17, .int 22, .int 25] from rfl]; show 4 ≤ 100000; decide
          case uq => rw [show clsD 17 = [.int 17, .int 22, .int 25] from rfl]; rfl) rfl
      case hb =>
        exact ve_bin (d1 := .lst [rw3 17 22 25 tx]) (d2 := .int 2) (ve_lst (va_cons (ve_lst (va_cons (ve_int) (va_cons ve_int (va_cons ve_int (va_cons (ve_bi (va_cons (ve_var (i := 2) rfl rfl (by walk_at "vis")) va_nil) rfl mRp boot_repr (hT _ _ hgd hu)) va_nil)))) (by show 4 ≤ 100000; decide)) va_nil) (by show 1 ≤ 100000; decide)) ve_int (bo_to (bo_rep ⟨by decide, by decide, by show 1 ≤ 1000; decide⟩) rfl)
end
end K1

set_option Elab.async false
set_option linter.all false
set_option maxRecDepth 100000
set_option maxHeartbeats 4000000
namespace K1
open PySem L2 Vd
open PySem.Spec PyProof.Rows
/-! the walk over data -/
local macro_rules | `(tactic| walk_at "vis") => `(tactic| first | exact Or.inl rfl | exact Or.inr (Or.inl rfl) | exact Or.inr (Or.inr rfl))
local macro_rules | `(tactic| walk_at "none") => `(tactic| first | assumption)
local macro_rules | `(tactic| walk_at "num") => `(tactic| first | decide | omega)
local macro_rules | `(tactic| walk_at "vr") => `(tactic| first
  | exact bo_add | exact bo_sub | exact bo_mulR (by decide) | exact bo_mulL (by decide) | exact bo_mod (by walk_at "num") | exact bo_div (by walk_at "num") (by walk_at "num") | exact bo_pow (by decide) (by decide) (by decide) | exact bo_cat (by walk_at "num") | exact bo_mulR (by omega) | exact bo_mulL (by omega))
local macro_rules | `(tactic| walk_at "vq") => `(tactic| first
  | exact co_lt | exact co_le | exact co_gt | exact co_ge | exact co_eqI | exact co_neI | exact co_eqS | exact co_neS)
local macro_rules | `(tactic| walk_at "vx") => `(tactic| first
  | exact xo_own (by assumption) rfl | exact xo_lst rfl | exact xo_tup rfl)
local macro_rules | `(tactic| walk_at "vf") => `(tactic| first
  | exact fo_abs | exact fo_lenL | exact fo_lenT | exact fo_lenO (by assumption) | exact fo_divmod (by walk_at "num") (by walk_at "num") | exact fo_max rfl | exact fo_min rfl)
local macro_rules | `(tactic| walk_at "vn") => `(tactic| first
  | exact ve_var (i := 0) rfl rfl (by walk_at "vis") | exact ve_var (i := 1) rfl rfl (by walk_at "vis") | exact ve_var (i := 2) rfl rfl (by walk_at "vis") | exact ve_var (i := 3) rfl rfl (by walk_at "vis") | exact ve_var (i := 4) rfl rfl (by walk_at "vis") | exact ve_var (i := 5) rfl rfl (by walk_at "vis") | exact ve_var (i := 6) rfl rfl (by walk_at "vis") | exact ve_var (i := 7) rfl rfl (by walk_at "vis"))
local macro_rules | `(tactic| walk_at "vd") => `(tactic| first
  | exact ve_int | exact ve_bl | exact ve_non | exact ve_str
  | (refine' ve_bin ?ha ?hb ?hr; (case ha => walk_at "vd"); (case hb => walk_at "vd"); (case hr => walk_at "vr"))
  | (refine' ve_sub ?ha ?hb (fun _ _ => rfl) ?hr; (case ha => walk_at "vd"); (case hb => walk_at "vd"); (case hr => walk_at "vx"))
  | (refine' ve_ty (id := "int") ?ha rfl ?hm boot_int ?hr; (case ha => walk_at "va"); (case hm => walk_at "none"); (case hr => exact to_int))
  | (refine' ve_bi ?ha rfl ?hm ?hv ?hr; (case hv => first | exact boot_abs | exact boot_len | exact boot_divmod | exact boot_max | exact boot_min); (case ha => walk_at "va"); (case hm => walk_at "none"); (case hr => walk_at "vf"))
  | (refine' ve_tup ?ha ?hl; (case ha => walk_at "va"); (case hl => walk_at "num"))
  | (refine' ve_lst ?ha ?hl; (case ha => walk_at "va"); (case hl => walk_at "num"))
  | (refine' ve_comp ?ha ?hb ?hr; (case ha => walk_at "vd"); (case hb => walk_at "vd"); (case hr => walk_at "vq"))
  | walk_at "vn")
local macro_rules | `(tactic| walk_at "va") => `(tactic| first | exact va_nil | (refine' va_cons ?ha ?hb; (case ha => walk_at "vd"); (case hb => walk_at "va")))
local macro_rules | `(tactic| walk_at "vt") => `(tactic| first
  | (refine' vt_comp ?ha ?hb ?hr; (case ha => walk_at "vd"); (case hb => walk_at "vd"); (case hr => walk_at "vq"))
  | (refine' vt_val ?hv; case hv => walk_at "vd"))
abbrev sLaw : Stmt := top 37
theorem scLaw : FnScope ["script", "told", "bare", "e", "spot"] ["script"] (defScope sLaw) := ⟨rfl, rfl, rfl, by decide +kernel, rfl, by decide +kernel, by decide +kernel⟩
/-- the constants -/
structure Cst (mg : Str → Option Value) : Prop where
  c0 : ∃ t, mg "MOST_ORDERS" = some (.int 8 t)
  c1 : ∃ t, mg "MOST_STEPS" = some (.int 9 t)
  c2 : ∃ t, mg "MOST_COUNT" = some (.int 100 t)
  c3 : ∃ t, mg "MOST_PERIOD" = some (.int 1000 t)
  c4 : ∃ t, mg "MOST_REACH" = some (.int 50 t)
  c5 : ∃ t, mg "MOST_MOVE" = some (.int 1000 t)
  c6 : ∃ t, mg "GREATEST" = some (.int 1000000000000000000000000000000 t)
theorem ve_cst {X : Cx} {env : List (Option D)} {ow : Ow} {x : Str} {pos : Pos} {i : Int} (h : ∃ t, X.mg x = some (.int i t)) (hg : Gl X x) (hx : (x == ("__debug__" : Str)) = false) : Ve X (.Name x pos) env ow (.int i) := by
  obtain ⟨t, e⟩ := h
  exact ve_glob (v := .int i) hg e ⟨t, rfl⟩ (fun _ => .int _) hx
def cstD : List D := [.int 8, .int 9, .int 100, .int 1000, .int 50, .int 1000, .int 1000000000000000000000000000000]
def barD (Cs : List Addr) : List D := (List.range 4).map fun n => .exc (Cs.getD (18 + n) 0) []
def bclD : List D := (List.range 4).map fun n => .lst (clsD (18 + n))
local macro_rules | `(tactic| walk_at "vg") => `(tactic| first
  | exact ve_int | exact ve_bin ve_int ve_int (bo_pow (by decide) (by decide) (by decide))
  | (refine' ve_lst ?ha ?hl; (case ha => walk_at "vgs"); (case hl => first | (show 2 ≤ 100000; decide) | (show 3 ≤ 100000; decide) | (show 4 ≤ 100000; decide) | (show 7 ≤ 100000; decide))))
local macro_rules | `(tactic| walk_at "vgs") => `(tactic| first | exact va_nil | (refine' va_cons ?ha ?hb; (case ha => walk_at "vg"); (case hb => walk_at "vgs")))
section
variable {P : Program} {w : World} {K : PySem.W.Frag} {mg : Str → Option Value} {base : Heap}
theorem ok_law {f fU fR fC : Addr} {fd fdU fdR fdC : FuncData} {Cs : List Addr} (Fn : Fun K "law" "law" sLaw f fd) (FU : FnG P w K mg base CX0 1 fU fdU ["script", "spot"] (spCup K)) (mU : mg "_law_cup" = some (.ref fU)) (kU : PySem.W.keepIn K (.ref fU) = true) (bU : Binds K fdU ["script", "spot"] [])
    (FR : FnG P w K mg base CX0 4 fR fdR ["cup"] (spC K GRig RRig)) (mR : mg "_law_right" = some (.ref fR)) (kR : PySem.W.keepIn K (.ref fR) = true) (bR : Binds K fdR ["cup"] [])
    (FC : FnG P w K mg base CX0 1 fC fdC ["e"] (spR K (RCls Cs))) (mC : mg "_law_classes" = some (.ref fC)) (kC : PySem.W.keepIn K (.ref fC) = true) (bC : Binds K fdC ["e"] [])
    (Es : Ers P w K mg base Cs) (hCs : Cs.length = 22) (ct : Cst mg) (mRp : mg "repr" = none) (mAll : mg "all" = none) (mRg : mg "range" = none) (mMx : mg "max" = none) (mMn : mg "min" = none) (mLn : mg "len" = none) : FnG P w K mg base CX0 6 f fd ["script"] (spLaw K) := by
  refine okG Fn scLaw (fun vs H Q E ⟨F, a, ns, e, _⟩ => by rw [e]; rfl) fun cdv A outer s H vs Q E hgd hr ⟨F, a, ns, e, wo, hS, hn, kQ⟩ => ?_
  subst e
  refine ⟨F, fun _ => none, [.rol (ns.map D.int)], wo, .cons (.rol hS (Rps.ints ns)) .nil, ?_⟩
  have hu : A.units + 3 + 66 < cLine := by
    have z := hr.un
    have z2 : A.units + 3 + 16 * 5 + 200 < cLine := z
    omega
  have hu64 : A.units + 3 + 64 < cLine := by omega
  have hr4 : Room 4 (A.deeper (envOfC "law" (defScope sLaw) s.heap.objs.size f cdv)) := hr.mono (by decide)
  have hr2 : Room 2 (A.deeper (envOfC "law" (defScope sLaw) s.heap.objs.size f cdv)) := hr.mono (by decide)
  have hr1 : Room 1 (A.deeper (envOfC "law" (defScope sLaw) s.heap.objs.size f cdv)) := hr.mono (by decide)
  refine' rn_set (i := 1) (d := .lst cstD) scLaw.nd rfl (by first | exact .inl rfl | exact .inr rfl) ?h ?k
  case h =>
    exact ve_lst (va_cons (ve_cst ct.c0 rfl (by decide)) (va_cons (ve_cst ct.c1 rfl (by decide)) (va_cons (ve_cst ct.c2 rfl (by decide)) (va_cons (ve_cst ct.c3 rfl (by decide)) (va_cons (ve_cst ct.c4 rfl (by decide)) (va_cons (ve_cst ct.c5 rfl (by decide)) (va_cons (ve_cst ct.c6 rfl (by decide)) (va_nil)))))))) (by show 7 ≤ 100000; decide)
  case k =>
  intro B1 e1
  refine' rn_if (t := false) ?h ?h1 ?h2
  case h =>
    refine' vt_comp (d1 := .str (D.lst cstD).py.shown) (d2 := .str (D.lst cstD).py.shown) ?ha ?hb co_neSR
    case ha => exact ve_bi (va_cons (ve_var (i := 1) rfl rfl (by walk_at "vis")) va_nil) rfl mRp boot_repr (fo_repr hgd hu (by decide +kernel))
    case hb => exact ve_bi (va_cons (ve_is (by walk_at "vg") (by rfl : D.lst [.int 8, .int 9, .int 100, .int 1000, .int 50, .int 1000, .int ((10 : Int) ^ (30 : Int).toNat)] = .lst cstD)) va_nil) rfl mRp boot_repr (fo_repr hgd hu (by decide +kernel))
  case h1 => exact fun z => nomatch z
  case h2 =>
  intro _ B2 e2
  refine rn_go ?_
  refine' rn_set (i := 2) (d := .lst (barD Cs)) scLaw.nd rfl (by first | exact .inl rfl | exact .inr rfl) ?h ?k
  case h =>
    exact ve_lst (va_cons (ve_e0 (i := 18) Es (by decide) rfl hr2 rfl (by decide)) (va_cons (ve_e0 (i := 19) Es (by decide) rfl hr2 rfl (by decide)) (va_cons (ve_e0 (i := 20) Es (by decide) rfl hr2 rfl (by decide)) (va_cons (ve_e0 (i := 21) Es (by decide) rfl hr2 rfl (by decide)) va_nil)))) (by show 4 ≤ 100000; decide)
  case k =>
  intro B3 e3
  refine' rn_if (t := false) ?h ?h1 ?h2
  case h =>
    refine' vt_comp (d1 := .lst bclD) (d2 := .lst bclD) ?ha ?hb (co_neR hu64 (by decide +kernel))
    case ha =>
      refine' ve_lcZ (j := 3) bclD ?ul rfl scLaw.nd (vi_list (ve_var (i := 2) rfl rfl (by walk_at "vis"))) (blkOk_by (N := ["script", "told", "bare", "e", "spot"]) (sc := defScope sLaw) (by decide +kernel)) ?um ?ug ?ue
      case ul => rfl
      case um => show 4 ≤ 100000; decide
      case ug => exact fun _ _ _ _ _ => pg_name scLaw.nd rfl (.inl rfl)
      case ue =>
        intro n d r ow' hd hr' sub s0 H0 C0 cl fp
        obtain ⟨hn4, rfl, rfl⟩ : n < 4 ∧ d = .exc (Cs.getD (18 + n) 0) [] ∧ r = .lst (clsD (18 + n)) := by
          unfold barD at hd
          unfold bclD at hr'
          rw [List.getElem?_map] at hd hr'
          by_cases q : n < 4
          · have y : (List.range 4)[n]? = some n := by simp [q]
            rw [y] at hd hr'
            exact ⟨q, (Option.some.inj hd).symm, (Option.some.inj hr').symm⟩
          · have y : (List.range 4)[n]? = none := by simp; omega
            rw [y] at hd
            cases hd
        exact ve_R FC hgd hr1 rfl mC kC bC (va_cons (ve_var (i := 3) rfl rfl (by walk_at "vis")) va_nil) ⟨18 + n, _, _, getD_get hCs (by omega), rfl, rfl⟩
    case hb => exact ve_is (by walk_at "vg") (by rfl : D.lst [.lst [.int 18, .int 22, .int 25], .lst [.int 20, .int 23], .lst [.int 21, .int 24], .lst [.int 22, .int 25]] = .lst bclD)
  case h1 => exact fun z => nomatch z
  case h2 =>
  intro _ B4 e4
  refine rn_go ?_
  have hlen : ((ns.map D.int).length : Int) = ns.length := by rw [List.length_map]
  obtain ⟨M0, hM0⟩ : ∃ M0 : Int, M0 = if (8 : Int) < (((ns.map D.int).length : Nat) : Int) then (8 : Int) else (((ns.map D.int).length : Nat) : Int) := ⟨_, rfl⟩
  obtain ⟨M, hM⟩ : ∃ M : Int, M = if M0 > 2 then M0 else 2 := ⟨_, rfl⟩
  have hM1 : 2 ≤ M ∧ M ≤ 8 := by
    rw [hlen] at hM0
    split at hM0 <;> split at hM <;> omega
  refine' rn_ret (d := .bl true) ?h (fun F2 H2 v x2 w2 r2 => by cases r2; exact kQ H2)
  case h =>
    refine' ve_is (ve_bi (va_cons ?ha va_nil) rfl mAll boot_all (fo_all (bs := List.replicate M.toNat true) rfl)) ?hq
    case ha =>
      refine' ve_lcZ (j := 4) (ds := rangeD 0 M.toNat) ((List.replicate M.toNat true).map D.bl) ?ul rfl scLaw.nd ?ui (blkOk_by (N := ["script", "told", "bare", "e", "spot"]) (sc := defScope sLaw) (by decide +kernel)) ?um ?ug ?ue
      case ul => rw [List.length_map, List.length_replicate, rangeD_len]
      case ui =>
        refine' vi_range1 rfl mRg ?va (by omega)
        case va =>
          rw [hM]
          refine' ve_bi (va_cons ve_int (va_cons ?vb va_nil)) rfl mMx boot_max (fo_max rfl)
          case vb =>
            rw [hM0]
            refine' ve_bi (va_cons ?vc (va_cons ve_int va_nil)) rfl mMn boot_min (fo_min rfl)
            case vc => exact ve_bi (va_cons (ve_var (i := 0) rfl rfl (by walk_at "vis")) va_nil) rfl mLn boot_len fo_lenR
      case um => rw [rangeD_len]; omega
      case ug => exact fun _ _ _ _ _ => pg_name scLaw.nd rfl (.inl rfl)
      case ue =>
        intro n d r ow' hd hr' sub s0 H0 C0 cl fp
        obtain ⟨hn8, rfl⟩ := rangeD_get hd
        have e0 : (0 : Int) + ((n : Nat) : Int) = (n : Int) := by omega
        rw [e0]
        obtain rfl : r = .bl true := by
          rw [List.getElem?_map] at hr'
          have y : (List.replicate M.toNat true)[n]? = some true := by simp [hn8]
          rw [y] at hr'
          exact (Option.some.inj hr').symm
        exact ve_right FR FU hgd hr1 hr4 rfl rfl mU mR kU kR bU bR (ve_var (i := 0) rfl rfl (by walk_at "vis")) (ve_var (i := 4) rfl rfl (by walk_at "vis")) rfl (fun d' h => h)
    case hq => simp
end
end K1

set_option Elab.async false
set_option linter.all false
set_option maxRecDepth 100000
set_option maxHeartbeats 4000000
namespace K1
open PySem L2 Vd
open PySem.Spec PyProof.Rows
def tabB (K : PySem.W.Frag) (Cs : List Addr) : Bool := (List.range 22).all fun i => (List.range 25).all fun j => PySem.W.kitOne K (.ref (Cs.getD i 0)) (colU Cs j) == some (tb i j)
theorem tab_of {K : PySem.W.Frag} {Cs : List Addr} (hl : Cs.length = 22) (h : tabB K Cs = true) (i : Nat) (C : Addr) (j : Nat) (hi : Cs[i]? = some C) (hj : j < 25) : PySem.W.kitOne K (.ref C) (colU Cs j) = some (tb i j) := by
  have hi22 : i < 22 := by
    rw [← hl]
    exact (List.getElem?_eq_some_iff.mp hi).1
  unfold tabB at h
  rw [List.all_eq_true] at h
  have z := h i (List.mem_range.mpr hi22)
  rw [List.all_eq_true] at z
  have y := z j (List.mem_range.mpr hj)
  have e : Cs.getD i 0 = C := by
    have q := getD_get hl hi22
    rw [hi] at q
    exact (Option.some.inj q).symm
  rw [e] at y
  simpa using y
theorem all_mk {P : Program} {w : World} {K : PySem.W.Frag} {h : Heap} {mg : Str → Option Value} {fa : Addr} {C0 C1 C2 C3 C4 C5 C6 C7 C8 C9 C10 C11 C12 C13 C14 C15 C16 C17 C18 C19 C20 C21 F0 F1 F2 F3 F4 F5 F6 F7 F8 F9 F10 F11 F12 F13 F14 F15 F16 F17 F19 F20 F21 fU fS fP fC fG fR fL : Addr} {od0 an0 od1 an1 od2 an2 od3 an3 od4 an4 od5 an5 od6 an6 od7 an7 od8 an8 od9 an9 od10 an10 od11 an11 od12 an12 od13 an13 od14 an14 od15 an15 od16 an16 od17 an17 od19 an19 od20 an20 od21 an21 odU anU odS anS odP anP odC anC odG anG odR anR odL anL : Option Addr} {sl0 sl1 sl2 sl3 sl4 sl5 sl6 sl7 sl8 sl9 sl10 sl11 sl12 sl13 sl14 sl15 sl16 sl17 sl19 sl20 sl21 slU slS slP slC slG slR slL : Array (Option Value)} {oc0 kV0 dc0 pm0 cd0 ct0 oc1 kV1 dc1 pm1 cd1 ct1 oc2 kV2 dc2 pm2 cd2 ct2 oc3 kV3 dc3 pm3 cd3 ct3 oc4 kV4 dc4 pm4 cd4 ct4 oc5 kV5 dc5 pm5 cd5 ct5 oc6 kV6 dc6 pm6 cd6 ct6 oc7 kV7 dc7 pm7 cd7 ct7 oc8 kV8 dc8 pm8 cd8 ct8 oc9 kV9 dc9 pm9 cd9 ct9 oc10 kV10 dc10 pm10 cd10 ct10 oc11 kV11 dc11 pm11 cd11 ct11 oc12 kV12 dc12 pm12 cd12 ct12 oc13 kV13 dc13 pm13 cd13 ct13 oc14 kV14 dc14 pm14 cd14 ct14 oc15 kV15 dc15 pm15 cd15 ct15 oc16 kV16 dc16 pm16 cd16 ct16 oc17 kV17 dc17 pm17 cd17 ct17 oc19 kV19 dc19 pm19 cd19 ct19 oc20 kV20 dc20 pm20 cd20 ct20 oc21 kV21 dc21 pm21 cd21 ct21 ocU kVU dcU pmU cdU ctU ocS kVS dcS pmS cdS ctS ocP kVP dcP pmP cdP ctP ocC kVC dcC pmC cdC ctC ocG kVG dcG pmG cdG ctG ocR kVR dcR pmR cdR ctR ocL kVL dcL pmL cdL ctL : Value} {t0 t1 t2 t3 t4 t5 t6 : Tok} (X : K.In h) (G : h.Ns mainGlobals mg) (hfa : mg "law" = some (.ref fa))
    (aC0 : PySem.W.nsIn K mainGlobals "NotAWalker" = some (some (.ref C0)))
    (aI0 : PySem.W.findIn K (.ref C0) "__init__" = some (some (.ref F0)))
    (xl0 : K.lookup F0 = some ⟨oc0, od0, .func (PySem.W.fnOf "__init__" "NotAWalker.__init__" (defArgs sNotAWalker) (defBody sNotAWalker) (defScope sNotAWalker) .none kV0 dc0 pm0 an0 cd0 ct0), sl0⟩)
    (xc0 : PySem.W.codeIn K cd0 "NotAWalker.__init__" = true)
    (xk0 : PySem.W.keepIn K (.ref F0) = true)
    (aC1 : PySem.W.nsIn K mainGlobals "InvalidRow" = some (some (.ref C1)))
    (aI1 : PySem.W.findIn K (.ref C1) "__init__" = some (some (.ref F1)))
    (xl1 : K.lookup F1 = some ⟨oc1, od1, .func (PySem.W.fnOf "__init__" "InvalidRow.__init__" (defArgs sInvalidRow) (defBody sInvalidRow) (defScope sInvalidRow) .none kV1 dc1 pm1 an1 cd1 ct1), sl1⟩)
    (xc1 : PySem.W.codeIn K cd1 "InvalidRow.__init__" = true)
    (xk1 : PySem.W.keepIn K (.ref F1) = true)
    (aC2 : PySem.W.nsIn K mainGlobals "InvalidSquare" = some (some (.ref C2)))
    (aI2 : PySem.W.findIn K (.ref C2) "__init__" = some (some (.ref F2)))
    (xl2 : K.lookup F2 = some ⟨oc2, od2, .func (PySem.W.fnOf "__init__" "InvalidSquare.__init__" (defArgs sInvalidSquare) (defBody sInvalidSquare) (defScope sInvalidSquare) .none kV2 dc2 pm2 an2 cd2 ct2), sl2⟩)
    (xc2 : PySem.W.codeIn K cd2 "InvalidSquare.__init__" = true)
    (xk2 : PySem.W.keepIn K (.ref F2) = true)
    (aC3 : PySem.W.nsIn K mainGlobals "InvalidWay" = some (some (.ref C3)))
    (aI3 : PySem.W.findIn K (.ref C3) "__init__" = some (some (.ref F3)))
    (xl3 : K.lookup F3 = some ⟨oc3, od3, .func (PySem.W.fnOf "__init__" "InvalidWay.__init__" (defArgs sInvalidWay) (defBody sInvalidWay) (defScope sInvalidWay) .none kV3 dc3 pm3 an3 cd3 ct3), sl3⟩)
    (xc3 : PySem.W.codeIn K cd3 "InvalidWay.__init__" = true)
    (xk3 : PySem.W.keepIn K (.ref F3) = true)
    (aC4 : PySem.W.nsIn K mainGlobals "InvalidTime" = some (some (.ref C4)))
    (aI4 : PySem.W.findIn K (.ref C4) "__init__" = some (some (.ref F4)))
    (xl4 : K.lookup F4 = some ⟨oc4, od4, .func (PySem.W.fnOf "__init__" "InvalidTime.__init__" (defArgs sInvalidTime) (defBody sInvalidTime) (defScope sInvalidTime) .none kV4 dc4 pm4 an4 cd4 ct4), sl4⟩)
    (xc4 : PySem.W.codeIn K cd4 "InvalidTime.__init__" = true)
    (xk4 : PySem.W.keepIn K (.ref F4) = true)
    (aC5 : PySem.W.nsIn K mainGlobals "InvalidCount" = some (some (.ref C5)))
    (aI5 : PySem.W.findIn K (.ref C5) "__init__" = some (some (.ref F5)))
    (xl5 : K.lookup F5 = some ⟨oc5, od5, .func (PySem.W.fnOf "__init__" "InvalidCount.__init__" (defArgs sInvalidCount) (defBody sInvalidCount) (defScope sInvalidCount) .none kV5 dc5 pm5 an5 cd5 ct5), sl5⟩)
    (xc5 : PySem.W.codeIn K cd5 "InvalidCount.__init__" = true)
    (xk5 : PySem.W.keepIn K (.ref F5) = true)
    (aC6 : PySem.W.nsIn K mainGlobals "InvalidMove" = some (some (.ref C6)))
    (aI6 : PySem.W.findIn K (.ref C6) "__init__" = some (some (.ref F6)))
    (xl6 : K.lookup F6 = some ⟨oc6, od6, .func (PySem.W.fnOf "__init__" "InvalidMove.__init__" (defArgs sInvalidMove) (defBody sInvalidMove) (defScope sInvalidMove) .none kV6 dc6 pm6 an6 cd6 ct6), sl6⟩)
    (xc6 : PySem.W.codeIn K cd6 "InvalidMove.__init__" = true)
    (xk6 : PySem.W.keepIn K (.ref F6) = true)
    (aC7 : PySem.W.nsIn K mainGlobals "InvalidPeriod" = some (some (.ref C7)))
    (aI7 : PySem.W.findIn K (.ref C7) "__init__" = some (some (.ref F7)))
    (xl7 : K.lookup F7 = some ⟨oc7, od7, .func (PySem.W.fnOf "__init__" "InvalidPeriod.__init__" (defArgs sInvalidPeriod) (defBody sInvalidPeriod) (defScope sInvalidPeriod) .none kV7 dc7 pm7 an7 cd7 ct7), sl7⟩)
    (xc7 : PySem.W.codeIn K cd7 "InvalidPeriod.__init__" = true)
    (xk7 : PySem.W.keepIn K (.ref F7) = true)
    (aC8 : PySem.W.nsIn K mainGlobals "InvalidMarks" = some (some (.ref C8)))
    (aI8 : PySem.W.findIn K (.ref C8) "__init__" = some (some (.ref F8)))
    (xl8 : K.lookup F8 = some ⟨oc8, od8, .func (PySem.W.fnOf "__init__" "InvalidMarks.__init__" (defArgs sInvalidMarks) (defBody sInvalidMarks) (defScope sInvalidMarks) .none kV8 dc8 pm8 an8 cd8 ct8), sl8⟩)
    (xc8 : PySem.W.codeIn K cd8 "InvalidMarks.__init__" = true)
    (xk8 : PySem.W.keepIn K (.ref F8) = true)
    (aC9 : PySem.W.nsIn K mainGlobals "InvalidName" = some (some (.ref C9)))
    (aI9 : PySem.W.findIn K (.ref C9) "__init__" = some (some (.ref F9)))
    (xl9 : K.lookup F9 = some ⟨oc9, od9, .func (PySem.W.fnOf "__init__" "InvalidName.__init__" (defArgs sInvalidName) (defBody sInvalidName) (defScope sInvalidName) .none kV9 dc9 pm9 an9 cd9 ct9), sl9⟩)
    (xc9 : PySem.W.codeIn K cd9 "InvalidName.__init__" = true)
    (xk9 : PySem.W.keepIn K (.ref F9) = true)
    (aC10 : PySem.W.nsIn K mainGlobals "InvalidClaim" = some (some (.ref C10)))
    (aI10 : PySem.W.findIn K (.ref C10) "__init__" = some (some (.ref F10)))
    (xl10 : K.lookup F10 = some ⟨oc10, od10, .func (PySem.W.fnOf "__init__" "InvalidClaim.__init__" (defArgs sInvalidClaim) (defBody sInvalidClaim) (defScope sInvalidClaim) .none kV10 dc10 pm10 an10 cd10 ct10), sl10⟩)
    (xc10 : PySem.W.codeIn K cd10 "InvalidClaim.__init__" = true)
    (xk10 : PySem.W.keepIn K (.ref F10) = true)
    (aC11 : PySem.W.nsIn K mainGlobals "InvalidIndex" = some (some (.ref C11)))
    (aI11 : PySem.W.findIn K (.ref C11) "__init__" = some (some (.ref F11)))
    (xl11 : K.lookup F11 = some ⟨oc11, od11, .func (PySem.W.fnOf "__init__" "InvalidIndex.__init__" (defArgs sInvalidIndex) (defBody sInvalidIndex) (defScope sInvalidIndex) .none kV11 dc11 pm11 an11 cd11 ct11), sl11⟩)
    (xc11 : PySem.W.codeIn K cd11 "InvalidIndex.__init__" = true)
    (xk11 : PySem.W.keepIn K (.ref F11) = true)
    (aC12 : PySem.W.nsIn K mainGlobals "InvalidText" = some (some (.ref C12)))
    (aI12 : PySem.W.findIn K (.ref C12) "__init__" = some (some (.ref F12)))
    (xl12 : K.lookup F12 = some ⟨oc12, od12, .func (PySem.W.fnOf "__init__" "InvalidText.__init__" (defArgs sInvalidText) (defBody sInvalidText) (defScope sInvalidText) .none kV12 dc12 pm12 an12 cd12 ct12), sl12⟩)
    (xc12 : PySem.W.codeIn K cd12 "InvalidText.__init__" = true)
    (xk12 : PySem.W.keepIn K (.ref F12) = true)
    (aC13 : PySem.W.nsIn K mainGlobals "InvalidParts" = some (some (.ref C13)))
    (aI13 : PySem.W.findIn K (.ref C13) "__init__" = some (some (.ref F13)))
    (xl13 : K.lookup F13 = some ⟨oc13, od13, .func (PySem.W.fnOf "__init__" "InvalidParts.__init__" (defArgs sInvalidParts) (defBody sInvalidParts) (defScope sInvalidParts) .none kV13 dc13 pm13 an13 cd13 ct13), sl13⟩)
    (xc13 : PySem.W.codeIn K cd13 "InvalidParts.__init__" = true)
    (xk13 : PySem.W.keepIn K (.ref F13) = true)
    (aC14 : PySem.W.nsIn K mainGlobals "InvalidDeeds" = some (some (.ref C14)))
    (aI14 : PySem.W.findIn K (.ref C14) "__init__" = some (some (.ref F14)))
    (xl14 : K.lookup F14 = some ⟨oc14, od14, .func (PySem.W.fnOf "__init__" "InvalidDeeds.__init__" (defArgs sInvalidDeeds) (defBody sInvalidDeeds) (defScope sInvalidDeeds) .none kV14 dc14 pm14 an14 cd14 ct14), sl14⟩)
    (xc14 : PySem.W.codeIn K cd14 "InvalidDeeds.__init__" = true)
    (xk14 : PySem.W.keepIn K (.ref F14) = true)
    (aC15 : PySem.W.nsIn K mainGlobals "UnknownName" = some (some (.ref C15)))
    (aI15 : PySem.W.findIn K (.ref C15) "__init__" = some (some (.ref F15)))
    (xl15 : K.lookup F15 = some ⟨oc15, od15, .func (PySem.W.fnOf "__init__" "UnknownName.__init__" (defArgs sUnknownName) (defBody sUnknownName) (defScope sUnknownName) .none kV15 dc15 pm15 an15 cd15 ct15), sl15⟩)
    (xc15 : PySem.W.codeIn K cd15 "UnknownName.__init__" = true)
    (xk15 : PySem.W.keepIn K (.ref F15) = true)
    (aC16 : PySem.W.nsIn K mainGlobals "InUse" = some (some (.ref C16)))
    (aI16 : PySem.W.findIn K (.ref C16) "__init__" = some (some (.ref F16)))
    (xl16 : K.lookup F16 = some ⟨oc16, od16, .func (PySem.W.fnOf "__init__" "InUse.__init__" (defArgs sInUse) (defBody sInUse) (defScope sInUse) .none kV16 dc16 pm16 an16 cd16 ct16), sl16⟩)
    (xc16 : PySem.W.codeIn K cd16 "InUse.__init__" = true)
    (xk16 : PySem.W.keepIn K (.ref F16) = true)
    (aC17 : PySem.W.nsIn K mainGlobals "Broken" = some (some (.ref C17)))
    (aI17 : PySem.W.findIn K (.ref C17) "__init__" = some (some (.ref F17)))
    (xl17 : K.lookup F17 = some ⟨oc17, od17, .func (PySem.W.fnOf "__init__" "Broken.__init__" (defArgs sBroken) (defBody sBroken) (defScope sBroken) .none kV17 dc17 pm17 an17 cd17 ct17), sl17⟩)
    (xc17 : PySem.W.codeIn K cd17 "Broken.__init__" = true)
    (xk17 : PySem.W.keepIn K (.ref F17) = true)
    (aC18 : PySem.W.nsIn K mainGlobals "NothingToUndo" = some (some (.ref C18)))
    (aC19 : PySem.W.nsIn K mainGlobals "WrongValue" = some (some (.ref C19)))
    (aI19 : PySem.W.findIn K (.ref C19) "__init__" = some (some (.ref F19)))
    (xl19 : K.lookup F19 = some ⟨oc19, od19, .func (PySem.W.fnOf "__init__" "WrongValue.__init__" (defArgs sWrongValue) (defBody sWrongValue) (defScope sWrongValue) .none kV19 dc19 pm19 an19 cd19 ct19), sl19⟩)
    (xc19 : PySem.W.codeIn K cd19 "WrongValue.__init__" = true)
    (xk19 : PySem.W.keepIn K (.ref F19) = true)
    (aC20 : PySem.W.nsIn K mainGlobals "WrongName" = some (some (.ref C20)))
    (aI20 : PySem.W.findIn K (.ref C20) "__init__" = some (some (.ref F20)))
    (xl20 : K.lookup F20 = some ⟨oc20, od20, .func (PySem.W.fnOf "__init__" "WrongName.__init__" (defArgs sWrongName) (defBody sWrongName) (defScope sWrongName) .none kV20 dc20 pm20 an20 cd20 ct20), sl20⟩)
    (xc20 : PySem.W.codeIn K cd20 "WrongName.__init__" = true)
    (xk20 : PySem.W.keepIn K (.ref F20) = true)
    (aC21 : PySem.W.nsIn K mainGlobals "NoAnswer" = some (some (.ref C21)))
    (aI21 : PySem.W.findIn K (.ref C21) "__init__" = some (some (.ref F21)))
    (xl21 : K.lookup F21 = some ⟨oc21, od21, .func (PySem.W.fnOf "__init__" "NoAnswer.__init__" (defArgs sNoAnswer) (defBody sNoAnswer) (defScope sNoAnswer) .none kV21 dc21 pm21 an21 cd21 ct21), sl21⟩)
    (xc21 : PySem.W.codeIn K cd21 "NoAnswer.__init__" = true)
    (xk21 : PySem.W.keepIn K (.ref F21) = true)
    (xb0 : xcB K C0 F0 .v "given" = true)
    (xb1 : xcB K C1 F1 .v "given" = true)
    (xb2 : xcB K C2 F2 .v "given" = true)
    (xb3 : xcB K C3 F3 .v "given" = true)
    (xb4 : xcB K C4 F4 .v "given" = true)
    (xb5 : xcB K C5 F5 .v "given" = true)
    (xb6 : xcB K C6 F6 .v "given" = true)
    (xb7 : xcB K C7 F7 .v "given" = true)
    (xb8 : xcB K C8 F8 .v "given" = true)
    (xb9 : xcB K C9 F9 .v "given" = true)
    (xb10 : xcB K C10 F10 .v "given" = true)
    (xb11 : xcB K C11 F11 .v "given" = true)
    (xb12 : xcB K C12 F12 .v "given" = true)
    (xb13 : xcB K C13 F13 .v "index" = true)
    (xb14 : xcB K C14 F14 .v "index" = true)
    (xb15 : xcB K C15 F15 .l "given" = true)
    (xb16 : xcB K C16 F16 .l "index" = true)
    (xb17 : xcB K C17 F17 .a "index" = true)
    (xb18 : xcB K C18 F21 .a "given" = true)
    (xb19 : xcB K C19 F19 .v "given" = true)
    (xb20 : xcB K C20 F20 .l "given" = true)
    (xb21 : xcB K C21 F21 .a "given" = true)
    (tbl : tabB K [C0, C1, C2, C3, C4, C5, C6, C7, C8, C9, C10, C11, C12, C13, C14, C15, C16, C17, C18, C19, C20, C21] = true)
    (xo1 : PySem.W.specialIn K (.builtin "object.__class__") "__get__" = some (some (.builtin "getset_descriptor.__get__")))
    (xo2 : PySem.W.takesIn K (.builtin "object.__class__") = some true)
    (aU : PySem.W.nsIn K mainGlobals "_law_cup" = some (some (.ref fU)))
    (lU : K.lookup fU = some ⟨ocU, odU, .func (PySem.W.fnOf "_law_cup" "_law_cup" (defArgs sCup) (defBody sCup) (defScope sCup) .none kVU dcU pmU anU cdU ctU), slU⟩)
    (cU : PySem.W.codeIn K cdU "_law_cup" = true)
    (kU : PySem.W.keepIn K (.ref fU) = true)
    (aS : PySem.W.nsIn K mainGlobals "_law_sip" = some (some (.ref fS)))
    (lS : K.lookup fS = some ⟨ocS, odS, .func (PySem.W.fnOf "_law_sip" "_law_sip" (defArgs sSip) (defBody sSip) (defScope sSip) .none kVS dcS pmS anS cdS ctS), slS⟩)
    (cS : PySem.W.codeIn K cdS "_law_sip" = true)
    (kS : PySem.W.keepIn K (.ref fS) = true)
    (aP : PySem.W.nsIn K mainGlobals "_law_pick" = some (some (.ref fP)))
    (lP : K.lookup fP = some ⟨ocP, odP, .func (PySem.W.fnOf "_law_pick" "_law_pick" (defArgs sPick) (defBody sPick) (defScope sPick) .none kVP dcP pmP anP cdP ctP), slP⟩)
    (cP : PySem.W.codeIn K cdP "_law_pick" = true)
    (kP : PySem.W.keepIn K (.ref fP) = true)
    (aC : PySem.W.nsIn K mainGlobals "_law_classes" = some (some (.ref fC)))
    (lC : K.lookup fC = some ⟨ocC, odC, .func (PySem.W.fnOf "_law_classes" "_law_classes" (defArgs sCls) (defBody sCls) (defScope sCls) .none kVC dcC pmC anC cdC ctC), slC⟩)
    (cC : PySem.W.codeIn K cdC "_law_classes" = true)
    (kC : PySem.W.keepIn K (.ref fC) = true)
    (aG : PySem.W.nsIn K mainGlobals "_law_given" = some (some (.ref fG)))
    (lG : K.lookup fG = some ⟨ocG, odG, .func (PySem.W.fnOf "_law_given" "_law_given" (defArgs sGiv) (defBody sGiv) (defScope sGiv) .none kVG dcG pmG anG cdG ctG), slG⟩)
    (cG : PySem.W.codeIn K cdG "_law_given" = true)
    (kG : PySem.W.keepIn K (.ref fG) = true)
    (aR : PySem.W.nsIn K mainGlobals "_law_right" = some (some (.ref fR)))
    (lR : K.lookup fR = some ⟨ocR, odR, .func (PySem.W.fnOf "_law_right" "_law_right" (defArgs sRig) (defBody sRig) (defScope sRig) .none kVR dcR pmR anR cdR ctR), slR⟩)
    (cR : PySem.W.codeIn K cdR "_law_right" = true)
    (kR : PySem.W.keepIn K (.ref fR) = true)
    (aL : PySem.W.nsIn K mainGlobals "law" = some (some (.ref fL)))
    (lL : K.lookup fL = some ⟨ocL, odL, .func (PySem.W.fnOf "law" "law" (defArgs sLaw) (defBody sLaw) (defScope sLaw) .none kVL dcL pmL anL cdL ctL), slL⟩)
    (cL : PySem.W.codeIn K cdL "law" = true)
    (kL : PySem.W.keepIn K (.ref fL) = true)
    (g0 : PySem.W.nsIn K mainGlobals "MOST_ORDERS" = some (some (.int 8 t0)))
    (g1 : PySem.W.nsIn K mainGlobals "MOST_STEPS" = some (some (.int 9 t1)))
    (g2 : PySem.W.nsIn K mainGlobals "MOST_COUNT" = some (some (.int 100 t2)))
    (g3 : PySem.W.nsIn K mainGlobals "MOST_PERIOD" = some (some (.int 1000 t3)))
    (g4 : PySem.W.nsIn K mainGlobals "MOST_REACH" = some (some (.int 50 t4)))
    (g5 : PySem.W.nsIn K mainGlobals "MOST_MOVE" = some (some (.int 1000 t5)))
    (g6 : PySem.W.nsIn K mainGlobals "GREATEST" = some (some (.int 1000000000000000000000000000000 t6)))
    (z0 : PySem.W.nsIn K mainGlobals "int" = some none)
    (z1 : PySem.W.nsIn K mainGlobals "abs" = some none)
    (z2 : PySem.W.nsIn K mainGlobals "len" = some none)
    (z3 : PySem.W.nsIn K mainGlobals "divmod" = some none)
    (z4 : PySem.W.nsIn K mainGlobals "isinstance" = some none)
    (z5 : PySem.W.nsIn K mainGlobals "range" = some none)
    (z6 : PySem.W.nsIn K mainGlobals "ValueError" = some none)
    (z7 : PySem.W.nsIn K mainGlobals "LookupError" = some none)
    (z8 : PySem.W.nsIn K mainGlobals "ArithmeticError" = some none)
    (z9 : PySem.W.nsIn K mainGlobals "repr" = some none)
    (z10 : PySem.W.nsIn K mainGlobals "enumerate" = some none)
    (z11 : PySem.W.nsIn K mainGlobals "max" = some none)
    (z12 : PySem.W.nsIn K mainGlobals "min" = some none)
    (z13 : PySem.W.nsIn K mainGlobals "all" = some none) :
    ∃ fd : FuncData, (∀ (s : Shared) (v : Value), BindsTo s fd ⟨[v], []⟩ [("script", v)]) ∧ ∀ base : Heap, K.In base → base.Ns mainGlobals mg → FnG P w K mg base CX0 6 fa fd ["script"] (spLaw K) := by
  have e := hfa.symm.trans (PySem.W.mg_of X G aL)
  cases e
  have hl : ([C0, C1, C2, C3, C4, C5, C6, C7, C8, C9, C10, C11, C12, C13, C14, C15, C16, C17, C18, C19, C20, C21] : List Addr).length = 22 := rfl
  have T : Tab K mg [C0, C1, C2, C3, C4, C5, C6, C7, C8, C9, C10, C11, C12, C13, C14, C15, C16, C17, C18, C19, C20, C21] := by
    refine ⟨⟨xo1, xo2⟩, ?_, ?_, fun i C j hi hj => tab_of hl tbl i C j hi hj, PySem.W.mg_none_of X G z4, PySem.W.mg_none_of X G z5, PySem.W.mg_none_of X G z6, PySem.W.mg_none_of X G z7, PySem.W.mg_none_of X G z8⟩
    · intro C hC
      simp only [List.mem_cons, List.not_mem_nil, or_false] at hC
      rcases hC with rfl | rfl | rfl | rfl | rfl | rfl | rfl | rfl | rfl | rfl | rfl | rfl | rfl | rfl | rfl | rfl | rfl | rfl | rfl | rfl | rfl | rfl
      · exact ⟨_, _, _, xk_of xb0⟩
      · exact ⟨_, _, _, xk_of xb1⟩
      · exact ⟨_, _, _, xk_of xb2⟩
      · exact ⟨_, _, _, xk_of xb3⟩
      · exact ⟨_, _, _, xk_of xb4⟩
      · exact ⟨_, _, _, xk_of xb5⟩
      · exact ⟨_, _, _, xk_of xb6⟩
      · exact ⟨_, _, _, xk_of xb7⟩
      · exact ⟨_, _, _, xk_of xb8⟩
      · exact ⟨_, _, _, xk_of xb9⟩
      · exact ⟨_, _, _, xk_of xb10⟩
      · exact ⟨_, _, _, xk_of xb11⟩
      · exact ⟨_, _, _, xk_of xb12⟩
      · exact ⟨_, _, _, xk_of xb13⟩
      · exact ⟨_, _, _, xk_of xb14⟩
      · exact ⟨_, _, _, xk_of xb15⟩
      · exact ⟨_, _, _, xk_of xb16⟩
      · exact ⟨_, _, _, xk_of xb17⟩
      · exact ⟨_, _, _, xk_of xb18⟩
      · exact ⟨_, _, _, xk_of xb19⟩
      · exact ⟨_, _, _, xk_of xb20⟩
      · exact ⟨_, _, _, xk_of xb21⟩
    · intro j x hx
      match j, hx with
      | 0, hx => cases hx; exact PySem.W.mg_of X G aC0
      | 1, hx => cases hx; exact PySem.W.mg_of X G aC1
      | 2, hx => cases hx; exact PySem.W.mg_of X G aC2
      | 3, hx => cases hx; exact PySem.W.mg_of X G aC3
      | 4, hx => cases hx; exact PySem.W.mg_of X G aC4
      | 5, hx => cases hx; exact PySem.W.mg_of X G aC5
      | 6, hx => cases hx; exact PySem.W.mg_of X G aC6
      | 7, hx => cases hx; exact PySem.W.mg_of X G aC7
      | 8, hx => cases hx; exact PySem.W.mg_of X G aC8
      | 9, hx => cases hx; exact PySem.W.mg_of X G aC9
      | 10, hx => cases hx; exact PySem.W.mg_of X G aC10
      | 11, hx => cases hx; exact PySem.W.mg_of X G aC11
      | 12, hx => cases hx; exact PySem.W.mg_of X G aC12
      | 13, hx => cases hx; exact PySem.W.mg_of X G aC13
      | 14, hx => cases hx; exact PySem.W.mg_of X G aC14
      | 15, hx => cases hx; exact PySem.W.mg_of X G aC15
      | 16, hx => cases hx; exact PySem.W.mg_of X G aC16
      | 17, hx => cases hx; exact PySem.W.mg_of X G aC17
      | 18, hx => cases hx; exact PySem.W.mg_of X G aC18
      | 19, hx => cases hx; exact PySem.W.mg_of X G aC19
      | 20, hx => cases hx; exact PySem.W.mg_of X G aC20
      | 21, hx => cases hx; exact PySem.W.mg_of X G aC21
      | n + 22, hx => simp [nmL] at hx
  have Es : ∀ base : Heap, Ers P w K mg base [C0, C1, C2, C3, C4, C5, C6, C7, C8, C9, C10, C11, C12, C13, C14, C15, C16, C17, C18, C19, C20, C21] := fun base => by
    refine ⟨?_, ?_⟩
    · intro i x hi hx
      match i, hi, hx with
      | 0, _, hx => cases hx; exact mkNotAWalker (PySem.W.mg_of X G aC0) (xk_of xb0) xl0 xc0 xk0
      | 1, _, hx => cases hx; exact mkInvalidRow (PySem.W.mg_of X G aC1) (xk_of xb1) xl1 xc1 xk1
      | 2, _, hx => cases hx; exact mkInvalidSquare (PySem.W.mg_of X G aC2) (xk_of xb2) xl2 xc2 xk2
      | 3, _, hx => cases hx; exact mkInvalidWay (PySem.W.mg_of X G aC3) (xk_of xb3) xl3 xc3 xk3
      | 4, _, hx => cases hx; exact mkInvalidTime (PySem.W.mg_of X G aC4) (xk_of xb4) xl4 xc4 xk4
      | 5, _, hx => cases hx; exact mkInvalidCount (PySem.W.mg_of X G aC5) (xk_of xb5) xl5 xc5 xk5
      | 6, _, hx => cases hx; exact mkInvalidMove (PySem.W.mg_of X G aC6) (xk_of xb6) xl6 xc6 xk6
      | 7, _, hx => cases hx; exact mkInvalidPeriod (PySem.W.mg_of X G aC7) (xk_of xb7) xl7 xc7 xk7
      | 8, _, hx => cases hx; exact mkInvalidMarks (PySem.W.mg_of X G aC8) (xk_of xb8) xl8 xc8 xk8
      | 9, _, hx => cases hx; exact mkInvalidName (PySem.W.mg_of X G aC9) (xk_of xb9) xl9 xc9 xk9
      | 10, _, hx => cases hx; exact mkInvalidClaim (PySem.W.mg_of X G aC10) (xk_of xb10) xl10 xc10 xk10
      | 11, _, hx => cases hx; exact mkInvalidIndex (PySem.W.mg_of X G aC11) (xk_of xb11) xl11 xc11 xk11
      | 12, _, hx => cases hx; exact mkInvalidText (PySem.W.mg_of X G aC12) (xk_of xb12) xl12 xc12 xk12
      | 13, _, hx => cases hx; exact mkInvalidParts (PySem.W.mg_of X G aC13) (xk_of xb13) xl13 xc13 xk13
      | 14, _, hx => cases hx; exact mkInvalidDeeds (PySem.W.mg_of X G aC14) (xk_of xb14) xl14 xc14 xk14
      | 15, _, hx => cases hx; exact mkUnknownName (PySem.W.mg_of X G aC15) (xk_of xb15) xl15 xc15 xk15
      | 16, _, hx => cases hx; exact mkInUse (PySem.W.mg_of X G aC16) (xk_of xb16) xl16 xc16 xk16
      | 17, _, hx => cases hx; exact mkBroken (PySem.W.mg_of X G aC17) (xk_of xb17) xl17 xc17 xk17
      | n + 18, hi, _ => exact absurd hi (by omega)
    · intro i x hi hx
      match i, hi, hx with
      | 18, _, hx => cases hx; exact mkNoAnswer (PySem.W.mg_of X G aC18) (xk_of xb18) xl21 xc21 xk21
      | 19, _, hx => cases hx; exact mkWrongValue (PySem.W.mg_of X G aC19) (xk_of xb19) xl19 xc19 xk19
      | 20, _, hx => cases hx; exact mkWrongName (PySem.W.mg_of X G aC20) (xk_of xb20) xl20 xc20 xk20
      | 21, _, hx => cases hx; exact mkNoAnswer (PySem.W.mg_of X G aC21) (xk_of xb21) xl21 xc21 xk21
      | n + 22, _, hx => simp [nmL] at hx
  have FU := fun_mk (st := sCup) lU cU kU
  have FS := fun_mk (st := sSip) lS cS kS
  have FP := fun_mk (st := sPick) lP cP kP
  have FC := fun_mk (st := sCls) lC cC kC
  have FG := fun_mk (st := sGiv) lG cG kG
  have FR := fun_mk (st := sRig) lR cR kR
  have FL := fun_mk (st := sLaw) lL cL kL
  have bU := FU.binds (ps := ["script", "spot"]) fun _ _ _ _ _ _ us hl => match us, hl with | [_, _], _ => rfl
  have bS := FS.binds (ps := ["cup", "many"]) fun _ _ _ _ _ _ us hl => match us, hl with | [_, _], _ => rfl
  have bP := FP.binds (ps := ["cup", "things"]) fun _ _ _ _ _ _ us hl => match us, hl with | [_, _], _ => rfl
  have bC := FC.binds (ps := ["e"]) fun _ _ _ _ _ _ us hl => match us, hl with | [_], _ => rfl
  have bG := FG.binds (ps := ["thing"]) fun _ _ _ _ _ _ us hl => match us, hl with | [_], _ => rfl
  have bR := FR.binds (ps := ["cup"]) fun _ _ _ _ _ _ us hl => match us, hl with | [_], _ => rfl
  have ct : Cst mg := ⟨⟨_, PySem.W.mg_of X G g0⟩, ⟨_, PySem.W.mg_of X G g1⟩, ⟨_, PySem.W.mg_of X G g2⟩, ⟨_, PySem.W.mg_of X G g3⟩, ⟨_, PySem.W.mg_of X G g4⟩, ⟨_, PySem.W.mg_of X G g5⟩, ⟨_, PySem.W.mg_of X G g6⟩⟩
  refine ⟨PySem.W.fnOf "law" "law" (defArgs sLaw) (defBody sLaw) (defScope sLaw) .none kVL dcL pmL anL cdL ctL, fun s v => .of_eq rfl, fun base _ _ => ?_⟩
  have oU := ok_cup (P := P) (w := w) (mg := mg) (base := base) FU (PySem.W.mg_none_of X G z0) (PySem.W.mg_none_of X G z1) (PySem.W.mg_none_of X G z2)
  have oS := ok_sip (P := P) (w := w) (mg := mg) (base := base) FS (PySem.W.mg_none_of X G z0) (PySem.W.mg_none_of X G z3)
  have oP := ok_pick FP oS (PySem.W.mg_of X G aS) kS bS (PySem.W.mg_none_of X G z2)
  have oC := ok_classes (P := P) (w := w) (base := base) FC T
  have oG := ok_given FG (Es base)
  have oR := ok_right FR oP (PySem.W.mg_of X G aP) kP bP oG (PySem.W.mg_of X G aG) kG bG oC (PySem.W.mg_of X G aC) kC bC (Es base) hl (PySem.W.mg_none_of X G z9) (PySem.W.mg_none_of X G z10)
  exact ok_law FL oU (PySem.W.mg_of X G aU) kU bU oR (PySem.W.mg_of X G aR) kR bR oC (PySem.W.mg_of X G aC) kC bC (Es base) hl ct (PySem.W.mg_none_of X G z9) (PySem.W.mg_none_of X G z13) (PySem.W.mg_none_of X G z5) (PySem.W.mg_none_of X G z11) (PySem.W.mg_none_of X G z12) (PySem.W.mg_none_of X G z2)
theorem walk {l : PySem.W.OpenLaw} {q : Program} {loose : List Str} {XP : (Str → Option Value) → Heap → Prop} {YP : World → Heap → Prop} {d : DefRec} {K : Params → PySem.W.Frag} (hn : l.most = some 63) (hdf : d.params.defaults = [])
    (hY : ∀ (w : World) (h : Heap), YP w h → (K w.params).In h)
    (F : ∀ (w : World) (mg : Str → Option Value) (fa : Addr) (h : Heap), (K w.params).In h → h.Ns mainGlobals mg → mg d.name = some (.ref fa) →
      ∃ fd : FuncData, (∀ (s : Shared) (u : Value), BindsTo s fd ⟨[u], []⟩ [("script", u)]) ∧ ∀ base : Heap, (K w.params).In base → base.Ns mainGlobals mg → FnG l.prog w (K w.params) mg base CX0 6 fa fd ["script"] (spLaw (K w.params))) :
    PySem.W.WalkO q loose XP YP l.row.toRowW d [] (fun f vs => PySem.call f vs) :=
  walkG hn hdf ⟨rfl, by decide, by decide⟩ hY F
end K1

set_option Elab.async false
set_option linter.all false
set_option maxRecDepth 100000
set_option maxHeartbeats 4000000
open PySem PySem.W PyProof.Rows
set_option maxRecDepth 100000 in
set_option maxHeartbeats 0 in
theorem PySem.Challenge.cw_evertreads_k01_constants_and_errors_holds : PySem.Challenge.rw_evertreads_k01_constants_and_errors.Holds := by
  w_on; o_law; k_head; (case hw => w_witness2)
  k_fill
  refine K1.walk (l := PySem.Challenge.rw_evertreads_k01_constants_and_errors) rfl rfl (fun w h Y => PySem.W.kIn_of Y) ?F
  case F =>
    intro w mg fa h KX G hmg
    refine' K1.all_mk KX G hmg ?hh_aC0 ?hh_aI0 ?hh_xl0 ?hh_xc0 ?hh_xk0 ?hh_aC1 ?hh_aI1 ?hh_xl1 ?hh_xc1 ?hh_xk1 ?hh_aC2 ?hh_aI2 ?hh_xl2 ?hh_xc2 ?hh_xk2 ?hh_aC3 ?hh_aI3 ?hh_xl3 ?hh_xc3 ?hh_xk3 ?hh_aC4 ?hh_aI4 ?hh_xl4 ?hh_xc4 ?hh_xk4 ?hh_aC5 ?hh_aI5 ?hh_xl5 ?hh_xc5 ?hh_xk5 ?hh_aC6 ?hh_aI6 ?hh_xl6 ?hh_xc6 ?hh_xk6 ?hh_aC7 ?hh_aI7 ?hh_xl7 ?hh_xc7 ?hh_xk7 ?hh_aC8 ?hh_aI8 ?hh_xl8 ?hh_xc8 ?hh_xk8 ?hh_aC9 ?hh_aI9 ?hh_xl9 ?hh_xc9 ?hh_xk9 ?hh_aC10 ?hh_aI10 ?hh_xl10 ?hh_xc10 ?hh_xk10 ?hh_aC11 ?hh_aI11 ?hh_xl11 ?hh_xc11 ?hh_xk11 ?hh_aC12 ?hh_aI12 ?hh_xl12 ?hh_xc12 ?hh_xk12 ?hh_aC13 ?hh_aI13 ?hh_xl13 ?hh_xc13 ?hh_xk13 ?hh_aC14 ?hh_aI14 ?hh_xl14 ?hh_xc14 ?hh_xk14 ?hh_aC15 ?hh_aI15 ?hh_xl15 ?hh_xc15 ?hh_xk15 ?hh_aC16 ?hh_aI16 ?hh_xl16 ?hh_xc16 ?hh_xk16 ?hh_aC17 ?hh_aI17 ?hh_xl17 ?hh_xc17 ?hh_xk17 ?hh_aC18 ?hh_aC19 ?hh_aI19 ?hh_xl19 ?hh_xc19 ?hh_xk19 ?hh_aC20 ?hh_aI20 ?hh_xl20 ?hh_xc20 ?hh_xk20 ?hh_aC21 ?hh_aI21 ?hh_xl21 ?hh_xc21 ?hh_xk21 ?hh_xb0 ?hh_xb1 ?hh_xb2 ?hh_xb3 ?hh_xb4 ?hh_xb5 ?hh_xb6 ?hh_xb7 ?hh_xb8 ?hh_xb9 ?hh_xb10 ?hh_xb11 ?hh_xb12 ?hh_xb13 ?hh_xb14 ?hh_xb15 ?hh_xb16 ?hh_xb17 ?hh_xb18 ?hh_xb19 ?hh_xb20 ?hh_xb21 ?hh_tbl ?hh_xo1 ?hh_xo2 ?hh_aU ?hh_lU ?hh_cU ?hh_kU ?hh_aS ?hh_lS ?hh_cS ?hh_kS ?hh_aP ?hh_lP ?hh_cP ?hh_kP ?hh_aC ?hh_lC ?hh_cC ?hh_kC ?hh_aG ?hh_lG ?hh_cG ?hh_kG ?hh_aR ?hh_lR ?hh_cR ?hh_kR ?hh_aL ?hh_lL ?hh_cL ?hh_kL ?hh_g0 ?hh_g1 ?hh_g2 ?hh_g3 ?hh_g4 ?hh_g5 ?hh_g6 ?hh_z0 ?hh_z1 ?hh_z2 ?hh_z3 ?hh_z4 ?hh_z5 ?hh_z6 ?hh_z7 ?hh_z8 ?hh_z9 ?hh_z10 ?hh_z11 ?hh_z12 ?hh_z13
    (case hh_aC0 => k_is)
    (case hh_aI0 => k_is)
    (case hh_xl0 => k_is)
    (case hh_xc0 => k_is)
    (case hh_xk0 => k_is)
    (case hh_aC1 => k_is)
    (case hh_aI1 => k_is)
    (case hh_xl1 => k_is)
    (case hh_xc1 => k_is)
    (case hh_xk1 => k_is)
    (case hh_aC2 => k_is)
    (case hh_aI2 => k_is)
    (case hh_xl2 => k_is)
    (case hh_xc2 => k_is)
    (case hh_xk2 => k_is)
    (case hh_aC3 => k_is)
    (case hh_aI3 => k_is)
    (case hh_xl3 => k_is)
    (case hh_xc3 => k_is)
    (case hh_xk3 => k_is)
    (case hh_aC4 => k_is)
    (case hh_aI4 => k_is)
    (case hh_xl4 => k_is)
    (case hh_xc4 => k_is)
    (case hh_xk4 => k_is)
    (case hh_aC5 => k_is)
    (case hh_aI5 => k_is)
    (case hh_xl5 => k_is)
    (case hh_xc5 => k_is)
    (case hh_xk5 => k_is)
    (case hh_aC6 => k_is)
    (case hh_aI6 => k_is)
    (case hh_xl6 => k_is)
    (case hh_xc6 => k_is)
    (case hh_xk6 => k_is)
    (case hh_aC7 => k_is)
    (case hh_aI7 => k_is)
    (case hh_xl7 => k_is)
    (case hh_xc7 => k_is)
    (case hh_xk7 => k_is)
    (case hh_aC8 => k_is)
    (case hh_aI8 => k_is)
    (case hh_xl8 => k_is)
    (case hh_xc8 => k_is)
    (case hh_xk8 => k_is)
    (case hh_aC9 => k_is)
    (case hh_aI9 => k_is)
    (case hh_xl9 => k_is)
    (case hh_xc9 => k_is)
    (case hh_xk9 => k_is)
    (case hh_aC10 => k_is)
    (case hh_aI10 => k_is)
    (case hh_xl10 => k_is)
    (case hh_xc10 => k_is)
    (case hh_xk10 => k_is)
    (case hh_aC11 => k_is)
    (case hh_aI11 => k_is)
    (case hh_xl11 => k_is)
    (case hh_xc11 => k_is)
    (case hh_xk11 => k_is)
    (case hh_aC12 => k_is)
    (case hh_aI12 => k_is)
    (case hh_xl12 => k_is)
    (case hh_xc12 => k_is)
    (case hh_xk12 => k_is)
    (case hh_aC13 => k_is)
    (case hh_aI13 => k_is)
    (case hh_xl13 => k_is)
    (case hh_xc13 => k_is)
    (case hh_xk13 => k_is)
    (case hh_aC14 => k_is)
    (case hh_aI14 => k_is)
    (case hh_xl14 => k_is)
    (case hh_xc14 => k_is)
    (case hh_xk14 => k_is)
    (case hh_aC15 => k_is)
    (case hh_aI15 => k_is)
    (case hh_xl15 => k_is)
    (case hh_xc15 => k_is)
    (case hh_xk15 => k_is)
    (case hh_aC16 => k_is)
    (case hh_aI16 => k_is)
    (case hh_xl16 => k_is)
    (case hh_xc16 => k_is)
    (case hh_xk16 => k_is)
    (case hh_aC17 => k_is)
    (case hh_aI17 => k_is)
    (case hh_xl17 => k_is)
    (case hh_xc17 => k_is)
    (case hh_xk17 => k_is)
    (case hh_aC18 => k_is)
    (case hh_aC19 => k_is)
    (case hh_aI19 => k_is)
    (case hh_xl19 => k_is)
    (case hh_xc19 => k_is)
    (case hh_xk19 => k_is)
    (case hh_aC20 => k_is)
    (case hh_aI20 => k_is)
    (case hh_xl20 => k_is)
    (case hh_xc20 => k_is)
    (case hh_xk20 => k_is)
    (case hh_aC21 => k_is)
    (case hh_aI21 => k_is)
    (case hh_xl21 => k_is)
    (case hh_xc21 => k_is)
    (case hh_xk21 => k_is)
    (case hh_xb0 => kernel_rfl)
    (case hh_xb1 => kernel_rfl)
    (case hh_xb2 => kernel_rfl)
    (case hh_xb3 => kernel_rfl)
    (case hh_xb4 => kernel_rfl)
    (case hh_xb5 => kernel_rfl)
    (case hh_xb6 => kernel_rfl)
    (case hh_xb7 => kernel_rfl)
    (case hh_xb8 => kernel_rfl)
    (case hh_xb9 => kernel_rfl)
    (case hh_xb10 => kernel_rfl)
    (case hh_xb11 => kernel_rfl)
    (case hh_xb12 => kernel_rfl)
    (case hh_xb13 => kernel_rfl)
    (case hh_xb14 => kernel_rfl)
    (case hh_xb15 => kernel_rfl)
    (case hh_xb16 => kernel_rfl)
    (case hh_xb17 => kernel_rfl)
    (case hh_xb18 => kernel_rfl)
    (case hh_xb19 => kernel_rfl)
    (case hh_xb20 => kernel_rfl)
    (case hh_xb21 => kernel_rfl)
    (case hh_tbl => kernel_rfl)
    (case hh_xo1 => k_is)
    (case hh_xo2 => k_is)
    (case hh_aU => k_is)
    (case hh_lU => k_is)
    (case hh_cU => k_is)
    (case hh_kU => k_is)
    (case hh_aS => k_is)
    (case hh_lS => k_is)
    (case hh_cS => k_is)
    (case hh_kS => k_is)
    (case hh_aP => k_is)
    (case hh_lP => k_is)
    (case hh_cP => k_is)
    (case hh_kP => k_is)
    (case hh_aC => k_is)
    (case hh_lC => k_is)
    (case hh_cC => k_is)
    (case hh_kC => k_is)
    (case hh_aG => k_is)
    (case hh_lG => k_is)
    (case hh_cG => k_is)
    (case hh_kG => k_is)
    (case hh_aR => k_is)
    (case hh_lR => k_is)
    (case hh_cR => k_is)
    (case hh_kR => k_is)
    (case hh_aL => k_is)
    (case hh_lL => k_is)
    (case hh_cL => k_is)
    (case hh_kL => k_is)
    (case hh_g0 => k_is)
    (case hh_g1 => k_is)
    (case hh_g2 => k_is)
    (case hh_g3 => k_is)
    (case hh_g4 => k_is)
    (case hh_g5 => k_is)
    (case hh_g6 => k_is)
    (case hh_z0 => k_is)
    (case hh_z1 => k_is)
    (case hh_z2 => k_is)
    (case hh_z3 => k_is)
    (case hh_z4 => k_is)
    (case hh_z5 => k_is)
    (case hh_z6 => k_is)
    (case hh_z7 => k_is)
    (case hh_z8 => k_is)
    (case hh_z9 => k_is)
    (case hh_z10 => k_is)
    (case hh_z11 => k_is)
    (case hh_z12 => k_is)
    (case hh_z13 => k_is)
#print axioms PySem.Challenge.cw_evertreads_k01_constants_and_errors_holds

