import PyProof.Rows.All
import Wide.All
import OpenK.AllK
import Wide.FinOn
import PyProof.EqAt
import PyProof.EqKinds
import PyProof.TupleCall
import HandS.ForMost
import HandS.ForExc
import HandS.Evl
import HandS.Flow
import HandS.ExcInit
import HandS.ExcIs
import HandS.IsInst
import HandS.MakeKwOnly
import HandS.ExcField
import KE.KExcInit
import KE.KExcIs
import HandS.Ends
import KE.DataEq
import KE.GoesEnum
import HandS.TupAny
import HandS.Words
import HandS.Property
import HandS.Star
import HandS.Defaults
import HandS.FStr
import HandS.GenList
import PyProof.ReprRoads
import HandS.Conv
import HandS.Gcd
import KE.KMathGC
import HandS.SetFor
import HandS.Strs
import HandS.SortInts
import HandS.Iter
import HandS.Dict
import HandS.DictComp
import HandS.FStrTup
import HandS.Text
import HandS.TupSets
import HandS.Style
import PySem.Challenge.RW_evertreads_k04_whole_sets_of_times_joine
set_option Elab.async false
set_option linter.all false
set_option maxRecDepth 100000
set_option maxHeartbeats 4000000
/-! Values as data: what an expression, a block and a def come to, told by plain data over a frozen part of the heap and an owned one. -/
namespace Vd
open PySem L2
abbrev Ex := Evl.Ex
/-- plain data; rol: a list that is only read (the script); ins, exc: a frozen instance, a frozen exception; ob: a value of which nothing is said -/
inductive D where
  | non | bl (b : Bool) | int (i : Int) | str (x : Str)
  | lst (l : List D) | rol (l : List D) | tup (l : List D) | dct (l : List (Key × D))
  | ins (C : Addr) (l : List (Str × D)) | exc (C : Addr) (l : List (Str × D)) | ob (v : V)
mutual
inductive Rp (K : PySem.W.Frag) (F : Hp) : V → D → Prop
  | non : Rp K F .non .non
  | bl (b : Bool) : Rp K F (.bl b) (.bl b)
  | int (i : Int) : Rp K F (.int i) (.int i)
  | str (x : Str) : Rp K F (.str x) (.str x)
  | lst {a : Addr} {xs : List V} {l : List D} : F a = some (.lst xs) → Rps K F xs l → Rp K F (.ref a) (.lst l)
  | rol {a : Addr} {xs : List V} {l : List D} : SqL K F a xs → Rps K F xs l → Rp K F (.ref a) (.rol l)
  | tup {a : Addr} {xs : List V} {l : List D} : SqT K F a xs → Rps K F xs l → Rp K F (.ref a) (.tup l)
  | dct {a : Addr} {kvs : List (Key × V)} {l : List (Key × D)} : F a = some (.dK kvs) → Rpk K F kvs l → Rp K F (.ref a) (.dct l)
  | ins {a C dx : Addr} {fs : List (Str × V)} {l : List (Str × D)} : F a = some (.ins C dx fs) → Rpf K F fs l → Rp K F (.ref a) (.ins C l)
  | exc0 {a C : Addr} : F a = some (exo a C none) → Rp K F (.ref a) (.exc C [])
  | exc {a C dx : Addr} {fs : List (Str × V)} {l : List (Str × D)} : F a = some (exo a C (some dx)) → F dx = some (exd dx fs) → Rpf K F fs l → Rp K F (.ref a) (.exc C l)
  | ob (v : V) : Rp K F v (.ob v)
inductive Rps (K : PySem.W.Frag) (F : Hp) : List V → List D → Prop
  | nil : Rps K F [] []
  | cons {v : V} {d : D} {vs : List V} {ds : List D} : Rp K F v d → Rps K F vs ds → Rps K F (v :: vs) (d :: ds)
inductive Rpk (K : PySem.W.Frag) (F : Hp) : List (Key × V) → List (Key × D) → Prop
  | nil : Rpk K F [] []
  | cons {k : Key} {v : V} {d : D} {vs : List (Key × V)} {ds : List (Key × D)} : Rp K F v d → Rpk K F vs ds → Rpk K F ((k, v) :: vs) ((k, d) :: ds)
inductive Rpf (K : PySem.W.Frag) (F : Hp) : List (Str × V) → List (Str × D) → Prop
  | nil : Rpf K F [] []
  | cons {k : Str} {v : V} {d : D} {vs : List (Str × V)} {ds : List (Str × D)} : Rp K F v d → Rpf K F vs ds → Rpf K F ((k, v) :: vs) ((k, d) :: ds)
end
section
variable {K : PySem.W.Frag} {F F' : Hp}
mutual
theorem Rp.mono (e : Ex F F') : ∀ {v : V} {d : D}, Rp K F v d → Rp K F' v d
  | _, _, .non => .non
  | _, _, .bl b => .bl b
  | _, _, .int i => .int i
  | _, _, .str x => .str x
  | _, _, .lst h r => .lst (e _ _ h) (Rps.mono e r)
  | _, _, .rol h r => .rol (Evl.ex_l e h) (Rps.mono e r)
  | _, _, .exc0 h => .exc0 (e _ _ h)
  | _, _, .exc h1 h2 r => .exc (e _ _ h1) (e _ _ h2) (Rpf.mono e r)
  | _, _, .tup h r => .tup (Evl.ex_t e h) (Rps.mono e r)
  | _, _, .dct h r => .dct (e _ _ h) (Rpk.mono e r)
  | _, _, .ins h r => .ins (e _ _ h) (Rpf.mono e r)
  | _, _, .ob v => .ob v
theorem Rps.mono (e : Ex F F') : ∀ {v : List V} {d : List D}, Rps K F v d → Rps K F' v d
  | _, _, .nil => .nil
  | _, _, .cons h r => .cons (Rp.mono e h) (Rps.mono e r)
theorem Rpk.mono (e : Ex F F') : ∀ {v : List (Key × V)} {d : List (Key × D)}, Rpk K F v d → Rpk K F' v d
  | _, _, .nil => .nil
  | _, _, .cons h r => .cons (Rp.mono e h) (Rpk.mono e r)
theorem Rpf.mono (e : Ex F F') : ∀ {v : List (Str × V)} {d : List (Str × D)}, Rpf K F v d → Rpf K F' v d
  | _, _, .nil => .nil
  | _, _, .cons h r => .cons (Rp.mono e h) (Rpf.mono e r)
end
theorem Rps.length : ∀ {v : List V} {d : List D}, Rps K F v d → v.length = d.length
  | _, _, .nil => rfl
  | _, _, .cons _ r => by simp [Rps.length r]
theorem Rps.get : ∀ {v : List V} {d : List D} {i : Nat} {x : D}, Rps K F v d → d[i]? = some x → ∃ y, v[i]? = some y ∧ Rp K F y x
  | _, _, _, _, .nil, e => by simp at e
  | _, _, 0, _, .cons h _, e => by
    simp at e
    subst e
    exact ⟨_, rfl, h⟩
  | _, _, i + 1, _, .cons _ r, e => by
    simp only [List.getElem?_cons_succ] at e ⊢
    exact Rps.get r e
theorem Rps.get' : ∀ {v : List V} {d : List D} {i : Nat} {y : V}, Rps K F v d → v[i]? = some y → ∃ x, d[i]? = some x ∧ Rp K F y x
  | _, _, _, _, .nil, e => by simp at e
  | _, _, 0, _, .cons h _, e => by
    simp at e
    subst e
    exact ⟨_, rfl, h⟩
  | _, _, i + 1, _, .cons _ r, e => by
    simp only [List.getElem?_cons_succ] at e ⊢
    exact Rps.get' r e
theorem Rps.append : ∀ {v w : List V} {d e : List D}, Rps K F v d → Rps K F w e → Rps K F (v ++ w) (d ++ e)
  | _, _, _, _, .nil, s => s
  | _, _, _, _, .cons h r, s => .cons h (Rps.append r s)
theorem Rps.take : ∀ {v : List V} {d : List D} (n : Nat), Rps K F v d → Rps K F (v.take n) (d.take n)
  | _, _, 0, _ => .nil
  | _, _, _ + 1, .nil => .nil
  | _, _, n + 1, .cons h r => .cons h (Rps.take n r)
theorem Rps.drop : ∀ {v : List V} {d : List D} (n : Nat), Rps K F v d → Rps K F (v.drop n) (d.drop n)
  | _, _, 0, r => r
  | _, _, _ + 1, .nil => .nil
  | _, _, n + 1, .cons _ r => Rps.drop n r
theorem Rps.set {y : V} {x : D} (h : Rp K F y x) : ∀ {v : List V} {d : List D} (n : Nat), Rps K F v d → Rps K F (v.set n y) (d.set n x)
  | _, _, _, .nil => .nil
  | _, _, 0, .cons _ r => .cons h r
  | _, _, n + 1, .cons z r => .cons z (Rps.set h n r)
theorem Rps.ints : ∀ (l : List Int), Rps K F (l.map V.int) (l.map D.int)
  | [] => .nil
  | i :: l => .cons (.int i) (Rps.ints l)
theorem Rps.bls : ∀ {v : List V} {l : List Bool}, Rps K F v (l.map D.bl) → v = l.map V.bl
  | _, [], .nil => rfl
  | _, b :: l, .cons (.bl _) r => by rw [Rps.bls (l := l) r]; rfl
theorem Rps.intsV : ∀ {v : List V} {l : List Int}, Rps K F v (l.map D.int) → v = l.map V.int
  | _, [], .nil => rfl
  | _, b :: l, .cons (.int _) r => by rw [Rps.intsV (l := l) r]; rfl
theorem Rps.strsV : ∀ {v : List V} {l : List Str}, Rps K F v (l.map D.str) → v = l.map V.str
  | _, [], .nil => rfl
  | _, b :: l, .cons (.str _) r => by rw [Rps.strsV (l := l) r]; rfl
theorem Rpf.look : ∀ {v : List (Str × V)} {d : List (Str × D)} {f : Str} {x : D}, Rpf K F v d → d.lookup f = some x → ∃ y, v.lookup f = some y ∧ Rp K F y x
  | _, _, _, _, .nil, e => by cases e
  | _, _, f, x, .cons (k := k) (v := v) (d := d) h r, e => by
    by_cases q : f = k
    · subst q
      simp [List.lookup] at e ⊢
      subst e
      exact h
    · have q2 : (f == k) = false := by simpa using q
      simp [List.lookup, q2] at e ⊢
      exact Rpf.look r e
theorem look_cons {A : Type} (f k : Str) (x : A) (l : List (Str × A)) : ((k, x) :: l).lookup f = if f = k then some x else l.lookup f := by
  by_cases q : f = k
  · subst q
    simp [List.lookup]
  · have q2 : (f == k) = false := by simpa using q
    simp only [List.lookup, q2, if_neg q]
theorem Rpf.none : ∀ {v : List (Str × V)} {d : List (Str × D)} {f : Str}, Rpf K F v d → d.lookup f = Option.none → v.lookup f = Option.none
  | _, _, _, .nil, _ => rfl
  | _, _, f, .cons (k := k) (v := v) (d := d) h r, e => by
    rw [look_cons] at e ⊢
    by_cases q : f = k
    · rw [if_pos q] at e
      cases e
    · rw [if_neg q] at e ⊢
      exact Rpf.none r e
theorem Rpf.length : ∀ {v : List (Str × V)} {d : List (Str × D)}, Rpf K F v d → v.length = d.length
  | _, _, .nil => rfl
  | _, _, .cons _ r => by simp [Rpf.length r]
end
/-! ### what stands in the slots -/
structure Sl (K : PySem.W.Frag) (F : Hp) (σ : L2.St) (env : List (Option D)) : Prop where
  len : σ.length = env.length
  at_ : ∀ (i : Nat) (d : D), env[i]? = some (some d) → ∃ v, σ[i]? = some (some v) ∧ Rp K F v d
section
variable {K : PySem.W.Frag} {F F' : Hp} {σ : L2.St} {env : List (Option D)}
theorem Sl.mono (e : Ex F F') (s : Sl K F σ env) : Sl K F' σ env := ⟨s.len, fun i d h => by
  obtain ⟨v, h1, h2⟩ := s.at_ i d h
  exact ⟨v, h1, h2.mono e⟩⟩
theorem Sl.set {v : V} {d : D} (s : Sl K F σ env) (r : Rp K F v d) (i : Nat) : Sl K F (σ.set i (some v)) (env.set i (some d)) := ⟨by rw [List.length_set, List.length_set, s.len], fun j e h => by
  rw [List.getElem?_set] at h ⊢
  by_cases q : i = j
  · subst q
    rw [if_pos rfl] at h ⊢
    by_cases l : i < env.length
    · rw [if_pos l] at h
      rw [if_pos (by rw [s.len]; exact l)]
      cases h
      exact ⟨v, rfl, r⟩
    · rw [if_neg l] at h
      cases h
  · rw [if_neg q] at h ⊢
    exact s.at_ j e h⟩
theorem Sl.unset (s : Sl K F σ env) (i : Nat) : Sl K F (σ.set i none) (env.set i none) := ⟨by rw [List.length_set, List.length_set, s.len], fun j e h => by
  rw [List.getElem?_set] at h ⊢
  by_cases q : i = j
  · subst q
    rw [if_pos rfl] at h
    by_cases l : i < env.length
    · rw [if_pos l] at h
      cases h
    · rw [if_neg l] at h
      cases h
  · rw [if_neg q] at h ⊢
    exact s.at_ j e h⟩
def wipeE (env : List (Option D)) : List Nat → List (Option D)
  | [] => env
  | v :: vs => (wipeE env vs).set v none
theorem Sl.wipe (s : Sl K F σ env) : ∀ vs : List Nat, Sl K F (L2.wipe σ vs) (wipeE env vs)
  | [] => s
  | v :: vs => (Sl.wipe s vs).unset v
theorem Sl.start {N : List Str} {vs : List V} {ds : List D} (r : Rps K F vs ds) : Sl K F (L2.start N vs) (ds.map some ++ List.replicate (N.length - ds.length) none) := by
  have e := r.length
  refine ⟨by simp [L2.start, e], fun i d h => ?_⟩
  unfold L2.start
  by_cases l : i < ds.length
  · rw [List.getElem?_append_left (by simpa using l)] at h
    rw [List.getElem?_append_left (by simpa [e] using l)]
    rw [List.getElem?_map] at h ⊢
    cases q : ds[i]? with
    | none =>
      rw [q] at h
      cases h
    | some x =>
      rw [q] at h
      cases h
      obtain ⟨y, h1, h2⟩ := r.get q
      exact ⟨y, by rw [h1]; rfl, h2⟩
  · rw [List.getElem?_append_right (by simpa using l)] at h
    rw [List.getElem?_replicate] at h
    split at h <;> cases h
/-- a slot's data may be told otherwise, or not at all -/
theorem Sl.weak {env' : List (Option D)} (s : Sl K F σ env) (l : env'.length = env.length) (h : ∀ (i : Nat) (d : D), env'[i]? = some (some d) → env[i]? = some (some d)) : Sl K F σ env' :=
  ⟨by rw [s.len, l], fun i d e => s.at_ i d (h i d e)⟩
end
/-! ### what is owned -/
inductive OD where
  | lst (l : List D) | dct (l : List (Key × D)) | ins (C : Addr) (l : List (Str × D))
abbrev Ow := Addr → Option OD
def ou (ow : Ow) (a : Addr) (o : OD) : Ow := fun b => if b = a then some o else ow b
theorem ou_same {ow : Ow} {a : Addr} {o : OD} : ou ow a o a = some o := by unfold ou; rw [if_pos rfl]
theorem ou_ne {ow : Ow} {a b : Addr} {o : OD} (h : b ≠ a) : ou ow a o b = ow b := by unfold ou; rw [if_neg h]
theorem ou_ou {ow : Ow} {a : Addr} {o u : OD} : ou (ou ow a o) a u = ou ow a u := by
  funext b; unfold ou; split <;> rfl
def OdOk (K : PySem.W.Frag) (F H : Hp) (a : Addr) : OD → Prop
  | .lst l => ∃ xs, H a = some (.lst xs) ∧ Rps K F xs l
  | .dct l => ∃ kvs, H a = some (.dK kvs) ∧ Rpk K F kvs l
  | .ins C l => ∃ dx fs, H a = some (.ins C dx fs) ∧ Rpf K F fs l
theorem OdOk.there {K : PySem.W.Frag} {F H : Hp} {a : Addr} : ∀ {o : OD}, OdOk K F H a o → ∃ u, H a = some u
  | .lst _, ⟨_, h, _⟩ => ⟨_, h⟩
  | .dct _, ⟨_, h, _⟩ => ⟨_, h⟩
  | .ins _ _, ⟨_, _, h, _⟩ => ⟨_, h⟩
theorem OdOk.stay {K : PySem.W.Frag} {F F' H H' : Hp} {a : Addr} (e : Ex F F') (h : H' a = H a) : ∀ {o : OD}, OdOk K F H a o → OdOk K F' H' a o
  | .lst _, ⟨xs, q, r⟩ => ⟨xs, h.trans q, r.mono e⟩
  | .dct _, ⟨xs, q, r⟩ => ⟨xs, h.trans q, r.mono e⟩
  | .ins _ _, ⟨dx, xs, q, r⟩ => ⟨dx, xs, h.trans q, r.mono e⟩
structure Wo (K : PySem.W.Frag) (ow : Ow) (F H : Hp) : Prop where
  ex : Ex F H
  own : ∀ a o, ow a = some o → F a = none ∧ OdOk K F H a o
section
variable {K : PySem.W.Frag} {ow : Ow} {F H : Hp} {p : Addr} {o : HO}
theorem Wo.free (w : Wo K ow F H) (h : H p = none) : F p = none := Evl.fresh_back w.ex h
theorem Wo.ofree (w : Wo K ow F H) (h : H p = none) : ow p = none := by
  cases q : ow p with
  | none => rfl
  | some u =>
    obtain ⟨_, z, e⟩ := (w.own p u q).imp id OdOk.there
    rw [h] at e
    cases e
/-- a new object, frozen -/
theorem Wo.new (w : Wo K ow F H) (h : H p = none) : Wo K ow (upd F p o) (upd H p o) := by
  refine ⟨fun a u e => ?_, fun a u e => ?_⟩
  · by_cases q : a = p
    · subst q
      rw [upd_same] at e ⊢
      exact e
    · rw [upd_ne q] at e ⊢
      exact w.ex a u e
  · obtain ⟨h1, h2⟩ := w.own a u e
    have q : a ≠ p := by
      obtain ⟨z, hz⟩ := h2.there
      exact ne_of_none hz h
    refine ⟨by rw [upd_ne q]; exact h1, h2.stay (Evl.Ex.new (w.free h)) (upd_ne q)⟩
theorem Wo.exnew (w : Wo K ow F H) (h : H p = none) : Ex F (upd F p o) := Evl.Ex.new (w.free h)
/-- a new object, untracked by both: the heap alone grows -/
theorem Wo.grow (w : Wo K ow F H) (h : H p = none) : Wo K ow F (upd H p o) := by
  refine ⟨fun a u e => ?_, fun a u e => ?_⟩
  · rw [upd_ne (ne_of_none (w.ex a u e) h)]
    exact w.ex a u e
  · obtain ⟨h1, h2⟩ := w.own a u e
    obtain ⟨z, hz⟩ := h2.there
    exact ⟨h1, h2.stay (Evl.Ex.refl F) (upd_ne (ne_of_none hz h))⟩
/-- a new list, owned -/
theorem Wo.newL {xs : List V} {l : List D} (w : Wo K ow F H) (h : H p = none) (r : Rps K F xs l) : Wo K (ou ow p (.lst l)) F (upd H p (.lst xs)) := by
  refine ⟨(w.grow h).ex, fun a u e => ?_⟩
  by_cases q : a = p
  · subst q
    rw [ou_same] at e
    cases e
    exact ⟨w.free h, xs, upd_same, r⟩
  · rw [ou_ne q] at e
    exact (w.grow h).own a u e
/-- a new dict, owned -/
theorem Wo.newK {kvs : List (Key × V)} {l : List (Key × D)} (w : Wo K ow F H) (h : H p = none) (r : Rpk K F kvs l) : Wo K (ou ow p (.dct l)) F (upd H p (.dK kvs)) := by
  refine ⟨(w.grow h).ex, fun a u e => ?_⟩
  by_cases q : a = p
  · subst q
    rw [ou_same] at e
    cases e
    exact ⟨w.free h, kvs, upd_same, r⟩
  · rw [ou_ne q] at e
    exact (w.grow h).own a u e
/-- an owned list is changed -/
theorem Wo.setL {xs : List V} {l l0 : List D} (w : Wo K ow F H) (h : ow p = some (.lst l0)) (r : Rps K F xs l) : Wo K (ou ow p (.lst l)) F (upd H p (.lst xs)) := by
  obtain ⟨n, _⟩ := w.own p _ h
  refine ⟨fun a u e => ?_, fun a u e => ?_⟩
  · rw [upd_ne (ne_of_none e n)]
    exact w.ex a u e
  · by_cases q : a = p
    · subst q
      rw [ou_same] at e
      cases e
      exact ⟨n, xs, upd_same, r⟩
    · rw [ou_ne q] at e
      obtain ⟨h1, h2⟩ := w.own a u e
      exact ⟨h1, h2.stay (Evl.Ex.refl F) (upd_ne q)⟩
theorem Wo.setK {kvs : List (Key × V)} {l l0 : List (Key × D)} (w : Wo K ow F H) (h : ow p = some (.dct l0)) (r : Rpk K F kvs l) : Wo K (ou ow p (.dct l)) F (upd H p (.dK kvs)) := by
  obtain ⟨n, _⟩ := w.own p _ h
  refine ⟨fun a u e => ?_, fun a u e => ?_⟩
  · rw [upd_ne (ne_of_none e n)]
    exact w.ex a u e
  · by_cases q : a = p
    · subst q
      rw [ou_same] at e
      cases e
      exact ⟨n, kvs, upd_same, r⟩
    · rw [ou_ne q] at e
      obtain ⟨h1, h2⟩ := w.own a u e
      exact ⟨h1, h2.stay (Evl.Ex.refl F) (upd_ne q)⟩
theorem Wo.setI {C dx : Addr} {fs fs0 : List (Str × V)} {l l0 : List (Str × D)} (w : Wo K ow F H) (h : ow p = some (.ins C l0)) (r : Rpf K F fs l) : Wo K (ou ow p (.ins C l)) F (upd H p (.ins C dx fs)) := by
  obtain ⟨n, _⟩ := w.own p _ h
  refine ⟨fun a u e => ?_, fun a u e => ?_⟩
  · rw [upd_ne (ne_of_none e n)]
    exact w.ex a u e
  · by_cases q : a = p
    · subst q
      rw [ou_same] at e
      cases e
      exact ⟨n, dx, fs, upd_same, r⟩
    · rw [ou_ne q] at e
      obtain ⟨h1, h2⟩ := w.own a u e
      exact ⟨h1, h2.stay (Evl.Ex.refl F) (upd_ne q)⟩
/-- an owned thing is let freeze -/
theorem Wo.freeze {u : HO} (w : Wo K ow F H) (n : F p = none) (h : H p = some u) (hp : ow p = none) : Wo K ow (upd F p u) H := by
  refine ⟨fun a o e => ?_, fun a o e => ?_⟩
  · by_cases q : a = p
    · subst q
      rw [upd_same] at e
      cases e
      exact h
    · rw [upd_ne q] at e
      exact w.ex a o e
  · have q : a ≠ p := fun z => by
      subst z
      rw [hp] at e
      cases e
    obtain ⟨h1, h2⟩ := w.own a o e
    exact ⟨by rw [upd_ne q]; exact h1, h2.stay (Evl.Ex.new n) rfl⟩
theorem Wo.drop {ow' : Ow} (w : Wo K ow F H) (h : ∀ a o, ow' a = some o → ow a = some o) : Wo K ow' F H := ⟨w.ex, fun a o e => w.own a o (h a o e)⟩
end
end Vd
set_option Elab.async false
set_option linter.all false
set_option maxRecDepth 100000
set_option maxHeartbeats 4000000
namespace Vd
open PySem L2
/-! ### the weakest readings -/
def WpE (X : Cx) (e : Expr) : TE := fun σ H Q => ∀ pins s, Inv X pins σ H s → wpAny (model X.prog X.w) X.A (eval e X.env) (EP X pins σ Q) X.xe s
def WpT (X : Cx) (e : Expr) : TT := fun σ H Q => ∀ pins s, Inv X pins σ H s → wpAny (model X.prog X.w) X.A (isTrue e X.env (eval e X.env)) (TP X pins σ Q) X.xe s
def WpA (X : Cx) (es : List Expr) : TA := fun σ H Q => ∀ (pos : Pos) pins s, Inv X pins σ H s → wpAny (model X.prog X.w) X.A (spliced (backTo pos (starEach es X.env))) (AP X pins σ Q) X.xe s
def WpS (X : Cx) (ss : List Stmt) : TS := fun D σ H => ∀ pins s, Inv X pins σ H s → wpAny (model X.prog X.w) X.A (execs ss X.env) (SP X pins D) X.xe s
section
variable {X : Cx}
theorem pe_can {e : Expr} : PE X e (WpE X e) := ⟨fun pins s _ _ _ I h => h pins s I⟩
theorem pt_can {e : Expr} : PT X e (WpT X e) := ⟨fun pins s _ _ _ I h => h pins s I⟩
theorem pa_can {es : List Expr} : PA X es (WpA X es) := ⟨fun pos pins s _ _ _ I h => h pos pins s I⟩
theorem pss_can {ss : List Stmt} : PSs X ss (WpS X ss) := ⟨fun pins s _ _ _ I h => h pins s I⟩
theorem wpe {e : Expr} {t : TE} (p : PE X e t) {σ : L2.St} {H : Hp} {Q : VK} (h : t σ H Q) : WpE X e σ H Q := fun pins s I => p.run pins s σ H Q I h
theorem wpt {e : Expr} {t : TT} (p : PT X e t) {σ : L2.St} {H : Hp} {Q : Bool → Hp → Prop} (h : t σ H Q) : WpT X e σ H Q := fun pins s I => p.run pins s σ H Q I h
theorem wpa {es : List Expr} {t : TA} (p : PA X es t) {σ : L2.St} {H : Hp} {Q : List V → Hp → Prop} (h : t σ H Q) : WpA X es σ H Q := fun pos pins s I => p.run pos pins s σ H Q I h
theorem wps {ss : List Stmt} {t : TS} (p : PSs X ss t) {D : Ends} {σ : L2.St} {H : Hp} (h : t D σ H) : WpS X ss D σ H := fun pins s I => p.run pins s σ H D I h
end
/-! ### judgements -/
def Post (K : PySem.W.Frag) (ow : Ow) (F : Hp) (d : D) (Q : VK) : Prop := ∀ F2 H2 v, Ex F F2 → Wo K ow F2 H2 → Rp K F2 v d → Q v H2
def PostB (K : PySem.W.Frag) (ow : Ow) (F : Hp) (b : Bool) (Q : Bool → Hp → Prop) : Prop := ∀ F2 H2, Ex F F2 → Wo K ow F2 H2 → Q b H2
def PostA (K : PySem.W.Frag) (ow : Ow) (F : Hp) (ds : List D) (Q : List V → Hp → Prop) : Prop := ∀ F2 H2 vs, Ex F F2 → Wo K ow F2 H2 → Rps K F2 vs ds → Q vs H2
theorem Post.ex {K : PySem.W.Frag} {ow : Ow} {F F' : Hp} {d : D} {Q : VK} (p : Post K ow F d Q) (e : Ex F F') : Post K ow F' d Q := fun F2 H2 v e2 w r => p F2 H2 v (e.trans e2) w r
/-- an expression comes to the data d; what is owned stays -/
structure Ve (X : Cx) (e : Expr) (env : List (Option D)) (ow : Ow) (d : D) : Prop where
  run : ∀ (σ : L2.St) (F H : Hp) (Q : VK), Sl X.K F σ env → Wo X.K ow F H → Post X.K ow F d Q → WpE X e σ H Q
instance (X : Cx) (e : Expr) (env : List (Option D)) (ow : Ow) (d : D) : CoeFun (Ve X e env ow d) (fun _ => ∀ (σ : L2.St) (F H : Hp) (Q : VK), Sl X.K F σ env → Wo X.K ow F H → Post X.K ow F d Q → WpE X e σ H Q) := ⟨fun h => h.run⟩
structure Vt (X : Cx) (e : Expr) (env : List (Option D)) (ow : Ow) (b : Bool) : Prop where
  run : ∀ (σ : L2.St) (F H : Hp) (Q : Bool → Hp → Prop), Sl X.K F σ env → Wo X.K ow F H → PostB X.K ow F b Q → WpT X e σ H Q
instance (X : Cx) (e : Expr) (env : List (Option D)) (ow : Ow) (b : Bool) : CoeFun (Vt X e env ow b) (fun _ => ∀ (σ : L2.St) (F H : Hp) (Q : Bool → Hp → Prop), Sl X.K F σ env → Wo X.K ow F H → PostB X.K ow F b Q → WpT X e σ H Q) := ⟨fun h => h.run⟩
structure Va (X : Cx) (es : List Expr) (env : List (Option D)) (ow : Ow) (ds : List D) : Prop where
  run : ∀ (σ : L2.St) (F H : Hp) (Q : List V → Hp → Prop), Sl X.K F σ env → Wo X.K ow F H → PostA X.K ow F ds Q → WpA X es σ H Q
instance (X : Cx) (es : List Expr) (env : List (Option D)) (ow : Ow) (ds : List D) : CoeFun (Va X es env ow ds) (fun _ => ∀ (σ : L2.St) (F H : Hp) (Q : List V → Hp → Prop), Sl X.K F σ env → Wo X.K ow F H → PostA X.K ow F ds Q → WpA X es σ H Q) := ⟨fun h => h.run⟩
/-- an expression that changes what is owned: P tells the data and what is owned behind it -/
structure Vm (X : Cx) (e : Expr) (env : List (Option D)) (ow : Ow) (P : D → Ow → Prop) : Prop where
  run : ∀ (σ : L2.St) (F H : Hp) (Q : VK), Sl X.K F σ env → Wo X.K ow F H → (∀ F2 H2 v d ow2, Ex F F2 → Wo X.K ow2 F2 H2 → Rp X.K F2 v d → P d ow2 → Q v H2) → WpE X e σ H Q
instance (X : Cx) (e : Expr) (env : List (Option D)) (ow : Ow) (P : D → Ow → Prop) : CoeFun (Vm X e env ow P) (fun _ => ∀ (σ : L2.St) (F H : Hp) (Q : VK), Sl X.K F σ env → Wo X.K ow F H → (∀ F2 H2 v d ow2, Ex F F2 → Wo X.K ow2 F2 H2 → Rp X.K F2 v d → P d ow2 → Q v H2) → WpE X e σ H Q) := ⟨fun h => h.run⟩
/-- a block: B the frozen part at the def's entry -/
structure Rn (X : Cx) (B : Hp) (ss : List Stmt) (Dn : Ends) (env : List (Option D)) (ow : Ow) : Prop where
  run : ∀ (σ : L2.St) (F H : Hp), Ex B F → Sl X.K F σ env → Wo X.K ow F H → WpS X ss Dn σ H
instance (X : Cx) (B : Hp) (ss : List Stmt) (Dn : Ends) (env : List (Option D)) (ow : Ow) : CoeFun (Rn X B ss Dn env ow) (fun _ => ∀ (σ : L2.St) (F H : Hp), Ex B F → Sl X.K F σ env → Wo X.K ow F H → WpS X ss Dn σ H) := ⟨fun h => h.run⟩
/-- two values, by an operation's reading -/
structure RD (K : PySem.W.Frag) (ow : Ow) (r : R2) (a b d : D) : Prop where
  run : ∀ (F H : Hp) (x y : V) (Q : VK), Wo K ow F H → Rp K F x a → Rp K F y b → Post K ow F d Q → r x y H Q
instance (K : PySem.W.Frag) (ow : Ow) (r : R2) (a b d : D) : CoeFun (RD K ow r a b d) (fun _ => ∀ (F H : Hp) (x y : V) (Q : VK), Wo K ow F H → Rp K F x a → Rp K F y b → Post K ow F d Q → r x y H Q) := ⟨fun h => h.run⟩
structure RU (K : PySem.W.Frag) (ow : Ow) (r : V → Hp → VK → Prop) (a d : D) : Prop where
  run : ∀ (F H : Hp) (x : V) (Q : VK), Wo K ow F H → Rp K F x a → Post K ow F d Q → r x H Q
instance (K : PySem.W.Frag) (ow : Ow) (r : V → Hp → VK → Prop) (a d : D) : CoeFun (RU K ow r a d) (fun _ => ∀ (F H : Hp) (x : V) (Q : VK), Wo K ow F H → Rp K F x a → Post K ow F d Q → r x H Q) := ⟨fun h => h.run⟩
structure RC (K : PySem.W.Frag) (ow : Ow) (r : List V → Hp → VK → Prop) (as : List D) (d : D) : Prop where
  run : ∀ (F H : Hp) (xs : List V) (Q : VK), Wo K ow F H → Rps K F xs as → Post K ow F d Q → r xs H Q
instance (K : PySem.W.Frag) (ow : Ow) (r : List V → Hp → VK → Prop) (as : List D) (d : D) : CoeFun (RC K ow r as d) (fun _ => ∀ (F H : Hp) (xs : List V) (Q : VK), Wo K ow F H → Rps K F xs as → Post K ow F d Q → r xs H Q) := ⟨fun h => h.run⟩
theorem Post.here {K : PySem.W.Frag} {ow : Ow} {F H : Hp} {d : D} {Q : VK} {v : V} (p : Post K ow F d Q) (w : Wo K ow F H) (r : Rp K F v d) : Q v H := p F H v (Evl.Ex.refl F) w r
/-- a new thing that is frozen at once -/
theorem Post.new {K : PySem.W.Frag} {ow : Ow} {F H : Hp} {d : D} {Q : VK} {p : Addr} {o : HO} (k : Post K ow F d Q) (w : Wo K ow F H) (hp : H p = none) (r : Rp K (upd F p o) (.ref p) d) : Q (.ref p) (upd H p o) := k _ _ _ (w.exnew hp) (w.new hp) r
section
variable {X : Cx} {env : List (Option D)} {ow : Ow} {a b c e : Expr} {es : List Expr} {d d1 d2 d3 : D} {ds : List D} {pos : Pos}
/-! ### expressions -/
theorem ve_is (h : Ve X e env ow d) (q : d = d1) : Ve X e env ow d1 := q ▸ h
theorem ve_var {i : Nat} {x : Str} (he : env[i]? = some (some d)) (hN : X.N[i]? = some x) (hv : Vis X.env.scope x) (hd : (x == ("__debug__" : Str)) = false := by decide) (hc : (x == ("__classdict__" : Str)) = false := by decide) : Ve X (.Name x pos) env ow d := .mk fun σ F H Q s w k => by
  obtain ⟨v, h1, h2⟩ := s.at_ i d he
  exact wpe (pe_var hN hv hd hc) ⟨v, h1, k.here w h2⟩
theorem ve_int {i : Int} {j : Nat} : Ve X (.Constant (.int i) j pos) env ow (.int i) := .mk fun σ F H Q s w k => wpe pe_int (k.here w (.int i))
theorem ve_bl {b : Bool} {j : Nat} : Ve X (.Constant (.bool b) j pos) env ow (.bl b) := .mk fun σ F H Q s w k => wpe pe_bl (k.here w (.bl b))
theorem ve_non {j : Nat} : Ve X (.Constant .none j pos) env ow .non := .mk fun σ F H Q s w k => wpe pe_non (k.here w .non)
theorem ve_str {x : Str} {j : Nat} : Ve X (.Constant (.str x) j pos) env ow (.str x) := .mk fun σ F H Q s w k => wpe pe_str (k.here w (.str x))
/-- a constant of the module -/
theorem ve_glob {x : Str} {v : V} {u : Value} (hg : Gl X x) (hm : X.mg x = some u) (r : RelV v u) (hd : ∀ F, Rp X.K F v d) (hx : (x == ("__debug__" : Str)) = false := by decide) : Ve X (.Name x pos) env ow d := .mk fun σ F H Q s w k => wpe (pe_glob hg hm r hx) (k.here w (hd F))
theorem ve_op {op : Operator} {r : R2} (ho : OpR X (binaryOp op) r) (ha : Ve X a env ow d1) (hb : Ve X b env ow d2) (hr : RD X.K ow r d1 d2 d) : Ve X (.BinOp a op b pos) env ow d := .mk fun σ F H Q s w k =>
  wpe (pe_op ho pe_can pe_can) (ha σ F H _ s w fun F1 H1 x e1 w1 r1 => hb σ F1 H1 _ (s.mono e1) w1 fun F2 H2 y e2 w2 r2 => hr F2 H2 x y Q w2 (r1.mono e2) r2 (k.ex (e1.trans e2)))
theorem ve_un {op : UnaryOp} {r : V → Hp → VK → Prop} (ho : UnR X (unaryOp op) r) (ha : Ve X a env ow d1) (hr : RU X.K ow r d1 d) : Ve X (.UnaryOp op a pos) env ow d := .mk fun σ F H Q s w k =>
  wpe (pe_un ho pe_can) (ha σ F H _ s w fun F1 H1 x e1 w1 r1 => hr F1 H1 x Q w1 r1 (k.ex e1))
theorem ve_cmp {op : CmpOp} {r : R2} (ho : OpR X (compareOp op) r) (hm : behindInMarks op b = false) (ha : Ve X a env ow d1) (hb : Ve X b env ow d2) (hr : RD X.K ow r d1 d2 d) : Ve X (.Compare a [op] [b] pos) env ow d := .mk fun σ F H Q s w k =>
  wpe (pe_cmpR ho pe_can pe_can hm) (ha σ F H _ s w fun F1 H1 x e1 w1 r1 => hb σ F1 H1 _ (s.mono e1) w1 fun F2 H2 y e2 w2 r2 => hr F2 H2 x y Q w2 (r1.mono e2) r2 (k.ex (e1.trans e2)))
theorem ve_if {t : Bool} (hc : Vt X c env ow t) (h1 : t = true → Ve X a env ow d) (h2 : t = false → Ve X b env ow d) : Ve X (.IfExp c a b pos) env ow d := .mk fun σ F H Q s w k =>
  wpe (pe_ifExp pt_can pe_can pe_can) (hc σ F H _ s w fun F1 H1 e1 w1 => by
    cases t with
    | true =>
      show (if true = true then WpE X a σ H1 Q else WpE X b σ H1 Q)
      rw [if_pos rfl]
      exact h1 rfl σ F1 H1 Q (s.mono e1) w1 (k.ex e1)
    | false =>
      show (if false = true then WpE X a σ H1 Q else WpE X b σ H1 Q)
      rw [if_neg Bool.false_ne_true]
      exact h2 rfl σ F1 H1 Q (s.mono e1) w1 (k.ex e1))
/-! arguments -/
theorem va_nil : Va X [] env ow [] := .mk fun σ F H Q s w k => wpa pa_nil (k F H [] (Evl.Ex.refl F) w .nil)
theorem va_cons (h : Ve X e env ow d) (hs : Va X es env ow ds) (hst : starEach (e :: es) X.env = (false, eval e X.env) :: starEach es X.env := by rfl) : Va X (e :: es) env ow (d :: ds) := .mk fun σ F H Q s w k =>
  wpa (pa_cons pe_can pa_can hst) (h σ F H _ s w fun F1 H1 x e1 w1 r1 => hs σ F1 H1 _ (s.mono e1) w1 fun F2 H2 xs e2 w2 r2 => k F2 H2 _ (e1.trans e2) w2 (.cons (r1.mono e2) r2))
theorem ve_lst (h : Va X es env ow ds) (hl : ds.length ≤ 100000) : Ve X (.List es pos) env ow (.lst ds) := .mk fun σ F H Q s w k =>
  wpe (pe_lst pa_can) (h σ F H _ s w fun F1 H1 xs e1 w1 r1 => ⟨Evl.sz_of (by rw [r1.length]; exact hl), fun p hp => (k.ex e1).new w1 hp (.lst upd_same (r1.mono (w1.exnew hp)))⟩)
theorem ve_tup {k0 : Nat} (h : Va X es env ow ds) (hl : ds.length ≤ 100000) : Ve X (.Tuple es k0 pos) env ow (.tup ds) := .mk fun σ F H Q s w k =>
  wpe (pe_tup pa_can) (h σ F H _ s w fun F1 H1 xs e1 w1 r1 => ⟨Evl.sz_of (by rw [r1.length]; exact hl), fun p hp => (k.ex e1).new w1 hp (.tup (SqT.of upd_same) (r1.mono (w1.exnew hp)))⟩)
theorem ve_cb {r : List V → Hp → VK → Prop} {id : String} {x : Str} {p : Pos} (hc : CallR X (.builtin id) r) (hg : Gl X x) (hm : X.mg x = none) (hv : bootBuiltins x = some (.builtin id)) (ha : Va X (e :: es) env ow ds) (hr : RC X.K ow r ds d) (hn : x ≠ "__name__" := by decide) (hdb : (x == ("__debug__" : Str)) = false := by decide)
    (he : starEach (e :: es) X.env = (false, eval e X.env) :: starEach es X.env := by rfl) (hpl : (backTo pos (starEach es X.env)).any (·.1) = false := by rfl) : Ve X (.Call (.Name x p) (e :: es) [] pos) env ow d := .mk fun σ F H Q s w k =>
  wpe (pe_callB hc hg hm hv pa_can hn hdb he hpl) (ha σ F H _ s w fun F1 H1 xs e1 w1 r1 => hr F1 H1 xs Q w1 r1 (k.ex e1))
theorem ve_ct {r : List V → Hp → VK → Prop} {id : String} {x : Str} {p : Pos} (hc : CallR X (.type id) r) (hg : Gl X x) (hm : X.mg x = none) (hv : bootBuiltins x = some (.type id)) (ha : Va X (e :: es) env ow ds) (hr : RC X.K ow r ds d) (hn : x ≠ "__name__" := by decide) (hdb : (x == ("__debug__" : Str)) = false := by decide)
    (he : starEach (e :: es) X.env = (false, eval e X.env) :: starEach es X.env := by rfl) (hpl : (backTo pos (starEach es X.env)).any (·.1) = false := by rfl) : Ve X (.Call (.Name x p) (e :: es) [] pos) env ow d := .mk fun σ F H Q s w k =>
  wpe (pe_callTy hc hg hm hv pa_can hn hdb he hpl) (ha σ F H _ s w fun F1 H1 xs e1 w1 r1 => hr F1 H1 xs Q w1 r1 (k.ex e1))
theorem ve_ix {r : R2} (hr0 : IxR X r) (hs : PlainIx b) (ha : Ve X a env ow d1) (hb : Ve X b env ow d2) (hr : RD X.K ow r d1 d2 d) : Ve X (.Subscript a b pos) env ow d := .mk fun σ F H Q s w k =>
  wpe (pe_ix hr0 pe_can pe_can hs) (ha σ F H _ s w fun F1 H1 x e1 w1 r1 => hb σ F1 H1 _ (s.mono e1) w1 fun F2 H2 y e2 w2 r2 => hr F2 H2 x y Q w2 (r1.mono e2) r2 (k.ex (e1.trans e2)))
/-! tests -/
theorem vt_val {t : Bool} (h : Ve X e env ow (.bl t)) (he : ∀ whole, isTrue e X.env whole = (do let v ← whole; standAt e.pos; holding [v] (truthy v)) := by intro _; rfl) : Vt X e env ow t := .mk fun σ F H Q s w k =>
  wpt (pt_val pe_can he) (h σ F H _ s w fun F1 H1 x e1 w1 r1 => by
    cases r1
    exact ⟨t, rfl, k F1 H1 e1 w1⟩)
theorem vt_cmp {op : CmpOp} {r : R2} {t : Bool} (ho : OpR X (compareOp op) r) (hm : behindInMarks op b = false) (ha : Ve X a env ow d1) (hb : Ve X b env ow d2) (hr : RD X.K ow r d1 d2 (.bl t)) : Vt X (.Compare a [op] [b] pos) env ow t := .mk fun σ F H Q s w k =>
  wpt (pt_cmpR ho pe_can pe_can hm) (ha σ F H _ s w fun F1 H1 x e1 w1 r1 => hb σ F1 H1 _ (s.mono e1) w1 fun F2 H2 y e2 w2 r2 => hr F2 H2 x y _ w2 (r1.mono e2) r2 fun F3 H3 v e3 w3 r3 => by
    cases r3
    exact ⟨t, rfl, k F3 H3 ((e1.trans e2).trans e3) w3⟩)
theorem vt_not {t : Bool} (h : Vt X e env ow t) : Vt X (.UnaryOp .Not e pos) env ow (!t) := .mk fun σ F H Q s w k =>
  wpt (pt_not pt_can) (h σ F H _ s w fun F1 H1 e1 w1 => k F1 H1 e1 w1)
theorem vt_is {t u : Bool} (h : Vt X e env ow t) (q : t = u) : Vt X e env ow u := q ▸ h
/-- a and b and .., a or b or ..: the test's own form -/
def Vw (X : Cx) (e : Expr) (env : List (Option D)) (ow : Ow) (b : Bool) : Prop := ∃ t, PW X e t ∧ ∀ (σ : L2.St) (F H : Hp) (Q : Bool → Hp → Prop), Sl X.K F σ env → Wo X.K ow F H → PostB X.K ow F b Q → t σ H Q
theorem vt_w {t : Bool} (h : Vw X e env ow t) : Vt X e env ow t := .mk fun σ F H Q s w k => by
  obtain ⟨u, p, q⟩ := h
  exact wpt p.pt (q σ F H Q s w k)
theorem vw_and1 {t : Bool} (h : Vt X a env ow t) : Vw X (.BoolOp .And [a] pos) env ow t := ⟨_, pw_and1 pt_can, h⟩
theorem vw_or1 {t : Bool} (h : Vt X a env ow t) : Vw X (.BoolOp .Or [a] pos) env ow t := ⟨_, pw_or1 pt_can, h⟩
theorem vw_and {t u : Bool} (h : Vt X a env ow t) (h2 : t = true → Vw X (.BoolOp .And (b :: es) pos) env ow u) (pw : ∃ tt, PW X (.BoolOp .And (b :: es) pos) tt) : Vw X (.BoolOp .And (a :: b :: es) pos) env ow (t && u) := by
  cases t with
  | true =>
    obtain ⟨tt, p, q⟩ := h2 rfl
    refine ⟨_, pw_and pt_can p, fun σ F H Q s w k => h σ F H _ s w fun F1 H1 e1 w1 => ?_⟩
    show (if true = true then tt σ H1 Q else Q false H1)
    rw [if_pos rfl]
    exact q σ F1 H1 Q (s.mono e1) w1 fun F2 H2 e2 w2 => k F2 H2 (e1.trans e2) w2
  | false =>
    obtain ⟨tt, p⟩ := pw
    refine ⟨_, pw_and pt_can p, fun σ F H Q s w k => h σ F H _ s w fun F1 H1 e1 w1 => ?_⟩
    show (if false = true then tt σ H1 Q else Q false H1)
    rw [if_neg Bool.false_ne_true]
    exact k F1 H1 e1 w1
theorem vw_or {t u : Bool} (h : Vt X a env ow t) (h2 : t = false → Vw X (.BoolOp .Or (b :: es) pos) env ow u) (pw : ∃ tt, PW X (.BoolOp .Or (b :: es) pos) tt) : Vw X (.BoolOp .Or (a :: b :: es) pos) env ow (t || u) := by
  cases t with
  | false =>
    obtain ⟨tt, p, q⟩ := h2 rfl
    refine ⟨_, pw_or pt_can p, fun σ F H Q s w k => h σ F H _ s w fun F1 H1 e1 w1 => ?_⟩
    show (if false = true then Q true H1 else tt σ H1 Q)
    rw [if_neg Bool.false_ne_true]
    exact q σ F1 H1 Q (s.mono e1) w1 fun F2 H2 e2 w2 => k F2 H2 (e1.trans e2) w2
  | true =>
    obtain ⟨tt, p⟩ := pw
    refine ⟨_, pw_or pt_can p, fun σ F H Q s w k => h σ F H _ s w fun F1 H1 e1 w1 => ?_⟩
    show (if true = true then Q true H1 else tt σ H1 Q)
    rw [if_pos rfl]
    exact k F1 H1 e1 w1
theorem pw_all_and : ∀ (es : List Expr) (a : Expr), ∃ tt, PW X (.BoolOp .And (a :: es) pos) tt
  | [], a => ⟨_, pw_and1 pt_can⟩
  | b :: es, a => by
    obtain ⟨tt, p⟩ := pw_all_and es b
    exact ⟨_, pw_and pt_can p⟩
theorem pw_all_or : ∀ (es : List Expr) (a : Expr), ∃ tt, PW X (.BoolOp .Or (a :: es) pos) tt
  | [], a => ⟨_, pw_or1 pt_can⟩
  | b :: es, a => by
    obtain ⟨tt, p⟩ := pw_all_or es b
    exact ⟨_, pw_or pt_can p⟩
/-! the same as values, the parts truths -/
theorem ve_and1 (h : Ve X a env ow d) : Ve X (.BoolOp .And [a] pos) env ow d := .mk fun σ F H Q s w k => wpe (pe_one pe_can) (h σ F H Q s w k)
theorem ve_or1 (h : Ve X a env ow d) : Ve X (.BoolOp .Or [a] pos) env ow d := .mk fun σ F H Q s w k => wpe (pe_one pe_can) (h σ F H Q s w k)
theorem ve_and {t u : Bool} (h : Ve X a env ow (.bl t)) (h2 : t = true → Ve X (.BoolOp .And (b :: es) pos) env ow (.bl u)) : Ve X (.BoolOp .And (a :: b :: es) pos) env ow (.bl (t && u)) := .mk fun σ F H Q s w k =>
  wpe (pe_and pe_can pe_can) (h σ F H _ s w fun F1 H1 x e1 w1 r1 => by
    cases r1
    refine ⟨t, rfl, ?_⟩
    cases t with
    | true =>
      rw [if_pos rfl]
      exact h2 rfl σ F1 H1 Q (s.mono e1) w1 (k.ex e1)
    | false =>
      rw [if_neg Bool.false_ne_true]
      exact (k.ex e1).here w1 (.bl false))
theorem ve_or {t u : Bool} (h : Ve X a env ow (.bl t)) (h2 : t = false → Ve X (.BoolOp .Or (b :: es) pos) env ow (.bl u)) : Ve X (.BoolOp .Or (a :: b :: es) pos) env ow (.bl (t || u)) := .mk fun σ F H Q s w k =>
  wpe (pe_or pe_can pe_can) (h σ F H _ s w fun F1 H1 x e1 w1 r1 => by
    cases r1
    refine ⟨t, rfl, ?_⟩
    cases t with
    | false =>
      rw [if_neg Bool.false_ne_true]
      exact h2 rfl σ F1 H1 Q (s.mono e1) w1 (k.ex e1)
    | true =>
      rw [if_pos rfl]
      exact (k.ex e1).here w1 (.bl true))
theorem ve_not {t : Bool} (h : Ve X a env ow (.bl t)) : Ve X (.UnaryOp .Not a pos) env ow (.bl (!t)) := .mk fun σ F H Q s w k =>
  wpe (pe_not pe_can) (h σ F H _ s w fun F1 H1 x e1 w1 r1 => by
    cases r1
    exact ⟨t, rfl, (k.ex e1).here w1 (.bl _)⟩)
end
/-! ### the operations over data -/
section
variable {K : PySem.W.Frag} {ow : Ow}
theorem rd_I {g : Int → Int → V} {f : Int → Int → D} {i j : Int} (h : ∀ F, Rp K F (g i j) (f i j)) : RD K ow (rI0 g) (.int i) (.int j) (f i j) := .mk fun F H x y Q w r1 r2 k => by
  cases r1
  cases r2
  exact ⟨i, j, rfl, rfl, k.here w (h F)⟩
theorem rd_IC {C : Int → Int → Prop} {g : Int → Int → V} {f : Int → Int → D} {i j : Int} (hc : C i j) (h : ∀ F, Rp K F (g i j) (f i j)) : RD K ow (rI C g) (.int i) (.int j) (f i j) := .mk fun F H x y Q w r1 r2 k => by
  cases r1
  cases r2
  exact ⟨i, j, rfl, rfl, hc, k.here w (h F)⟩
theorem rd_add {i j : Int} : RD K ow (rI0 fun i j => .int (i + j)) (.int i) (.int j) (.int (i + j)) := rd_I (f := fun i j => .int (i + j)) fun _ => .int _
theorem rd_sub {i j : Int} : RD K ow (rI0 fun i j => .int (i - j)) (.int i) (.int j) (.int (i - j)) := rd_I (f := fun i j => .int (i - j)) fun _ => .int _
theorem rd_mulL {i j : Int} (h : -(2 ^ 64) < i ∧ i < 2 ^ 64) : RD K ow (rI CMul fun i j => .int (i * j)) (.int i) (.int j) (.int (i * j)) := rd_IC (f := fun i j => .int (i * j)) (.inl h) fun _ => .int _
theorem rd_mulR {i j : Int} (h : -(2 ^ 64) < j ∧ j < 2 ^ 64) : RD K ow (rI CMul fun i j => .int (i * j)) (.int i) (.int j) (.int (i * j)) := rd_IC (f := fun i j => .int (i * j)) (.inr h) fun _ => .int _
theorem rd_div {i j : Int} (h : CDiv i j) : RD K ow (rI CDiv fun i j => .int (i / j)) (.int i) (.int j) (.int (i / j)) := rd_IC (f := fun i j => .int (i / j)) h fun _ => .int _
theorem rd_mod {i j : Int} (h : 0 < j) : RD K ow (rI (fun _ j => 0 < j) fun i j => .int (i % j)) (.int i) (.int j) (.int (i % j)) := rd_IC (f := fun i j => .int (i % j)) h fun _ => .int _
theorem rd_pow {i j : Int} (h : CPow i j) : RD K ow (rI CPow fun i j => .int (i ^ j.toNat)) (.int i) (.int j) (.int (i ^ j.toNat)) := rd_IC (f := fun i j => .int (i ^ j.toNat)) h fun _ => .int _
theorem rd_lt {i j : Int} : RD K ow (rI0 fun i j => .bl (decide (i < j))) (.int i) (.int j) (.bl (decide (i < j))) := rd_I (f := fun i j => .bl (decide (i < j))) fun _ => .bl _
theorem rd_le {i j : Int} : RD K ow (rI0 fun i j => .bl (decide (i ≤ j))) (.int i) (.int j) (.bl (decide (i ≤ j))) := rd_I (f := fun i j => .bl (decide (i ≤ j))) fun _ => .bl _
theorem rd_gt {i j : Int} : RD K ow (rI0 fun i j => .bl (decide (j < i))) (.int i) (.int j) (.bl (decide (j < i))) := rd_I (f := fun i j => .bl (decide (j < i))) fun _ => .bl _
theorem rd_ge {i j : Int} : RD K ow (rI0 fun i j => .bl (decide (j ≤ i))) (.int i) (.int j) (.bl (decide (j ≤ i))) := rd_I (f := fun i j => .bl (decide (j ≤ i))) fun _ => .bl _
theorem rd_eqI {i j : Int} : RD K ow rEq (.int i) (.int j) (.bl (decide (i = j))) := .mk fun F H x y Q w r1 r2 k => by
  cases r1
  cases r2
  exact ⟨rfl, by have z := k.here w (.bl (decide (i = j))); simpa using z⟩
theorem rd_neI {i j : Int} : RD K ow rNe (.int i) (.int j) (.bl (!decide (i = j))) := .mk fun F H x y Q w r1 r2 k => by
  cases r1
  cases r2
  exact ⟨rfl, by have z := k.here w (.bl (!decide (i = j))); simpa using z⟩
theorem rd_eqS {i j : Str} : RD K ow rEq (.str i) (.str j) (.bl (decide (i = j))) := .mk fun F H x y Q w r1 r2 k => by
  cases r1
  cases r2
  exact ⟨rfl, by have z := k.here w (.bl (decide (i = j))); simpa using z⟩
theorem rd_neS {i j : Str} : RD K ow rNe (.str i) (.str j) (.bl (!decide (i = j))) := .mk fun F H x y Q w r1 r2 k => by
  cases r1
  cases r2
  exact ⟨rfl, by have z := k.here w (.bl (!decide (i = j))); simpa using z⟩
theorem rd_cat {l m : List D} (h : l.length + m.length ≤ 100000) : RD K ow rCat (.lst l) (.lst m) (.lst (l ++ m)) := .mk fun F H x y Q w r1 r2 k => by
  cases r1 with
  | lst h1 s1 =>
    cases r2 with
    | lst h2 s2 => exact ⟨_, _, _, _, rfl, rfl, w.ex _ _ h1, w.ex _ _ h2, Evl.sz_of (by rw [s1.length, s2.length]; exact h), fun p hp => k.new w hp (.lst upd_same ((s1.append s2).mono (w.exnew hp)))⟩
def repD (l : List D) : Nat → List D
  | 0 => []
  | n + 1 => l ++ repD l n
end
end Vd
set_option Elab.async false
set_option linter.all false
set_option maxRecDepth 100000
set_option maxHeartbeats 4000000
namespace Vd
open PySem L2
/-! ### what is walked -/
/-- J yields the data ds, one by one, over what F1 freezes -/
def Src (K : PySem.W.Frag) (J : It) (F1 : Hp) (ds : List D) : Prop := ∀ (F H : Hp) (ow : Ow) (i : Nat), Ex F1 F → Wo K ow F H → (ds.length ≤ i → J.stop i H) ∧ ∀ d, ds[i]? = some d → J.go i H ∧ ∀ x H', J.yld i H x H' → ∃ F', Ex F F' ∧ Wo K ow F' H' ∧ Rp K F' x d
structure Vi (X : Cx) (tg it : Expr) (env : List (Option D)) (ow : Ow) (ds : List D) : Prop where
  ex : ∃ wi, PI X tg it wi ∧ ∀ (σ : L2.St) (F H : Hp) (R : It → Hp → Prop), Sl X.K F σ env → Wo X.K ow F H → (∀ J F1 H1, Ex F F1 → Wo X.K ow F1 H1 → Src X.K J F1 ds → R J H1) → wi σ H R
section
variable {X : Cx} {env : List (Option D)} {ow : Ow} {a b c e tg it : Expr} {es : List Expr} {d d1 d2 d3 : D} {ds : List D} {pos : Pos}
theorem src_list {K : PySem.W.Frag} {F1 : Hp} {a : Addr} {xs : List V} (h : F1 a = some (.lst xs)) (r : Rps K F1 xs ds) : Src K (Itl K a) F1 ds := fun F H ow i e w => by
  have hq : SqL K H a xs := SqL.of (w.ex _ _ (e _ _ h))
  refine ⟨fun hl => ⟨xs, hq, by rw [r.length]; exact hl⟩, fun d hd => ?_⟩
  obtain ⟨y, h1, h2⟩ := r.get hd
  refine ⟨⟨xs, y, hq, h1⟩, fun x H' hy => ?_⟩
  obtain ⟨rfl, hy⟩ := hy
  have z := hy xs hq
  rw [h1] at z
  cases z
  exact ⟨F, Evl.Ex.refl F, w, h2.mono e⟩
theorem src_tup {K : PySem.W.Frag} {F1 : Hp} {a : Addr} {xs : List V} (h : SqT K F1 a xs) (r : Rps K F1 xs ds) : Src K (Itt K a) F1 ds := fun F H ow i e w => by
  have hq : SqT K H a xs := Evl.ex_t w.ex (Evl.ex_t e h)
  refine ⟨fun hl => ⟨xs, hq, by rw [r.length]; exact hl⟩, fun d hd => ?_⟩
  obtain ⟨y, h1, h2⟩ := r.get hd
  refine ⟨⟨xs, y, hq, h1⟩, fun x H' hy => ?_⟩
  obtain ⟨rfl, hy⟩ := hy
  have z := hy xs hq
  rw [h1] at z
  cases z
  exact ⟨F, Evl.Ex.refl F, w, h2.mono e⟩
theorem vi_list (h : Ve X it env ow (.lst ds)) : Vi X tg it env ow ds := ⟨_, pi_list pe_can, fun σ F H R s w k => h σ F H _ s w fun F1 H1 v e1 w1 r1 => by
  cases r1 with
  | lst h1 s1 => exact ⟨_, rfl, ⟨_, SqL.of (w1.ex _ _ h1)⟩, k _ F1 H1 e1 w1 (src_list h1 s1)⟩⟩
theorem vi_tup (h : Ve X it env ow (.tup ds)) : Vi X tg it env ow ds := ⟨_, pi_tup pe_can, fun σ F H R s w k => h σ F H _ s w fun F1 H1 v e1 w1 r1 => by
  cases r1 with
  | tup h1 s1 => exact ⟨_, rfl, ⟨_, Evl.ex_t w1.ex h1⟩, k _ F1 H1 e1 w1 (src_tup h1 s1)⟩⟩
def rangeD (lo : Int) (n : Nat) : List D := (List.range n).map fun i => .int (lo + (i : Nat))
theorem rangeD_len (lo : Int) (n : Nat) : (rangeD lo n).length = n := by simp [rangeD]
theorem rangeD_get {lo : Int} {n i : Nat} {d : D} (h : (rangeD lo n)[i]? = some d) : i < n ∧ d = .int (lo + (i : Nat)) := by
  unfold rangeD at h
  rw [List.getElem?_map] at h
  by_cases q : i < n
  · rw [List.getElem?_range q] at h
    cases h
    exact ⟨q, rfl⟩
  · rw [List.getElem?_eq_none (by simpa using q)] at h
    cases h
theorem src_range {K : PySem.W.Frag} {F1 : Hp} {lo : Int} {n : Nat} : Src K (Itr lo n) F1 (rangeD lo n) := fun F H ow i e w => by
  refine ⟨fun hl => by rw [rangeD_len] at hl; exact hl, fun d hd => ?_⟩
  obtain ⟨hi, rfl⟩ := rangeD_get hd
  refine ⟨hi, fun x H' hy => ?_⟩
  obtain ⟨rfl, rfl⟩ := hy
  exact ⟨F, Evl.Ex.refl F, w, .int _⟩
theorem vi_range1 {p : Pos} {n : Int} (hg : Gl X "range") (hm : X.mg "range" = none) (h : Ve X a env ow (.int n)) (hn : -(2 ^ 62) ≤ n ∧ n < 2 ^ 62) (hs : starEach [a] X.env = [(false, eval a X.env)] := by rfl) : Vi X tg (.Call (.Name "range" p) [a] [] pos) env ow (rangeD 0 n.toNat) :=
  ⟨_, pi_range1 hg hm (pa_can) hs, fun σ F H R s w k => va_cons h va_nil hs σ F H _ s w fun F1 H1 vs e1 w1 r1 => by
    cases r1 with
    | cons r2 r3 =>
      cases r2
      cases r3
      exact ⟨n, rfl, hn.1, hn.2, k _ F1 H1 e1 w1 src_range⟩⟩
theorem vi_range2 {p : Pos} {m n : Int} (hg : Gl X "range") (hm : X.mg "range" = none) (h : Ve X a env ow (.int m)) (h2 : Ve X b env ow (.int n)) (hn : -(2 ^ 62) ≤ m ∧ m < 2 ^ 62 ∧ -(2 ^ 62) ≤ n ∧ n < 2 ^ 62) (hs : starEach [a, b] X.env = [(false, eval a X.env), (false, eval b X.env)] := by rfl)
    (hs2 : starEach [b] X.env = [(false, eval b X.env)] := by rfl) : Vi X tg (.Call (.Name "range" p) [a, b] [] pos) env ow (rangeD m (n - m).toNat) :=
  ⟨_, pi_range2 hg hm (pa_can) hs hs2, fun σ F H R s w k => va_cons h (va_cons h2 va_nil hs2) (by rw [hs, hs2]) σ F H _ s w fun F1 H1 vs e1 w1 r1 => by
    cases r1 with
    | cons r2 r3 =>
      cases r2
      cases r3 with
      | cons r4 r5 =>
        cases r4
        cases r5
        exact ⟨m, n, rfl, hn, k _ F1 H1 e1 w1 src_range⟩⟩
def enumD : Nat → List D → List D
  | _, [] => []
  | n, d :: ds => .tup [.int (n : Nat), d] :: enumD (n + 1) ds
theorem enumD_len : ∀ (n : Nat) (ds : List D), (enumD n ds).length = ds.length
  | _, [] => rfl
  | n, d :: ds => by simp [enumD, enumD_len (n + 1) ds]
theorem enumD_get : ∀ {n i : Nat} {ds : List D} {x : D}, (enumD n ds)[i]? = some x → ∃ d, ds[i]? = some d ∧ x = .tup [.int ((n + i : Nat)), d]
  | _, _, [], _, h => by simp [enumD] at h
  | n, 0, d :: ds, x, h => by
    simp [enumD] at h
    exact ⟨d, rfl, by rw [← h]; rfl⟩
  | n, i + 1, d :: ds, x, h => by
    simp only [enumD, List.getElem?_cons_succ] at h
    obtain ⟨y, h1, h2⟩ := enumD_get h
    refine ⟨y, by simpa using h1, ?_⟩
    rw [h2]
    have z : n + 1 + i = n + (i + 1) := by omega
    rw [z]
theorem src_enum {K : PySem.W.Frag} {F1 : Hp} {a : Addr} {xs : List V} (h : F1 a = some (.lst xs)) (r : Rps K F1 xs ds) : Src K (Ite K a) F1 (enumD 0 ds) := fun F H ow i e w => by
  have hq : SqL K H a xs := SqL.of (w.ex _ _ (e _ _ h))
  refine ⟨fun hl => ⟨xs, hq, by rw [enumD_len] at hl; rw [r.length]; exact hl⟩, fun d hd => ?_⟩
  obtain ⟨d', hd', rfl⟩ := enumD_get hd
  obtain ⟨y, h1, h2⟩ := r.get hd'
  refine ⟨⟨xs, y, hq, h1⟩, fun v H' hy => ?_⟩
  obtain ⟨T, x, rfl, hT, rfl, hy⟩ := hy
  have z := hy xs hq
  rw [h1] at z
  cases z
  refine ⟨_, w.exnew hT, w.new hT, .tup (SqT.of upd_same) (.cons ?_ (.cons ((h2.mono e).mono (w.exnew hT)) .nil))⟩
  rw [Nat.zero_add]
  exact .int _
theorem vi_enum {p tpos : Pos} {elts : List Expr} {kk : Nat} (hg : Gl X "enumerate") (hm : X.mg "enumerate" = none) (h : Ve X a env ow (.lst ds)) (hs : starEach [a] X.env = [(false, eval a X.env)] := by rfl) : Vi X (.Tuple elts kk tpos) (.Call (.Name "enumerate" p) [a] [] pos) env ow (enumD 0 ds) :=
  ⟨_, pi_enum hg hm pa_can hs, fun σ F H R s w k => va_cons h va_nil hs σ F H _ s w fun F1 H1 vs e1 w1 r1 => by
    cases r1 with
    | cons r2 r3 =>
      cases r3
      cases r2 with
      | lst h1 s1 => exact ⟨_, _, rfl, SqL.of (w1.ex _ _ h1), k _ F1 H1 e1 w1 (src_enum h1 s1)⟩⟩
end
/-! ### targets -/
def Gd (K : PySem.W.Frag) (ow : Ow) (g : TG) (d : D) (f : List (Option D) → List (Option D)) : Prop := ∀ (env : List (Option D)) (σ : L2.St) (F H : Hp) (x : V) (Q : L2.St → Hp → Prop), Sl K F σ env → Wo K ow F H → Rp K F x d → (∀ σ2, Sl K F σ2 (f env) → Q σ2 H) → g x σ H Q
theorem gd_name {K : PySem.W.Frag} {ow : Ow} {d : D} (i : Nat) : Gd K ow (gName i) d fun env => env.set i (some d) := fun env σ F H x Q s w r k => k _ (s.set r i)
theorem gd_two {K : PySem.W.Frag} {ow : Ow} {d1 d2 : D} (i j : Nat) : Gd K ow (gTup K 2 (gCons (gName i) (gCons (gName j) gNil))) (.tup [d1, d2]) fun env => (env.set i (some d1)).set j (some d2) := fun env σ F H x Q s w r k => by
  cases r with
  | tup h1 s1 =>
    cases s1 with
    | cons r1 s2 =>
      cases s2 with
      | cons r2 s3 =>
        cases s3
        exact ⟨_, _, rfl, Evl.ex_t w.ex h1, rfl, _, _, rfl, _, _, rfl, rfl, k _ ((s.set r1 i).set r2 j)⟩
theorem gd_three {K : PySem.W.Frag} {ow : Ow} {d1 d2 d3 : D} (i j l : Nat) : Gd K ow (gTup K 3 (gCons (gName i) (gCons (gName j) (gCons (gName l) gNil)))) (.tup [d1, d2, d3]) fun env => ((env.set i (some d1)).set j (some d2)).set l (some d3) := fun env σ F H x Q s w r k => by
  cases r with
  | tup h1 s1 =>
    cases s1 with
    | cons r1 s2 =>
      cases s2 with
      | cons r2 s3 =>
        cases s3 with
        | cons r3 s4 =>
          cases s4
          exact ⟨_, _, rfl, Evl.ex_t w.ex h1, rfl, _, _, rfl, _, _, rfl, _, _, rfl, rfl, k _ (((s.set r1 i).set r2 j).set r3 l)⟩
/-! ### blocks -/
section
variable {X : Cx} {B : Hp} {env : List (Option D)} {ow : Ow} {a b c e tg it : Expr} {es : List Expr} {d d1 d2 d3 : D} {ds : List D} {pos : Pos} {Dn : Ends} {rest s1 s2 : List Stmt}
theorem rn_base {B' : Hp} (e : Ex B B') (h : Rn X B rest Dn env ow) : Rn X B' rest Dn env ow := .mk fun σ F H eB s w => h σ F H (e.trans eB) s w
/-- the end of an inner block -/
theorem rn_end (h : ∀ (σ : L2.St) (F H : Hp), Ex B F → Sl X.K F σ env → Wo X.K ow F H → Dn.nx σ H) : Rn X B [] Dn env ow := .mk fun σ F H eB s w => wps pss_nil (h σ F H eB s w)
def Then (X : Cx) (rest : List Stmt) (Dn : Ends) : Ends := { Dn with nx := WpS X rest Dn }
theorem rn_go (h : Rn X B rest Dn env ow) : Rn X B [] (Then X rest Dn) env ow := rn_end fun σ F H eB s w => h σ F H eB s w
theorem rn_one {st : Stmt} (p : ∃ t, PS X st t ∧ ∀ (σ : L2.St) (F H : Hp), Ex B F → Sl X.K F σ env → Wo X.K ow F H → t { Dn with nx := WpS X rest Dn } σ H) : Rn X B (st :: rest) Dn env ow := .mk fun σ F H eB s w => by
  obtain ⟨t, h, q⟩ := p
  exact wps (pss_cons h pss_can) (q σ F H eB s w)
theorem rn_set {x : Str} {p : Pos} {i : Nat} (hN : X.N.Nodup) (hi : X.N[i]? = some x) (hx : Loc X.env.scope x) (h : Ve X e env ow d) (k : ∀ B', Ex B B' → Rn X B' rest Dn (env.set i (some d)) ow) (hs : swapsWith e (some (.Name x p)) pos.line X.env = pure false := by rfl) (hf : X.fn x = true ∨ X.env.scope.names.lookup x = some .local := by first | exact .inl rfl | exact .inr rfl | assumption) :
    Rn X B (.Assign [.Name x p] e pos :: rest) Dn env ow := rn_one ⟨_, ps_set hN hi hx pe_can hs hf, fun σ F H eB s w => h σ F H _ s w fun F1 H1 v e1 w1 r1 => k F1 (eB.trans e1) _ F1 H1 (Evl.Ex.refl F1) ((s.mono e1).set r1 i) w1⟩
/-- the assignment of what changes the owned -/
theorem rn_setM {x : Str} {p : Pos} {i : Nat} {P : D → Ow → Prop} (hN : X.N.Nodup) (hi : X.N[i]? = some x) (hx : Loc X.env.scope x) (h : Vm X e env ow P) (k : ∀ B' d ow2, Ex B B' → P d ow2 → Rn X B' rest Dn (env.set i (some d)) ow2) (hs : swapsWith e (some (.Name x p)) pos.line X.env = pure false := by rfl) (hf : X.fn x = true ∨ X.env.scope.names.lookup x = some .local := by first | exact .inl rfl | exact .inr rfl | assumption) :
    Rn X B (.Assign [.Name x p] e pos :: rest) Dn env ow := rn_one ⟨_, ps_set hN hi hx pe_can hs hf, fun σ F H eB s w => h σ F H _ s w fun F1 H1 v d ow2 e1 w1 r1 hp => k F1 d ow2 (eB.trans e1) hp _ F1 H1 (Evl.Ex.refl F1) ((s.mono e1).set r1 i) w1⟩
/-- any other target -/
theorem rn_asg {g : TG} {f : List (Option D) → List (Option D)} (hg : PG X tg g) (h : Ve X e env ow d) (hgd : Gd X.K ow g d f) (k : ∀ B', Ex B B' → Rn X B' rest Dn (f env) ow) (hs : swapsWithSole [tg] e pos.line X.env = pure false := by rfl) (hw : swappedStores [tg] e X.env = pure none := by rfl)
    (h1 : (assignEach [tg] X.env).map (·.2) = [assign tg X.env] := by rfl) : Rn X B (.Assign [tg] e pos :: rest) Dn env ow := rn_one ⟨_, ps_asg pe_can hg hs hw h1, fun σ F H eB s w => h σ F H _ s w fun F1 H1 v e1 w1 r1 => hgd env σ F1 H1 v _ (s.mono e1) w1 r1 fun σ2 s2 => k F1 (eB.trans e1) _ F1 H1 (Evl.Ex.refl F1) s2 w1⟩
/-- a, b = x, y -/
theorem rn_par {x y : Str} {px py p1 p2 : Pos} {k1 k2 i j : Nat} (hc : X.calm = true) (hN : X.N.Nodup) (hi : X.N[i]? = some x) (hj : X.N[j]? = some y) (hij : i ≠ j) (hx : X.env.scope.names.lookup x = some .local) (hy : X.env.scope.names.lookup y = some .local)
    (h1 : Ve X a env ow d1) (h2 : Ve X b env ow d2) (k : ∀ B', Ex B B' → Rn X B' rest Dn ((env.set i (some d1)).set j (some d2)) ow)
    (hw : swappedStores [.Tuple [.Name x px, .Name y py] k1 p1] (.Tuple [a, b] k2 p2) X.env = pure (some [x, y])) (hst : starEach [a, b] X.env = [(false, eval a X.env), (false, eval b X.env)] := by rfl) (hst2 : starEach [b] X.env = [(false, eval b X.env)] := by rfl) (hps : ∃ t, PS X (.Assign [.Tuple [.Name x px, .Name y py] k1 p1] (.Tuple [a, b] k2 p2) pos) (tPar i j t) ∧ t = WpA X [a, b]) :
    Rn X B (.Assign [.Tuple [.Name x px, .Name y py] k1 p1] (.Tuple [a, b] k2 p2) pos :: rest) Dn env ow := rn_one (by
  obtain ⟨t, hp, rfl⟩ := hps
  refine ⟨_, hp, fun σ F H eB s w => va_cons h1 (va_cons h2 va_nil hst2) (by rw [hst, hst2]) σ F H _ s w fun F1 H1 vs e1 w1 r1 => ?_⟩
  cases r1 with
  | cons r2 r3 =>
    cases r3 with
    | cons r4 r5 =>
      cases r5
      exact ⟨_, _, rfl, k F1 (eB.trans e1) _ F1 H1 (Evl.Ex.refl F1) (((s.mono e1).set r2 i).set r4 j) w1⟩)
theorem rn_expr (h : Ve X e env ow d) (k : ∀ B', Ex B B' → Rn X B' rest Dn env ow) (hs : swapsWith e none pos.line X.env = pure false := by rfl) : Rn X B (.Expr e pos :: rest) Dn env ow := rn_one ⟨_, ps_expr pe_can hs, fun σ F H eB s w => h σ F H _ s w fun F1 H1 v e1 w1 r1 => k F1 (eB.trans e1) _ F1 H1 (Evl.Ex.refl F1) (s.mono e1) w1⟩
theorem rn_exprM {P : D → Ow → Prop} (h : Vm X e env ow P) (k : ∀ B' d ow2, Ex B B' → P d ow2 → Rn X B' rest Dn env ow2) (hs : swapsWith e none pos.line X.env = pure false := by rfl) : Rn X B (.Expr e pos :: rest) Dn env ow := rn_one ⟨_, ps_expr pe_can hs, fun σ F H eB s w => h σ F H _ s w fun F1 H1 v d ow2 e1 w1 r1 hp => k F1 d ow2 (eB.trans e1) hp _ F1 H1 (Evl.Ex.refl F1) (s.mono e1) w1⟩
theorem rn_ret (h : Ve X e env ow d) (k : Post X.K ow B d Dn.rt) : Rn X B (.Return (some e) pos :: rest) Dn env ow := rn_one ⟨_, ps_ret pe_can, fun σ F H eB s w => h σ F H _ s w (k.ex eB)⟩
theorem rn_retM {P : D → Ow → Prop} (h : Vm X e env ow P) (k : ∀ d ow2, P d ow2 → Post X.K ow2 B d Dn.rt) : Rn X B (.Return (some e) pos :: rest) Dn env ow := rn_one ⟨_, ps_ret pe_can, fun σ F H eB s w => h σ F H _ s w fun F1 H1 v d ow2 e1 w1 r1 hp => k d ow2 hp F1 H1 v (eB.trans e1) w1 r1⟩
theorem rn_if {t : Bool} (h : Vt X c env ow t) (h1 : t = true → ∀ B', Ex B B' → Rn X B' s1 (Then X rest Dn) env ow) (h2 : t = false → ∀ B', Ex B B' → Rn X B' s2 (Then X rest Dn) env ow) : Rn X B (.If c s1 s2 pos :: rest) Dn env ow := rn_one ⟨_, ps_if pt_can pss_can pss_can, fun σ F H eB s w => h σ F H _ s w fun F1 H1 e1 w1 => by
  cases t with
  | true =>
    rw [if_pos rfl]
    exact h1 rfl F1 (eB.trans e1) σ F1 H1 (Evl.Ex.refl F1) (s.mono e1) w1
  | false =>
    rw [if_neg Bool.false_ne_true]
    exact h2 rfl F1 (eB.trans e1) σ F1 H1 (Evl.Ex.refl F1) (s.mono e1) w1⟩
/-- behind a turn -/
def Nx (K : PySem.W.Frag) (B : Hp) (I : List (Option D) → Ow → Prop) : L2.St → Hp → Prop := fun σ H => ∃ F env ow, Ex B F ∧ Sl K F σ env ∧ Wo K ow F H ∧ I env ow
def Turn (X : Cx) (B : Hp) (rest : List Stmt) (Dn : Ends) (I : List (Option D) → Ow → Prop) : Ends := { nx := Nx X.K B I, ct := Nx X.K B I, bk := WpS X rest Dn, rt := Dn.rt }
theorem rn_next {I : List (Option D) → Ow → Prop} (h : I env ow) (e : Ex B B) : Rn X B [] (Turn X B rest Dn I) env ow := rn_end fun σ F H eB s w => ⟨F, env, ow, eB, s, w, h⟩
theorem rn_for {g : TG} {f : D → List (Option D) → List (Option D)} {body : List Stmt} (I : Nat → List (Option D) → Ow → Prop) (hp : PassesOwn (model X.prog X.w) X.A X.env X.xe) (hc : X.calm = true) (hi : Vi X tg it env ow ds) (hg : PG X tg g) (hgd : ∀ ow d, d ∈ ds → Gd X.K ow g d (f d)) (h0 : I 0 env ow)
    (hs : ∀ B' i d env' ow', Ex B B' → ds[i]? = some d → I i env' ow' → Rn X B' body (Turn X B' rest Dn (I (i + 1))) (f d env') ow') (hd : ∀ B' env' ow', Ex B B' → I ds.length env' ow' → Rn X B' rest Dn env' ow')
    (hfs : ∀ x, foldedSetIterable it X.env x = pure x := by intro _; rfl) : Rn X B (.For tg it body [] pos :: rest) Dn env ow := rn_one (by
  obtain ⟨wi, pi, hw⟩ := hi
  refine ⟨_, ps_for hp hc pi hg pss_can hfs, fun σ F H eB s w => hw σ F H _ s w fun J F1 H1 e1 w1 src => ?_⟩
  refine ⟨fun i m σ H => m = ds.length - i ∧ i ≤ ds.length ∧ Nx X.K F1 (I i) σ H, ⟨ds.length, by simp, Nat.zero_le _, F1, env, ow, Evl.Ex.refl F1, s.mono e1, w1, h0⟩, ?_⟩
  rintro i m σ' H' ⟨rfl, hi, F', env', ow', eF, s', w', hI⟩
  obtain ⟨stop, go⟩ := src F' H' ow' i eF w'
  by_cases hlt : i < ds.length
  · obtain ⟨hgo, hy⟩ := go ds[i] (by simp [hlt])
    refine .inr ⟨hgo, Nx X.K F1 (I (i + 1)), fun σ2 H2 q => ⟨ds.length - (i + 1), by omega, rfl, hlt, q⟩, fun x H2 hx => ?_⟩
    obtain ⟨F2, e2, w2, r2⟩ := hy x H2 hx
    refine hgd ow' ds[i] (List.getElem_mem hlt) env' σ' F2 H2 x _ (s'.mono e2) w2 r2 fun σ2 s2 => ?_
    exact hs F1 i ds[i] env' ow' (eB.trans e1) (by simp [hlt]) hI σ2 F2 H2 (eF.trans e2) s2 w2
  · have e : i = ds.length := by omega
    subst e
    exact .inl ⟨stop (Nat.le_refl _), hd F1 env' ow' (eB.trans e1) hI σ' F' H' eF s' w'⟩)
theorem rn_while {body : List Stmt} (I : Nat → List (Option D) → Ow → Prop) (hp : PassesOwn (model X.prog X.w) X.A X.env X.xe) (h0 : ∃ m, I m env ow)
    (hs : ∀ B' m env' ow', Ex B B' → I m env' ow' → ∃ t, Vt X c env' ow' t ∧ (t = true → ∀ B2, Ex B' B2 → Rn X B2 body (Turn X B' rest Dn fun env2 ow2 => ∃ m2, m2 < m ∧ I m2 env2 ow2) env' ow') ∧ (t = false → ∀ B2, Ex B' B2 → Rn X B2 rest Dn env' ow')) : Rn X B (.While c body [] pos :: rest) Dn env ow := rn_one (by
  refine ⟨_, ps_while hp pt_can pss_can, fun σ F H eB s w => ?_⟩
  obtain ⟨m0, h0⟩ := h0
  refine ⟨fun m σ H => Nx X.K F (I m) σ H, ⟨m0, F, env, ow, Evl.Ex.refl F, s, w, h0⟩, ?_⟩
  rintro m σ' H' ⟨F', env', ow', eF, s', w', hI⟩
  obtain ⟨t, ht, y1, y2⟩ := hs F m env' ow' eB hI
  refine ht σ' F' H' _ s' w' fun F2 H2 e2 w2 => ?_
  cases t with
  | true =>
    rw [if_pos rfl]
    refine ⟨Nx X.K F fun env2 ow2 => ∃ m2, m2 < m ∧ I m2 env2 ow2, fun σ2 H3 ⟨F3, env3, ow3, a1, a2, a3, m2, a4, a5⟩ => ⟨m2, a4, F3, env3, ow3, a1, a2, a3, a5⟩, ?_⟩
    exact y1 rfl F2 (eF.trans e2) σ' F2 H2 (Evl.Ex.refl F2) (s'.mono e2) w2
  | false =>
    rw [if_neg Bool.false_ne_true]
    exact y2 rfl F2 (eF.trans e2) σ' F2 H2 (Evl.Ex.refl F2) (s'.mono e2) w2)
/-- behind a turn of a while, whose base is an elder one -/
theorem rn_nextW {B2 : Hp} {I : List (Option D) → Ow → Prop} (h : I env ow) (e : Ex B B2) : Rn X B2 [] (Turn X B rest Dn I) env ow := rn_end fun σ F H eB s w => ⟨F, env, ow, e.trans eB, s, w, h⟩
end
end Vd
set_option Elab.async false
set_option linter.all false
set_option maxRecDepth 100000
set_option maxHeartbeats 4000000
namespace Vd
open PySem L2
section
variable {K : PySem.W.Frag} {ow : Ow} {F : Hp}
theorem Rps.atI {v : List V} {d : List D} {i : Int} {x : D} (r : Rps K F v d) (h : L2.atI d i = some x) : ∃ y, L2.atI v i = some y ∧ Rp K F y x := by
  unfold L2.atI at h ⊢
  rw [r.length]
  cases q : ixN d.length i with
  | none =>
    rw [q] at h
    cases h
  | some j =>
    rw [q] at h
    exact r.get h
theorem rd_ixL {l : List D} {i : Int} {d : D} (h : L2.atI l i = some d) : RD K ow (rIxL K) (.lst l) (.int i) d := .mk fun F H x y Q w r1 r2 k => by
  cases r2
  cases r1 with
  | lst h1 s1 =>
    obtain ⟨v, hv, rv⟩ := s1.atI h
    exact ⟨_, _, _, v, rfl, rfl, SqL.of (w.ex _ _ h1), hv, k.here w rv⟩
theorem rd_ixT {l : List D} {i : Int} {d : D} (h : L2.atI l i = some d) : RD K ow (rIxT K) (.tup l) (.int i) d := .mk fun F H x y Q w r1 r2 k => by
  cases r2
  cases r1 with
  | tup h1 s1 =>
    obtain ⟨v, hv, rv⟩ := s1.atI h
    exact ⟨_, _, _, v, rfl, rfl, Evl.ex_t w.ex h1, hv, k.here w rv⟩
theorem rd_ixS {z : Str} {i : Int} {c : Nat} (hl : z.length ≤ 100000) (h : L2.atI z.cps.toList i = some c) : RD K ow rIxS (.str z) (.int i) (.str ⟨#[c]⟩) := .mk fun F H x y Q w r1 r2 k => by
  cases r1
  cases r2
  exact ⟨_, _, c, rfl, rfl, Evl.sz_of hl, h, k.here w (.str _)⟩
/-- an owned list read -/
theorem rd_ixO {p : Addr} {l : List D} {i : Int} {d : D} (hp : ow p = some (.lst l)) (h : L2.atI l i = some d) : RD K ow (rIxL K) (.ob (.ref p)) (.int i) d := .mk fun F H x y Q w r1 r2 k => by
  cases r1
  cases r2
  obtain ⟨_, xs, h1, s1⟩ := w.own p _ hp
  obtain ⟨v, hv, rv⟩ := s1.atI h
  exact ⟨_, _, _, v, rfl, rfl, SqL.of h1, hv, k.here w rv⟩
theorem rc_lenL {l : List D} : RC K ow (fun xs H Q => ∃ p ys, xs = [.ref p] ∧ (SqL K H p ys ∨ SqT K H p ys) ∧ Q (.int ys.length) H) [.lst l] (.int (l.length : Nat)) := .mk fun F H xs Q w r k => by
  cases r with
  | cons r1 r2 =>
    cases r2
    cases r1 with
    | lst h1 s1 => exact ⟨_, _, rfl, .inl (SqL.of (w.ex _ _ h1)), by rw [s1.length]; exact k.here w (.int _)⟩
theorem rc_lenT {l : List D} : RC K ow (fun xs H Q => ∃ p ys, xs = [.ref p] ∧ (SqL K H p ys ∨ SqT K H p ys) ∧ Q (.int ys.length) H) [.tup l] (.int (l.length : Nat)) := .mk fun F H xs Q w r k => by
  cases r with
  | cons r1 r2 =>
    cases r2
    cases r1 with
    | tup h1 s1 => exact ⟨_, _, rfl, .inr (Evl.ex_t w.ex h1), by rw [s1.length]; exact k.here w (.int _)⟩
theorem rc_lenO {p : Addr} {l : List D} (hp : ow p = some (.lst l)) : RC K ow (fun xs H Q => ∃ p ys, xs = [.ref p] ∧ (SqL K H p ys ∨ SqT K H p ys) ∧ Q (.int ys.length) H) [.ob (.ref p)] (.int (l.length : Nat)) := .mk fun F H xs Q w r k => by
  cases r with
  | cons r1 r2 =>
    cases r2
    cases r1
    obtain ⟨_, ys, h1, s1⟩ := w.own p _ hp
    exact ⟨_, _, rfl, .inl (SqL.of h1), by rw [s1.length]; exact k.here w (.int _)⟩
theorem rc_int1 {i : Int} : RC K ow (fun xs H Q => (∃ i, xs = [.int i] ∧ Q (.int i) H) ∨ ∃ k, xs = [.bl k] ∧ Q (.int (if k then 1 else 0)) H) [.int i] (.int i) := .mk fun F H xs Q w r k => by
  cases r with
  | cons r1 r2 =>
    cases r2
    cases r1
    exact .inl ⟨i, rfl, k.here w (.int _)⟩
theorem rc_abs {i : Int} : RC K ow (fun xs H Q => ∃ i, xs = [.int i] ∧ Q (.int (if i < 0 then -i else i)) H) [.int i] (.int (if i < 0 then -i else i)) := .mk fun F H xs Q w r k => by
  cases r with
  | cons r1 r2 =>
    cases r2
    cases r1
    exact ⟨i, rfl, k.here w (.int _)⟩
theorem rc_max {i j : Int} : RC K ow (fun xs H Q => ∃ i j, xs = [.int i, .int j] ∧ Q (.int (if j > i then j else i)) H) [.int i, .int j] (.int (if j > i then j else i)) := .mk fun F H xs Q w r k => by
  cases r with
  | cons r1 r2 =>
    cases r1
    cases r2 with
    | cons r3 r4 =>
      cases r4
      cases r3
      exact ⟨i, j, rfl, k.here w (.int _)⟩
theorem rc_min {i j : Int} : RC K ow (fun xs H Q => ∃ i j, xs = [.int i, .int j] ∧ Q (.int (if j < i then j else i)) H) [.int i, .int j] (.int (if j < i then j else i)) := .mk fun F H xs Q w r k => by
  cases r with
  | cons r1 r2 =>
    cases r1
    cases r2 with
    | cons r3 r4 =>
      cases r4
      cases r3
      exact ⟨i, j, rfl, k.here w (.int _)⟩
theorem rc_divmod {i j : Int} (h : CDiv i j) : RC K ow (fun xs H Q => ∃ i j, xs = [.int i, .int j] ∧ CDiv i j ∧ ∀ p, H p = none → Q (.ref p) (upd H p (.tup [.int (i / j), .int (i % j)]))) [.int i, .int j] (.tup [.int (i / j), .int (i % j)]) := .mk fun F H xs Q w r k => by
  cases r with
  | cons r1 r2 =>
    cases r1
    cases r2 with
    | cons r3 r4 =>
      cases r4
      cases r3
      exact ⟨i, j, rfl, h, fun p hp => k.new w hp (.tup (SqT.of upd_same) (.cons (.int _) (.cons (.int _) .nil)))⟩
theorem rc_all {l : List Bool} : RC K ow (rAll K) [.lst (l.map D.bl)] (.bl (l.all id)) := .mk fun F H xs Q w r k => by
  cases r with
  | cons r1 r2 =>
    cases r2
    cases r1 with
    | lst h1 s1 => exact ⟨_, l, rfl, by rw [← s1.bls]; exact SqL.of (w.ex _ _ h1), k.here w (.bl _)⟩
theorem rc_any {l : List Bool} : RC K ow (rAny K) [.lst (l.map D.bl)] (.bl (l.any id)) := .mk fun F H xs Q w r k => by
  cases r with
  | cons r1 r2 =>
    cases r2
    cases r1 with
    | lst h1 s1 => exact ⟨_, l, rfl, by rw [← s1.bls]; exact SqL.of (w.ex _ _ h1), k.here w (.bl _)⟩
end
/-! ### calls of defs: as the layer's promise, with no text of a container under way -/
open PySem.Spec PyProof.Rows
/-- a wish for the texts of containers under way; the common one: none is -/
abbrev Gds := Option (List Code) → Prop
abbrev gd0 : Gds := fun g => g = some []
structure FnG (γ : Gds) (P : Program) (w : World) (K : PySem.W.Frag) (mg : Str → Option Value) (base : Heap) (CX : CXT) (k : Nat) (f : Addr) (fd : FuncData) (ps : List Str) (sp : Sp) : Prop where
  len : ∀ vs H Q E, sp vs H Q E → vs.length = ps.length
  run : ∀ (A : Around) (outer : List Env) (s : Shared) (H : Hp) (args : Args) (us : List Value) (vs : List V) (Q : VK) (E : XK), γ A.guards → Room k A → Env0 P w K mg base A outer s H → BindsTo s fd args (ps.zip us) → Vals vs us → sp vs H Q E →
    codeAny (model P w) A (.call (.ref f) args) (CR CX outer P w H s Q E) s
theorem FnG.of {P : Program} {w : World} {K : PySem.W.Frag} {mg : Str → Option Value} {base : Heap} {CX : CXT} {k : Nat} {f : Addr} {fd : FuncData} {ps : List Str} {sp : Sp} (h : FnOk P w K mg base CX k f fd ps sp) : FnG γ P w K mg base CX k f fd ps sp :=
  ⟨h.len, fun A outer s H args us vs Q E _ => h.run A outer s H args us vs Q E⟩
theorem FnG.mono {P : Program} {w : World} {K : PySem.W.Frag} {mg : Str → Option Value} {base : Heap} {CX : CXT} {j k : Nat} {f : Addr} {fd : FuncData} {ps : List Str} {sp : Sp} (h : FnG γ P w K mg base CX j f fd ps sp) (l : j ≤ k) : FnG γ P w K mg base CX k f fd ps sp :=
  ⟨h.len, fun A outer s H args us vs Q E hg hr => h.run A outer s H args us vs Q E hg (hr.mono l)⟩
/-- a def of the text by its body -/
theorem fnG_of {CX : CXT} {P : Program} {w : World} {K : PySem.W.Frag} {mg : Str → Option Value} {base : Heap} {k : Nat} {f : Addr} {x qual : Str} {st : Stmt} {fd : FuncData} {N ps : List Str} {sp : Sp} (Fn : Fun K x qual st f fd) (S : FnScope N ps (defScope st)) (len : ∀ vs H Q E, sp vs H Q E → vs.length = ps.length)
    (hbody : ∀ (cdv : Value) (A : Around) (outer : List Env) (s : Shared) (H : Hp) (vs : List V) (Q : VK) (E : XK), γ A.guards → Room k (A.deeper (envOfC qual (defScope st) s.heap.objs.size f cdv)) → sp vs H Q E →
      ∃ t, PSs (cxOf CX P w K mg base N qual (defScope st) f cdv A outer s H E) (defBody st) t ∧ t { nx := fun _ H' => Q .non H', rt := Q } (start N vs) H) : FnG γ P w K mg base CX (k + 1) f fd ps sp := by
  obtain ⟨oc, od, kV, doc, pm, an, cdv, ct, osl, rfl, lk, hcd⟩ := Fn.ex
  refine ⟨len, fun A outer s H args us vs Q E hgd hr e0 hb r hsp => ?_⟩
  have inK : K.In s.heap := e0.mod.kin.keeps fun b o e => (e0.bs b o e).1
  have lim : s.heap.NoLimit := e0.mod.nolimit.keeps fun b o e => (e0.bs b o e).1
  have kinds : ∀ y ∈ ps.zip us, (defScope st).names.lookup y.1 = some .local ∨ ((defScope st).names.lookup y.1 = some .cell ∧ ((cellsFrom (s.heap.objs.size + 1) (defScope st).names []).lookup y.1).isSome = true) := fun ⟨n, v⟩ hy => by
    rcases S.par n (List.of_mem_zip hy).1 with q | q
    · exact .inl q
    · refine .inr ⟨q, ?_⟩
      exact PySem.W.cellsFrom_some _ _ _ (.inl q)
  refine codeAny_call_function hr.depth (inK _ _ lk) rfl S.co S.gen rfl (PySem.W.codeRec_of inK hcd) (hb _ _ _ _ ?_)
  refine wpAny_newFunctionEnv_cells S.kind kinds fun env he s1 z => ?_
  subst he
  refine ⟨lim.keeps z.toInCall.keep, codeAny_func ?_⟩
  obtain ⟨t, ht, hq⟩ := hbody cdv A outer s H vs Q E hgd (hr.deeper _) hsp
  have I : Inv (cxOf CX P w K mg base N qual (defScope st) f cdv A outer s H E) [] (start N vs) H s1 := inv_start S hr.hd e0 (len _ _ _ _ hsp) r z
  refine wpAny_mono (ht.run [] s1 (start N vs) H _ I hq) (fun fl s' hs => ?_) fun e s' hs => hs
  cases fl with
  | ret u =>
    obtain ⟨v, σ', H', J, rv, q⟩ := hs
    exact ⟨v, H', J.os, J.bare, J.base, J.hok, rv, q⟩
  | next =>
    obtain ⟨σ', H', J, q⟩ := hs
    exact ⟨.non, H', J.os, J.bare, J.base, J.hok, rfl, q⟩
  | brk =>
    obtain ⟨_, _, _, q⟩ := hs
    exact q.elim
  | cont =>
    obtain ⟨_, _, _, q⟩ := hs
    exact q.elim
section
variable {X : Cx} {B : Hp} {env : List (Option D)} {ow : Ow} {a b c e o i tg it elt : Expr} {es : List Expr} {d d1 d2 d3 : D} {ds : List D} {pos : Pos} {Dn : Ends} {rest : List Stmt}
variable {CX : CXT} {k : Nat} {f : Addr} {fd : FuncData} {ps : List Str} {sp : Sp} {dvs : List V} {dv : List Value} {E : XK} {x : Str} {p : Pos}
theorem run_fnG {pins : List (Addr × Obj)} {σ : L2.St} {H : Hp} {s : Shared} {Q : VK} {us : List Value} {vs : List V} (Fn : FnG γ X.prog X.w X.K X.mg X.base CX k f fd ps sp) (hgd : γ X.A.guards) (hr : Room k X.A) (hb : Binds X.K fd ps dv) (hd : Vals dvs dv) (hx : Passes CX X E)
    (I : Inv X pins σ H s) (r : Vals vs us) (h : sp (vs ++ dvs) H Q E) : wpAny (model X.prog X.w) X.A (call (.ref f) us) (EP X pins σ Q) X.xe s := by
  have r2 : Vals (vs ++ dvs) (us ++ dv) := r.append hd
  have hl : (us ++ dv).length = ps.length := r2.length.symm.trans (Fn.len _ _ _ _ h)
  refine wpAny_call (codeAny_mono (Fn.run X.A X.stack s H ⟨us, []⟩ (us ++ dv) (vs ++ dvs) Q E hgd hr I.env0 (hb s us I.kIn hl) r2 h) fun r s' hq => ?_)
  match r, hq with
  | .error e, hq => exact hx pins σ H s e s' I hq
  | .ok (.ret u), hq => exact I.after hq
theorem pe_callG {es0 : List Expr} {t : TA} (Fn : FnG γ X.prog X.w X.K X.mg X.base CX k f fd ps sp) (hgd : γ X.A.guards) (hr : Room k X.A) (hg : Gl X x) (hm : X.mg x = some (.ref f)) (hk : PySem.W.keepIn X.K (.ref f) = true) (hb : Binds X.K fd ps dv) (hd : Vals dvs dv) (hx : Passes CX X E)
    (ha : PA X (e :: es0) t) (hdb : (x == ("__debug__" : Str)) = false := by decide) (he : starEach (e :: es0) X.env = (false, eval e X.env) :: starEach es0 X.env := by rfl) (hpl : (backTo pos (starEach es0 X.env)).any (·.1) = false := by rfl) :
    PE X (.Call (.Name x p) (e :: es0) [] pos) (tCall sp dvs E t) := by
  refine ⟨fun pins s σ H Q I h => ?_⟩
  refine wpAny_Call_Name_kw (ld_glob I hg hm ?_ hdb)
  refine PySem.W.callWith_K (h₀ := X.base) I.ok.mod.kin hk ?_ he hpl
  refine thn (ha.run pos pins s σ H _ I h) fun us s1 ⟨vs, H1, I1, r, q⟩ => ⟨I1.kIn, ?_⟩
  exact run_fnG Fn hgd hr hb hd hx I1 r q
theorem ve_call (Fn : FnG γ X.prog X.w X.K X.mg X.base CX k f fd ps sp) (hgd : γ X.A.guards) (hr : Room k X.A) (hg : Gl X x) (hm : X.mg x = some (.ref f)) (hk : PySem.W.keepIn X.K (.ref f) = true) (hb : Binds X.K fd ps dv) (hd : Vals dvs dv) (hx : Passes CX X E) (ha : Va X (e :: es) env ow ds)
    (hs : ∀ F H vs Q, Wo X.K ow F H → Rps X.K F vs ds → Post X.K ow F d Q → sp (vs ++ dvs) H Q E) (hdb : (x == ("__debug__" : Str)) = false := by decide) (he : starEach (e :: es) X.env = (false, eval e X.env) :: starEach es X.env := by rfl) (hpl : (backTo pos (starEach es X.env)).any (·.1) = false := by rfl) :
    Ve X (.Call (.Name x p) (e :: es) [] pos) env ow d := .mk fun σ F H Q s w k0 => wpe (pe_callG Fn hgd hr hg hm hk hb hd hx pa_can hdb he hpl) (ha σ F H _ s w fun F1 H1 vs e1 w1 r1 => hs F1 H1 vs Q w1 r1 (k0.ex e1))
theorem vm_call {P : D → Ow → Prop} (Fn : FnG γ X.prog X.w X.K X.mg X.base CX k f fd ps sp) (hgd : γ X.A.guards) (hr : Room k X.A) (hg : Gl X x) (hm : X.mg x = some (.ref f)) (hk : PySem.W.keepIn X.K (.ref f) = true) (hb : Binds X.K fd ps dv) (hd : Vals dvs dv) (hx : Passes CX X E) (ha : Va X (e :: es) env ow ds)
    (hs : ∀ F H vs Q, Wo X.K ow F H → Rps X.K F vs ds → (∀ F2 H2 v d ow2, Ex F F2 → Wo X.K ow2 F2 H2 → Rp X.K F2 v d → P d ow2 → Q v H2) → sp (vs ++ dvs) H Q E) (hdb : (x == ("__debug__" : Str)) = false := by decide) (he : starEach (e :: es) X.env = (false, eval e X.env) :: starEach es X.env := by rfl) (hpl : (backTo pos (starEach es X.env)).any (·.1) = false := by rfl) :
    Vm X (.Call (.Name x p) (e :: es) [] pos) env ow P := .mk fun σ F H Q s w k0 => wpe (pe_callG Fn hgd hr hg hm hk hb hd hx pa_can hdb he hpl) (ha σ F H _ s w fun F1 H1 vs e1 w1 r1 => hs F1 H1 vs Q w1 r1 fun F2 H2 v d ow2 e2 w2 r2 hp => k0 F2 H2 v d ow2 (e1.trans e2) w2 r2 hp)
theorem vm_of {P : D → Ow → Prop} (h : Ve X e env ow d) (hp : P d ow) : Vm X e env ow P := .mk fun σ F H Q s w k0 => h σ F H Q s w fun F2 H2 v e2 w2 r2 => k0 F2 H2 v d ow e2 w2 r2 hp
theorem Vm.imp {P P' : D → Ow → Prop} (h : Vm X e env ow P) (q : ∀ d ow2, P d ow2 → P' d ow2) : Vm X e env ow P' := .mk fun σ F H Q s w k0 => h σ F H Q s w fun F2 H2 v d ow2 e2 w2 r2 hp => k0 F2 H2 v d ow2 e2 w2 r2 (q d ow2 hp)
/-- an operation whose first part changes what is owned -/
theorem vm_op1 {P P' : D → Ow → Prop} {op : Operator} {r : R2} (ho : OpR X (binaryOp op) r) (ha : Vm X a env ow P) (h : ∀ d1 ow2, P d1 ow2 → ∃ d2 d, Ve X b env ow2 d2 ∧ RD X.K ow2 r d1 d2 d ∧ P' d ow2) : Vm X (.BinOp a op b pos) env ow P' := .mk fun σ F H Q s w k0 =>
  wpe (pe_op ho pe_can pe_can) (ha σ F H _ s w fun F1 H1 x d1 ow2 e1 w1 r1 hp => by
    obtain ⟨d2, d, hb, hr, hp'⟩ := h d1 ow2 hp
    exact hb σ F1 H1 _ (s.mono e1) w1 fun F2 H2 y e2 w2 r2 => hr F2 H2 x y Q w2 (r1.mono e2) r2 fun F3 H3 v e3 w3 r3 => k0 F3 H3 v d ow2 ((e1.trans e2).trans e3) w3 r3 hp')
theorem vm_op2 {P P' : D → Ow → Prop} {op : Operator} {r : R2} (ho : OpR X (binaryOp op) r) (ha : Ve X a env ow d1) (hb : Vm X b env ow P) (h : ∀ d2 ow2, P d2 ow2 → ∃ d, RD X.K ow2 r d1 d2 d ∧ P' d ow2) : Vm X (.BinOp a op b pos) env ow P' := .mk fun σ F H Q s w k0 =>
  wpe (pe_op ho pe_can pe_can) (ha σ F H _ s w fun F1 H1 x e1 w1 r1 => hb σ F1 H1 _ (s.mono e1) w1 fun F2 H2 y d2 ow2 e2 w2 r2 hp => by
    obtain ⟨d, hr, hp'⟩ := h d2 ow2 hp
    exact hr F2 H2 x y Q w2 (r1.mono e2) r2 fun F3 H3 v e3 w3 r3 => k0 F3 H3 v d ow2 ((e1.trans e2).trans e3) w3 r3 hp')
/-- x[..] where the index changes what is owned -/
theorem vm_ix2 {P P' : D → Ow → Prop} {r : R2} (hr0 : IxR X r) (hs : PlainIx b) (ha : Ve X a env ow d1) (hb : Vm X b env ow P) (h : ∀ d2 ow2, P d2 ow2 → ∃ d, RD X.K ow2 r d1 d2 d ∧ P' d ow2) : Vm X (.Subscript a b pos) env ow P' := .mk fun σ F H Q s w k0 =>
  wpe (pe_ix hr0 pe_can pe_can hs) (ha σ F H _ s w fun F1 H1 x e1 w1 r1 => hb σ F1 H1 _ (s.mono e1) w1 fun F2 H2 y d2 ow2 e2 w2 r2 hp => by
    obtain ⟨d, hr, hp'⟩ := h d2 ow2 hp
    exact hr F2 H2 x y Q w2 (r1.mono e2) r2 fun F3 H3 v e3 w3 r3 => k0 F3 H3 v d ow2 ((e1.trans e2).trans e3) w3 r3 hp')
/-! ### a list comprehension over what is frozen -/
def Sub (ow ow' : Ow) : Prop := ∀ a o, ow a = some o → ow' a = some o
theorem wipe_one {σ : L2.St} {j : Nat} {v : V} : L2.wipe ((L2.wipe σ [j]).set j (some v)) [j] = L2.wipe σ [j] := by
  show ((σ.set j none).set j (some v)).set j none = σ.set j none
  rw [List.set_set, List.set_set]
def Vts (X : Cx) (ifs : List Expr) (env : List (Option D)) (ow : Ow) (b : Bool) : Prop := ∃ t, PTs X ifs t ∧ ∀ (σ : L2.St) (F H : Hp) (Q : Bool → Hp → Prop), Sl X.K F σ env → Wo X.K ow F H → PostB X.K ow F b Q → t σ H Q
/-- the block's test, whatever block -/
def WpTs (X : Cx) (ifs : List Expr) : TT := fun σ H Q => ∀ pins s, Inv X pins σ H s → wpAny (model X.prog X.w) X.A (forIn ifs true fun c r => if r = true then do let ok ← isTrue c X.env (eval c X.env); pure (ForInStep.yield ok) else pure (ForInStep.yield r)) (TP X pins σ Q) X.xe s
theorem vts_nil : Vts X [] env ow true := ⟨_, pts_nil, fun σ F H Q s w k => k F H (Evl.Ex.refl F) w⟩
theorem vts_one {t : Bool} (h : Vt X c env ow t) : Vts X [c] env ow t := ⟨_, pts_one pt_can, h⟩
/-- [elt for name in it if ..]: f the data of what is kept -/
theorem ve_lc {ifs : List Expr} {scope : Scope} {j : Nat} {y : Str} {py : Pos} (kp : D → Bool) (f : D → D) (hc : X.calm = true) (hN : X.N.Nodup) (hi : Vi X (.Name y py) it env ow ds) (ok : BlkOk X.N X.env.scope scope [(y, j)]) (hl : ds.length ≤ 100000)
    (hg : ∀ (s : Shared) (H : Hp) (C : Addr) (cl : List (Str × Addr)) (fp : List Addr), PG (X.blk s H scope (compEnvC scope cl C X.env) fp) (.Name y py) (gName j))
    (ht : ∀ d ow', d ∈ ds → Sub ow ow' → ∀ (s : Shared) (H : Hp) (C : Addr) (cl : List (Str × Addr)) (fp : List Addr), Vts (X.blk s H scope (compEnvC scope cl C X.env) fp) ifs ((env.set j none).set j (some d)) ow' (kp d))
    (he : ∀ d ow', d ∈ ds → kp d = true → Sub ow ow' → ∀ (s : Shared) (H : Hp) (C : Addr) (cl : List (Str × Addr)) (fp : List Addr), Ve (X.blk s H scope (compEnvC scope cl C X.env) fp) elt ((env.set j none).set j (some d)) ow' (f d))
    (hsf : ∀ x, foldedSetIterable it X.env x = pure x := by intro _; rfl) : Ve X (.ListComp elt [⟨.Name y py, it, ifs, 0⟩] scope pos) env ow (.lst ((ds.filter kp).map f)) := .mk fun σ F H Q s w k0 => by
  obtain ⟨wi, pi, hw⟩ := hi
  refine wpe (pe_lc (own := [(y, j)]) (g := gName j) (tt := fun σ H Q => ∀ (s : Shared) (H0 : Hp) (C : Addr) (cl : List (Str × Addr)) (fp : List Addr), WpTs (X.blk s H0 scope (compEnvC scope cl C X.env) fp) ifs σ H Q)
    (te := fun σ H Q => ∀ (s : Shared) (H0 : Hp) (C : Addr) (cl : List (Str × Addr)) (fp : List Addr), WpE (X.blk s H0 scope (compEnvC scope cl C X.env) fp) elt σ H Q) hc hN pi ok hg
    (fun s0 H0 C cl fp => ⟨fun pins s σ H Q I h => h s0 H0 C cl fp pins s I⟩) (fun s0 H0 C cl fp => ⟨fun pins s σ H Q I h => h s0 H0 C cl fp pins s I⟩) hsf) ?_
  refine hw σ F H _ s w fun J F1 H1 e1 w1 src => ?_
  intro Dl hD
  refine ⟨fun i m H => m = ds.length - i ∧ i ≤ ds.length ∧ ∃ F2 xs, Ex F1 F2 ∧ Wo X.K ow F2 H ∧ F2 Dl = none ∧ ow Dl = none ∧ H Dl = some (.lst xs) ∧ Rps X.K F2 xs (((ds.take i).filter kp).map f), ⟨ds.length, by simp, Nat.zero_le _, F1, [], Evl.Ex.refl F1, w1.grow hD, w1.free hD, w1.ofree hD, upd_same, .nil⟩, ?_⟩
  rintro i m H2 ⟨rfl, hi, F2, xs, e2, w2, hF2, hoD, hH2, r2⟩
  obtain ⟨stop, go⟩ := src F2 H2 ow i e2 w2
  by_cases hlt : i < ds.length
  · have hdi : ds[i]? = some ds[i] := by simp [hlt]
    have htk : ds.take (i + 1) = ds.take i ++ [ds[i]] := by rw [List.take_add_one, hdi]; rfl
    obtain ⟨hgo, hy⟩ := go ds[i] hdi
    refine .inr ⟨hgo, fun H3 => ∃ F3 xs, Ex F1 F3 ∧ Wo X.K ow F3 H3 ∧ F3 Dl = none ∧ ow Dl = none ∧ H3 Dl = some (.lst xs) ∧ Rps X.K F3 xs (((ds.take (i + 1)).filter kp).map f), fun H3 q => ⟨ds.length - (i + 1), by omega, rfl, hlt, q⟩, fun x H3 hx => ?_⟩
    -- the new list's place is owned meanwhile
    have w2' : Wo X.K (ou ow Dl (.lst (((ds.take i).filter kp).map f))) F2 H2 := ⟨w2.ex, fun a o q => by
      by_cases z : a = Dl
      · subst z
        rw [ou_same] at q
        cases q
        exact ⟨hF2, xs, hH2, r2⟩
      · rw [ou_ne z] at q
        exact w2.own a o q⟩
    obtain ⟨stop', go'⟩ := src F2 H2 _ i e2 w2'
    obtain ⟨_, hy'⟩ := go' ds[i] hdi
    obtain ⟨F3, e3, w3', r3⟩ := hy' x H3 hx
    have sub : ∀ a o, ow a = some o → ou ow Dl (.lst (((ds.take i).filter kp).map f)) a = some o := fun a o q => by
      rw [ou_ne (fun z => by rw [z, hoD] at q; cases q)]
      exact q
    have sl : Sl X.K F3 ((L2.wipe σ [j]).set j (some x)) ((env.set j none).set j (some ds[i])) := (((s.mono (e1.trans (e2.trans e3))).unset j).set r3 j)
    refine ⟨wipe_one, fun s0 H0 C cl fp => ?_⟩
    have hmem : ds[i] ∈ ds := List.getElem_mem hlt
    obtain ⟨tt, ptt, qtt⟩ := ht ds[i] _ hmem sub s0 H0 C cl fp
    intro pins s' I
    refine ptt.run pins s' _ H3 _ I (qtt _ F3 H3 _ sl w3' fun F4 H4 e4 w4 => ?_)
    cases hk : kp ds[i] with
    | true =>
      rw [if_pos rfl]
      intro s1 H01 C1 cl1 fp1
      refine he ds[i] _ hmem hk sub s1 H01 C1 cl1 fp1 _ F4 H4 _ (sl.mono e4) w4 fun F5 H5 y e5 w5 r5 => ?_
      obtain ⟨n5, ys, h5, s5⟩ := w5.own Dl _ ou_same
      refine ⟨ys, h5, ?_, F5, ys ++ [y], e2.trans (e3.trans (e4.trans e5)), ?_, n5, hoD, upd_same, ?_⟩
      · have z := s5.length
        have y1 : (((ds.take i).filter kp).map f).length ≤ i := by
          rw [List.length_map]
          exact Nat.le_trans (List.length_filter_le _ _) (by rw [List.length_take]; omega)
        exact Evl.sz_lt (by omega)
      · exact (w5.setL ou_same (s5.append (.cons r5 .nil))).drop fun a o q => by
          rw [ou_ne (fun z => by rw [z, hoD] at q; cases q)]
          exact sub a o q
      · rw [htk, List.filter_append, List.map_append]
        have y2 : ([ds[i]].filter kp).map f = [f ds[i]] := by simp [hk]
        rw [y2]
        exact s5.append (.cons r5 .nil)
    | false =>
      rw [if_neg Bool.false_ne_true]
      obtain ⟨n5, ys, h5, s5⟩ := w4.own Dl _ ou_same
      refine ⟨F4, ys, e2.trans (e3.trans e4), w4.drop sub, n5, hoD, h5, ?_⟩
      rw [htk, List.filter_append, List.map_append]
      have y2 : ([ds[i]].filter kp).map f = [] := by simp [hk]
      rw [y2, List.append_nil]
      exact s5
  · have e : i = ds.length := by omega
    subst e
    refine .inl ⟨stop (Nat.le_refl _), ?_⟩
    rw [List.take_length] at r2
    exact k0 (upd F2 Dl (.lst xs)) H2 _ ((e1.trans e2).trans (Evl.Ex.new hF2)) (w2.freeze hF2 hH2 hoD) (.lst upd_same (r2.mono (Evl.Ex.new hF2)))
end
end Vd
set_option Elab.async false
set_option linter.all false
set_option maxRecDepth 100000
set_option maxHeartbeats 4000000
namespace Vd
open PySem L2
section
variable {X : Cx} {B : Hp} {env : List (Option D)} {ow : Ow} {a b c e o i tg it elt : Expr} {es : List Expr} {d d1 d2 d3 : D} {ds l : List D} {pos : Pos} {Dn : Ends} {rest : List Stmt}
/-! ### owned lists -/
theorem rn_newL {x : Str} {p lp : Pos} {j : Nat} (hN : X.N.Nodup) (hi : X.N[j]? = some x) (hx : Loc X.env.scope x) (h : Va X es env ow ds) (hl : ds.length ≤ 100000) (k : ∀ B' q, Ex B B' → ow q = none → Rn X B' rest Dn (env.set j (some (.ob (.ref q)))) (ou ow q (.lst ds)))
    (hs : swapsWith (.List es lp) (some (.Name x p)) pos.line X.env = pure false := by rfl) (hf : X.fn x = true ∨ X.env.scope.names.lookup x = some .local := by first | exact .inl rfl | exact .inr rfl | assumption) : Rn X B (.Assign [.Name x p] (.List es lp) pos :: rest) Dn env ow :=
  rn_one ⟨_, ps_set hN hi hx (pe_lst pa_can) hs hf, fun σ F H eB s w => h σ F H _ s w fun F1 H1 xs e1 w1 r1 => ⟨Evl.sz_of (by rw [r1.length]; exact hl), fun q hq => k F1 q (eB.trans e1) (w1.ofree hq) _ F1 _ (Evl.Ex.refl F1) ((s.mono e1).set (.ob _) j) (w1.newL hq r1)⟩⟩
theorem rn_app {q : Addr} {ap cp : Pos} (ho : Ve X o env ow (.ob (.ref q))) (hq : ow q = some (.lst l)) (he : Ve X e env ow d) (hl : l.length < 100000) (k : ∀ B', Ex B B' → Rn X B' rest Dn env (ou ow q (.lst (l ++ [d]))))
    (hbase : attributeBase o "append" X.env (eval o X.env) = eval o X.env := by rfl)
    (hfew : ((backTo cp (starEach [e] X.env)).all (fun x => !x.1) && (backToKw cp (keywordEach [] X.env)).all (fun x => x.1.isSome) && decide ([e].length + ([] : List Keyword).length + (if ([] : List Keyword).isEmpty then 0 else 1) < 30)) = true := by rfl)
    (hline : (ap.endLine == cp.line) = true := by rfl) (hst : starEach [e] X.env = (false, eval e X.env) :: starEach [] X.env := by rfl) (hpl : (backTo cp (starEach [] X.env)).any (·.1) = false := by rfl) (hs : swapsWith (.Call (.Attribute o "append" ap) [e] [] cp) none pos.line X.env = pure false := by rfl) :
    Rn X B (.Expr (.Call (.Attribute o "append" ap) [e] [] cp) pos :: rest) Dn env ow := rn_one ⟨_, ps_expr (pe_bm PySem.F.plainAttrs_list PySem.F.slot_list_append PySem.F.type_list_append mt_append pe_can (pa_cons pe_can pa_nil hst) hbase hfew hline hst hpl) hs, fun σ F H eB s w => ho σ F H _ s w fun F1 H1 v e1 w1 r1 => by
  cases r1
  obtain ⟨_, xs0, g0, _⟩ := w1.own q _ hq
  refine ⟨.inl ⟨rfl, _, SqL.of g0⟩, he σ F1 H1 _ (s.mono e1) w1 fun F2 H2 y e2 w2 r2 => ?_⟩
  obtain ⟨_, xs, g, sx⟩ := w2.own q _ hq
  exact ⟨q, xs, y, rfl, rfl, g, Evl.sz_lt (by rw [sx.length]; exact hl), k F2 (eB.trans (e1.trans e2)) σ F2 _ (Evl.Ex.refl F2) (s.mono (e1.trans e2)) (w2.setL hq (sx.append (.cons r2 .nil)))⟩⟩
def oz (ow : Ow) (a : Addr) : Ow := fun b => if b = a then none else ow b
theorem oz_same {a : Addr} : oz ow a a = none := by unfold oz; rw [if_pos rfl]
theorem oz_ne {a b : Addr} (h : b ≠ a) : oz ow a b = ow b := by unfold oz; rw [if_neg h]
/-- an owned list is let freeze -/
theorem rn_freeze {j : Nat} {q : Addr} (hj : env[j]? = some (some (.ob (.ref q)))) (hq : ow q = some (.lst l)) (k : ∀ B', Ex B B' → Rn X B' rest Dn (env.set j (some (.lst l))) (oz ow q)) : Rn X B rest Dn env ow := .mk fun σ F H eB s w => by
  obtain ⟨n, xs, g, sx⟩ := w.own q _ hq
  obtain ⟨v, h1, h2⟩ := s.at_ j _ hj
  cases h2
  have e1 : Ex F (upd F q (.lst xs)) := Evl.Ex.new n
  have w1 : Wo X.K (oz ow q) (upd F q (.lst xs)) H := (w.drop (ow' := oz ow q) fun a o h => by
    by_cases z : a = q
    · subst z
      rw [oz_same] at h
      cases h
    · rw [oz_ne z] at h
      exact h).freeze n g oz_same
  have s1 : Sl X.K (upd F q (.lst xs)) (σ.set j (some (.ref q))) (env.set j (some (.lst l))) := (s.mono e1).set (.lst upd_same (sx.mono e1)) j
  have z : σ.set j (some (.ref q)) = σ := by
    apply List.ext_getElem?
    intro m
    rw [List.getElem?_set]
    by_cases y : j = m
    · subst y
      rw [if_pos rfl, h1]
      have y2 : j < σ.length := (List.getElem?_eq_some_iff.mp h1).1
      rw [if_pos y2]
    · rw [if_neg y]
  rw [z] at s1
  exact k _ (eB.trans e1) σ _ H (Evl.Ex.refl _) s1 w1
theorem rn_seti {q : Addr} {n : Int} {j : Nat} {sp : Pos} (h : Ve X e env ow d) (ho : Ve X o env ow (.ob (.ref q))) (hi : Ve X i env ow (.int n)) (hq : ow q = some (.lst l)) (hj : ixN l.length n = some j) (k : ∀ B', Ex B B' → Rn X B' rest Dn env (ou ow q (.lst (l.set j d))))
    (hg : PG X (.Subscript o i sp) (gSub (WpE X o) (WpE X i) rSetL))
    (hs : swapsWithSole [.Subscript o i sp] e pos.line X.env = pure false := by rfl) (hw : swappedStores [.Subscript o i sp] e X.env = pure none := by rfl) (h1 : (assignEach [.Subscript o i sp] X.env).map (·.2) = [assign (.Subscript o i sp) X.env] := by rfl) :
    Rn X B (.Assign [.Subscript o i sp] e pos :: rest) Dn env ow := rn_one ⟨_, ps_asg pe_can hg hs hw h1, fun σ F H eB s w => h σ F H _ s w fun F1 H1 v e1 w1 r1 => ho σ F1 H1 _ (s.mono e1) w1 fun F2 H2 ov e2 w2 r2 => hi σ F2 H2 _ (s.mono (e1.trans e2)) w2 fun F3 H3 iv e3 w3 r3 => by
  cases r2
  cases r3
  obtain ⟨_, xs, g, sx⟩ := w3.own q _ hq
  exact ⟨q, xs, n, j, rfl, rfl, g, by rw [sx.length]; exact hj, k F3 (eB.trans (e1.trans (e2.trans e3))) σ F3 _ (Evl.Ex.refl F3) (s.mono (e1.trans (e2.trans e3))) (w3.setL hq (sx.set (r1.mono (e2.trans e3)) j))⟩⟩
/-- return [..]: the list is handed out as owned -/
theorem rn_retL {lp : Pos} (h : Va X es env ow ds) (hl : ds.length ≤ 100000) (k : ∀ F2 H2 q, Ex B F2 → ow q = none → Wo X.K (ou ow q (.lst ds)) F2 H2 → Dn.rt (.ref q) H2) : Rn X B (.Return (some (.List es lp)) pos :: rest) Dn env ow :=
  rn_one ⟨_, ps_ret (pe_lst pa_can), fun σ F H eB s w => h σ F H _ s w fun F1 H1 xs e1 w1 r1 => ⟨Evl.sz_of (by rw [r1.length]; exact hl), fun q hq => k F1 _ q (eB.trans e1) (w1.ofree hq) (w1.newL hq r1)⟩⟩
theorem rn_retS {ow0 : Ow} (h : Ve X e env ow d) (sub : Sub ow0 ow) (k : Post X.K ow0 B d Dn.rt) : Rn X B (.Return (some e) pos :: rest) Dn env ow := rn_ret h fun F2 H2 v e2 w2 r2 => k F2 H2 v e2 (w2.drop sub) r2
end
open PySem.Spec PyProof.Rows
/-! ### promises of defs -/
def Cx0 (P : Program) (w : World) (K : PySem.W.Frag) (mg : Str → Option Value) (base : Heap) (N : List Str) (qual : Str) (st : Stmt) (f : Addr) (cdv : Value) (A : Around) (outer : List Env) (s : Shared) (H : Hp) (E : XK) : Cx := (cxOf CX0 P w K mg base N qual (defScope st) f cdv A outer s H E).nox
section
variable {P : Program} {w : World} {K : PySem.W.Frag} {mg : Str → Option Value} {base : Heap}
def env0 (N : List Str) (ds : List D) : List (Option D) := ds.map some ++ List.replicate (N.length - ds.length) none
theorem okG {x qual : Str} {st : Stmt} {f : Addr} {fd : FuncData} {N ps : List Str} {k : Nat} {sp : Sp} (Fn : Fun K x qual st f fd) (S : FnScope N ps (defScope st)) (len : ∀ vs H Q E, sp vs H Q E → vs.length = ps.length)
    (body : ∀ (cdv : Value) (A : Around) (outer : List Env) (s : Shared) (H : Hp) (vs : List V) (Q : VK) (E : XK), γ A.guards → Room k (A.deeper (envOfC qual (defScope st) s.heap.objs.size f cdv)) → sp vs H Q E →
      ∃ B ow ds, Wo K ow B H ∧ Rps K B vs ds ∧ Rn (cxOf CX0 P w K mg base N qual (defScope st) f cdv A outer s H E).nox B (defBody st) { nx := fun _ H' => Q .non H', rt := Q } (env0 N ds) ow) : FnG γ P w K mg base CX0 (k + 1) f fd ps sp :=
  fnG_of Fn S len fun cdv A outer s H vs Q E hgd hr h => by
    obtain ⟨B, ow, ds, wo, r, q⟩ := body cdv A outer s H vs Q E hgd hr h
    exact ⟨_, pss_can.nox, q (start N vs) B H (Evl.Ex.refl B) (Sl.start r) wo⟩
/-- from data to data -/
def spR (K : PySem.W.Frag) (R : List D → D → Prop) : Sp := fun vs H Q _ => ∃ F ow ds d, Wo K ow F H ∧ Rps K F vs ds ∧ R ds d ∧ Post K ow F d Q
theorem okR {x qual : Str} {st : Stmt} {f : Addr} {fd : FuncData} {N ps : List Str} {k : Nat} {R : List D → D → Prop} (Fn : Fun K x qual st f fd) (S : FnScope N ps (defScope st)) (len : ∀ ds d, R ds d → ds.length = ps.length)
    (body : ∀ (cdv : Value) (A : Around) (outer : List Env) (s : Shared) (H B : Hp) (ow : Ow) (ds : List D) (d : D) (Q : VK) (E : XK), γ A.guards → Room k (A.deeper (envOfC qual (defScope st) s.heap.objs.size f cdv)) → R ds d → Post K ow B d Q →
      Rn (cxOf CX0 P w K mg base N qual (defScope st) f cdv A outer s H E).nox B (defBody st) { nx := fun _ H' => Q .non H', rt := Q } (env0 N ds) ow) : FnG γ P w K mg base CX0 (k + 1) f fd ps (spR K R) :=
  okG Fn S (fun vs H Q E ⟨F, ow, ds, d, wo, r, hR, _⟩ => by rw [r.length]; exact len ds d hR) fun cdv A outer s H vs Q E hgd hr ⟨F, ow, ds, d, wo, r, hR, k⟩ => ⟨F, ow, ds, wo, r, body cdv A outer s H F ow ds d Q E hgd hr hR k⟩
/-! the draws: a cup is an owned list of two integers from 0 on -/
def CupO (ow : Ow) (c : Addr) : Prop := ∃ x y : Int, 0 ≤ x ∧ 0 ≤ y ∧ ow c = some (.lst [.int x, .int y])
def SameO (c : Addr) (ow ow' : Ow) : Prop := ∀ b o, b ≠ c → ow b = some o → ow' b = some o
theorem SameO.refl {c : Addr} {ow : Ow} : SameO c ow ow := fun _ _ _ h => h
theorem SameO.trans {c : Addr} {o1 o2 o3 : Ow} (a : SameO c o1 o2) (b : SameO c o2 o3) : SameO c o1 o3 := fun x o n h => b x o n (a x o n h)
theorem SameO.ou {c q : Addr} {ow ow' : Ow} {u : OD} (h : SameO c ow ow') (hq : ow' q = none) : SameO c ow (ou ow' q u) := fun b o n e => by
  have z := h b o n e
  rw [ou_ne (fun y => by rw [y, hq] at z; cases z)]
  exact z
def PostC (K : PySem.W.Frag) (ow : Ow) (c : Addr) (F : Hp) (R : D → Prop) (Q : VK) : Prop := ∀ F2 H2 ow2 v d, Ex F F2 → Wo K ow2 F2 H2 → SameO c ow ow2 → CupO ow2 c → Rp K F2 v d → R d → Q v H2
def spC (K : PySem.W.Frag) (G : List D → Prop) (R : List D → D → Prop) : Sp := fun vs H Q _ => ∃ F ow c ws ds, vs = .ref c :: ws ∧ Wo K ow F H ∧ CupO ow c ∧ Rps K F ws ds ∧ G ds ∧ PostC K ow c F (R ds) Q
theorem okC {x qual : Str} {st : Stmt} {f : Addr} {fd : FuncData} {N ps : List Str} {k : Nat} {G : List D → Prop} {R : List D → D → Prop} (Fn : Fun K x qual st f fd) (S : FnScope N ps (defScope st)) (len : ∀ ds, G ds → ds.length + 1 = ps.length)
    (body : ∀ (cdv : Value) (A : Around) (outer : List Env) (s : Shared) (H B : Hp) (ow : Ow) (c : Addr) (ds : List D) (Q : VK) (E : XK), γ A.guards → Room k (A.deeper (envOfC qual (defScope st) s.heap.objs.size f cdv)) → G ds → CupO ow c → PostC K ow c B (R ds) Q →
      Rn (cxOf CX0 P w K mg base N qual (defScope st) f cdv A outer s H E).nox B (defBody st) { nx := fun _ H' => Q .non H', rt := Q } (env0 N (.ob (.ref c) :: ds)) ow) : FnG γ P w K mg base CX0 (k + 1) f fd ps (spC K G R) :=
  okG Fn S (fun vs H Q E ⟨F, ow, c, ws, ds, e, wo, _, r, hG, _⟩ => by rw [e, List.length_cons, r.length]; exact len ds hG) fun cdv A outer s H vs Q E hgd hr ⟨F, ow, c, ws, ds, e, wo, hc, r, hG, k⟩ => by
    subst e
    exact ⟨F, ow, .ob (.ref c) :: ds, wo, .cons (.ob _) r, body cdv A outer s H F ow c ds Q E hgd hr hG hc k⟩
theorem rn_retC {X : Cx} {B B0 : Hp} {env : List (Option D)} {ow ow0 : Ow} {e : Expr} {d : D} {pos : Pos} {Dn : Ends} {rest : List Stmt} {c : Addr} {R : D → Prop} (h : Ve X e env ow d) (k : PostC X.K ow0 c B0 R Dn.rt) (eB : Ex B0 B) (hs : SameO c ow0 ow) (hc : CupO ow c) (hR : R d) :
    Rn X B (.Return (some e) pos :: rest) Dn env ow := rn_ret h fun F2 H2 v e2 w2 r2 => k F2 H2 ow v d (eB.trans e2) w2 hs hc r2 hR
/-- a draw -/
theorem vm_draw {X : Cx} {env : List (Option D)} {ow : Ow} {e : Expr} {es : List Expr} {ds : List D} {pos p : Pos} {x : Str} {f c : Addr} {fd : FuncData} {ps : List Str} {k : Nat} {G : List D → Prop} {R : List D → D → Prop} (Fn : FnG γ X.prog X.w X.K X.mg X.base CX0 k f fd ps (spC X.K G R)) (hgd : γ X.A.guards) (hr : Room k X.A) (hg : Gl X x) (hm : X.mg x = some (.ref f)) (hk : PySem.W.keepIn X.K (.ref f) = true) (hb : Binds X.K fd ps [])
    (ha : Va X (e :: es) env ow (.ob (.ref c) :: ds)) (hc : CupO ow c) (hG : G ds) (hdb : (x == ("__debug__" : Str)) = false := by decide) (he : starEach (e :: es) X.env = (false, eval e X.env) :: starEach es X.env := by rfl) (hpl : (backTo pos (starEach es X.env)).any (·.1) = false := by rfl) :
    Vm X (.Call (.Name x p) (e :: es) [] pos) env ow fun d ow2 => SameO c ow ow2 ∧ CupO ow2 c ∧ R ds d := vm_call Fn hgd hr hg hm hk hb .nil pass0 ha (fun F H vs Q w r k0 => by
  cases r with
  | cons r1 r2 =>
    cases r1
    rw [List.append_nil]
    exact ⟨F, ow, c, _, ds, rfl, w, hc, r2, hG, fun F2 H2 ow2 v d e2 w2 s2 c2 rv hR => k0 F2 H2 v d ow2 e2 w2 rv ⟨s2, c2, hR⟩⟩) hdb he hpl
end
end Vd
set_option Elab.async false
set_option linter.all false
set_option maxRecDepth 100000
set_option maxHeartbeats 4000000
namespace Vd
open PySem L2
section
variable {X : Cx} {B : Hp} {env : List (Option D)} {ow : Ow} {a b c e o i tg it elt : Expr} {es : List Expr} {d d1 d2 d3 : D} {ds l : List D} {pos : Pos} {Dn : Ends} {rest : List Stmt}
/-! ### the same rules, the parts first and the reading last -/
structure BinOk (X : Cx) (ow : Ow) (op : Operator) (d1 d2 d : D) : Prop where
  ex : ∃ r, OpR X (binaryOp op) r ∧ RD X.K ow r d1 d2 d
structure CmpOk (X : Cx) (ow : Ow) (op : CmpOp) (b : Expr) (d1 d2 d : D) : Prop where
  ex : ∃ r, OpR X (compareOp op) r ∧ behindInMarks op b = false ∧ RD X.K ow r d1 d2 d
structure IxOk (X : Cx) (ow : Ow) (d1 d2 d : D) : Prop where
  ex : ∃ r, IxR X r ∧ RD X.K ow r d1 d2 d
structure BiOk (X : Cx) (ow : Ow) (id : String) (ds : List D) (d : D) : Prop where
  ex : ∃ r, CallR X (.builtin id) r ∧ RC X.K ow r ds d
structure TyOk (X : Cx) (ow : Ow) (id : String) (ds : List D) (d : D) : Prop where
  ex : ∃ r, CallR X (.type id) r ∧ RC X.K ow r ds d
theorem ve_bin {op : Operator} (ha : Ve X a env ow d1) (hb : Ve X b env ow d2) (h : BinOk X ow op d1 d2 d) : Ve X (.BinOp a op b pos) env ow d := by
  obtain ⟨r, ho, hr⟩ := h
  exact ve_op ho ha hb hr
theorem ve_comp {op : CmpOp} (ha : Ve X a env ow d1) (hb : Ve X b env ow d2) (h : CmpOk X ow op b d1 d2 d) : Ve X (.Compare a [op] [b] pos) env ow d := by
  obtain ⟨r, ho, hm, hr⟩ := h
  exact ve_cmp ho hm ha hb hr
theorem vt_comp {op : CmpOp} {t : Bool} (ha : Ve X a env ow d1) (hb : Ve X b env ow d2) (h : CmpOk X ow op b d1 d2 (.bl t)) : Vt X (.Compare a [op] [b] pos) env ow t := by
  obtain ⟨r, ho, hm, hr⟩ := h
  exact vt_cmp ho hm ha hb hr
theorem ve_sub (ha : Ve X a env ow d1) (hb : Ve X b env ow d2) (hs : PlainIx b) (h : IxOk X ow d1 d2 d) : Ve X (.Subscript a b pos) env ow d := by
  obtain ⟨r, ho, hr⟩ := h
  exact ve_ix ho hs ha hb hr
/-- a built-in's call by its name: a function, or a type -/
theorem ve_bi {x : Str} {id : String} {p : Pos} (ha : Va X (e :: es) env ow ds) (hg : Gl X x) (hm : X.mg x = none) (hv : bootBuiltins x = some (.builtin id)) (h : BiOk X ow id ds d) (hn : x ≠ "__name__" := by decide) (hdb : (x == ("__debug__" : Str)) = false := by decide)
    (he : starEach (e :: es) X.env = (false, eval e X.env) :: starEach es X.env := by rfl) (hpl : (backTo pos (starEach es X.env)).any (·.1) = false := by rfl) : Ve X (.Call (.Name x p) (e :: es) [] pos) env ow d := by
  obtain ⟨r, ho, hr⟩ := h
  exact ve_cb ho hg hm hv ha hr hn hdb he hpl
theorem ve_ty {x : Str} {id : String} {p : Pos} (ha : Va X (e :: es) env ow ds) (hg : Gl X x) (hm : X.mg x = none) (hv : bootBuiltins x = some (.type id)) (h : TyOk X ow id ds d) (hn : x ≠ "__name__" := by decide) (hdb : (x == ("__debug__" : Str)) = false := by decide)
    (he : starEach (e :: es) X.env = (false, eval e X.env) :: starEach es X.env := by rfl) (hpl : (backTo pos (starEach es X.env)).any (·.1) = false := by rfl) : Ve X (.Call (.Name x p) (e :: es) [] pos) env ow d := by
  obtain ⟨r, ho, hr⟩ := h
  exact ve_ct ho hg hm hv ha hr hn hdb he hpl
theorem bo_add {i j : Int} : BinOk X ow .Add (.int i) (.int j) (.int (i + j)) := ⟨_, op_add, rd_add⟩
theorem bo_sub {i j : Int} : BinOk X ow .Sub (.int i) (.int j) (.int (i - j)) := ⟨_, op_sub, rd_sub⟩
theorem bo_mulL {i j : Int} (h : -(2 ^ 64) < i ∧ i < 2 ^ 64) : BinOk X ow .Mult (.int i) (.int j) (.int (i * j)) := ⟨_, op_mul, rd_mulL h⟩
theorem bo_mulR {i j : Int} (h : -(2 ^ 64) < j ∧ j < 2 ^ 64) : BinOk X ow .Mult (.int i) (.int j) (.int (i * j)) := ⟨_, op_mul, rd_mulR h⟩
theorem bo_div {i j : Int} (h : 0 < j) (h2 : j < 1073741824) : BinOk X ow .FloorDiv (.int i) (.int j) (.int (i / j)) := ⟨_, op_fdiv, rd_div ⟨h, h2⟩⟩
theorem bo_mod {i j : Int} (h : 0 < j) : BinOk X ow .Mod (.int i) (.int j) (.int (i % j)) := ⟨_, op_mod, rd_mod h⟩
theorem bo_pow {i j : Int} (h : 0 ≤ j) (h2 : j ≤ 1000000) (h3 : i.natAbs < 2 ^ 64) : BinOk X ow .Pow (.int i) (.int j) (.int (i ^ j.toNat)) := ⟨_, op_pow, rd_pow ⟨h, h2, h3⟩⟩
theorem bo_cat {l m : List D} (h : l.length + m.length ≤ 100000) : BinOk X ow .Add (.lst l) (.lst m) (.lst (l ++ m)) := ⟨_, op_cat, rd_cat h⟩
theorem co_lt {i j : Int} : CmpOk X ow .Lt b (.int i) (.int j) (.bl (decide (i < j))) := ⟨_, op_lt, nomark _, rd_lt⟩
theorem co_le {i j : Int} : CmpOk X ow .LtE b (.int i) (.int j) (.bl (decide (i ≤ j))) := ⟨_, op_le, nomark _, rd_le⟩
theorem co_gt {i j : Int} : CmpOk X ow .Gt b (.int i) (.int j) (.bl (decide (j < i))) := ⟨_, op_gt, nomark _, rd_gt⟩
theorem co_ge {i j : Int} : CmpOk X ow .GtE b (.int i) (.int j) (.bl (decide (j ≤ i))) := ⟨_, op_ge, nomark _, rd_ge⟩
theorem co_eqI {i j : Int} : CmpOk X ow .Eq b (.int i) (.int j) (.bl (decide (i = j))) := ⟨_, op_eq, nomark _, rd_eqI⟩
theorem co_neI {i j : Int} : CmpOk X ow .NotEq b (.int i) (.int j) (.bl (!decide (i = j))) := ⟨_, op_ne, nomark _, rd_neI⟩
theorem co_eqS {i j : Str} : CmpOk X ow .Eq b (.str i) (.str j) (.bl (decide (i = j))) := ⟨_, op_eq, nomark _, rd_eqS⟩
theorem co_neS {i j : Str} : CmpOk X ow .NotEq b (.str i) (.str j) (.bl (!decide (i = j))) := ⟨_, op_ne, nomark _, rd_neS⟩
theorem xo_own {q : Addr} {i : Int} (hq : ow q = some (.lst l)) (h : L2.atI l i = some d) : IxOk X ow (.ob (.ref q)) (.int i) d := ⟨_, ix_list, rd_ixO hq h⟩
theorem xo_lst {i : Int} (h : L2.atI l i = some d) : IxOk X ow (.lst l) (.int i) d := ⟨_, ix_list, rd_ixL h⟩
theorem xo_tup {i : Int} (h : L2.atI l i = some d) : IxOk X ow (.tup l) (.int i) d := ⟨_, ix_tup, rd_ixT h⟩
theorem xo_str {z : Str} {i : Int} {c : Nat} (hl : z.length ≤ 100000) (h : L2.atI z.cps.toList i = some c) : IxOk X ow (.str z) (.int i) (.str ⟨#[c]⟩) := ⟨_, ix_str, rd_ixS hl h⟩
theorem fo_abs {i : Int} : BiOk X ow "abs" [.int i] (.int (if i < 0 then -i else i)) := ⟨_, call_abs, rc_abs⟩
theorem fo_lenL : BiOk X ow "len" [.lst l] (.int (l.length : Nat)) := ⟨_, call_len_seq, rc_lenL⟩
theorem fo_lenT : BiOk X ow "len" [.tup l] (.int (l.length : Nat)) := ⟨_, call_len_seq, rc_lenT⟩
theorem fo_lenO {q : Addr} (hq : ow q = some (.lst l)) : BiOk X ow "len" [.ob (.ref q)] (.int (l.length : Nat)) := ⟨_, call_len_seq, rc_lenO hq⟩
theorem fo_divmod {i j : Int} (h : 0 < j) (h2 : j < 1073741824) : BiOk X ow "divmod" [.int i, .int j] (.tup [.int (i / j), .int (i % j)]) := ⟨_, call_divmod, rc_divmod ⟨h, h2⟩⟩
theorem fo_max {i j : Int} (hc : X.calm = true) : BiOk X ow "max" [.int i, .int j] (.int (if j > i then j else i)) := ⟨_, call_max2 hc, rc_max⟩
theorem fo_min {i j : Int} (hc : X.calm = true) : BiOk X ow "min" [.int i, .int j] (.int (if j < i then j else i)) := ⟨_, call_min2 hc, rc_min⟩
theorem to_int {i : Int} : TyOk X ow "int" [.int i] (.int i) := ⟨_, call_int1, rc_int1⟩
/-- cup[1], part = e: the pair's first into an owned list, the second into a slot -/
theorem rn_setiName {q : Addr} {n : Int} {j m kk : Nat} {x : Str} {sp np tp : Pos} {u v : D} (hc : X.calm = true) (h : Ve X e env ow (.tup [u, v])) (ho : Ve X o env ow (.ob (.ref q))) (hi : Ve X i env ow (.int n)) (hq : ow q = some (.lst l)) (hj : ixN l.length n = some j)
    (hN : X.N.Nodup) (hx : X.N[m]? = some x) (hl : Loc X.env.scope x) (k : ∀ B', Ex B B' → Rn X B' rest Dn (env.set m (some v)) (ou ow q (.lst (l.set j u))))
    (hs : swapsWithSole [.Tuple [.Subscript o i sp, .Name x np] kk tp] e pos.line X.env = pure false := by rfl) (hw : swappedStores [.Tuple [.Subscript o i sp, .Name x np] kk tp] e X.env = pure none := by rfl)
    (h1 : (assignEach [.Tuple [.Subscript o i sp, .Name x np] kk tp] X.env).map (·.2) = [assign (.Tuple [.Subscript o i sp, .Name x np] kk tp) X.env] := by rfl)
    (hg : PG X (.Tuple [.Subscript o i sp, .Name x np] kk tp) (gTup X.K 2 (gCons (gSub (WpE X o) (WpE X i) rSetL) (gCons (gName m) gNil)))) :
    Rn X B (.Assign [.Tuple [.Subscript o i sp, .Name x np] kk tp] e pos :: rest) Dn env ow := rn_one ⟨_, ps_asg pe_can hg hs hw h1, fun σ F H eB s w => h σ F H _ s w fun F1 H1 y e1 w1 r1 => by
  cases r1 with
  | tup g1 s1 =>
    cases s1 with
    | cons r2 s2 =>
      cases s2 with
      | cons r3 s3 =>
        cases s3
        refine ⟨_, _, rfl, Evl.ex_t w1.ex g1, rfl, _, _, rfl, ?_⟩
        refine ho σ F1 H1 _ (s.mono e1) w1 fun F2 H2 ov e2 w2 r4 => hi σ F2 H2 _ (s.mono (e1.trans e2)) w2 fun F3 H3 iv e3 w3 r5 => ?_
        cases r4
        cases r5
        obtain ⟨_, xs, g, sx⟩ := w3.own q _ hq
        exact ⟨q, xs, n, j, rfl, rfl, g, by rw [sx.length]; exact hj, _, _, rfl, rfl, k F3 (eB.trans (e1.trans (e2.trans e3))) _ F3 _ (Evl.Ex.refl F3) ((s.mono (e1.trans (e2.trans e3))).set (r3.mono (e2.trans e3)) m) (w3.setL hq (sx.set (r2.mono (e2.trans e3)) j))⟩⟩
end
end Vd
set_option Elab.async false
set_option linter.all false
set_option maxRecDepth 100000
set_option maxHeartbeats 4000000
/-! An own exception class called with keywords too, whatever built-in class it stands on. -/
namespace Xc
open PySem PySem.W PySem.HandSPX
section
variable {M : Model} {prog : Program} {w : World} {A : Around} {R : Result → Shared → Prop} {h : Heap} {g : Array GenState} {d : Drawn} {t : Nat} {os : OsState}
variable {nm q : Str} {C N : Addr} {bs bm bmB : List Value} {hdct : Bool} {sn : List Str} {sub : List Value} {ab : Bool} {col : Option Bool} {dd : Option Addr} {k0 k1 k2 k3 k5 : Option Value} {B newId initId : String}
variable {rest : List Value} {kw : List (Str × Value)}
local macro_rules | `(tactic| walk_at "xc step") => `(tactic| wp_step)
theorem check_kw {E : Value → Shared → Prop} {Q : Unit → Shared → Prop} (FB : ExcBaseFacts B newId initId bmB) (same : ∀ T : String, bm.contains (.type T) = bmB.contains (.type T))
    (hC : h.get? C = some (excClassObj nm q C N bs bm hdct sn sub ab col dd k0 k1 k2 k3 k5 newId)) (hq : Q () ⟨h, g, d, t, os⟩) :
    wpAny M A (checkBuiltinCall newId ⟨.ref C :: rest, kw⟩) Q E ⟨h, g, d, t, os⟩ := by
  have inB : (Value.ref C :: bm).contains (.type B) = true := by
    rw [List.contains_cons, same, FB.hasB]
    simp
  have ns := FB.noStar
  simp only [checkBuiltinCall, FB.newKind, FB.newSplit, FB.newRow]
  repeat
    first
    | refine wpAny_loadPart_at hC ?_
    | (refine wpAny_isSubtype_exc hC ?_
       rw [inB])
    | refine wpAny_staticBase_exc hC ?_
    | refine wpAny_madeBy_exc hC ?_
    | simp only [bne_self_eq_false, if_false, Bool.false_eq_true]
    | wp_step
  exact hq
theorem new_kw (FB : ExcBaseFacts B newId initId bmB) (same : ∀ T : String, bm.contains (.type T) = bmB.contains (.type T)) (short : rest.length ≤ sizeLine)
    (hC : h.get? C = some (excClassObj nm q C N bs bm hdct sn sub ab col dd k0 k1 k2 k3 k5 newId))
    (hq : R (.ok (.ret (.ref (h.objs.size + 1)))) ⟨(h.push (kdv_tup rest)).push (excO C h.objs.size), g, d, t, os⟩) :
    codeAny (model prog w) A (.builtin newId ⟨.ref C :: rest, kw⟩) R ⟨h, g, d, t, os⟩ := by
  have inB : (Value.ref C :: bm).contains (.type B) = true := by
    rw [List.contains_cons, same, FB.hasB]
    simp
  have inA : (Value.ref C :: bm).contains (.type "AttributeError") = false := by
    rw [List.contains_cons, same, FB.noAttr]
    rfl
  have inN : (Value.ref C :: bm).contains (.type "NameError") = false := by
    rw [List.contains_cons, same, FB.noName]
    rfl
  have ends := FB.ends
  refine codeAny_builtinAt FB.entry ?_
  unfold Builtin.«BaseException.__new__»
  refine wpAt_bind ?_
  show wpAt _ _ _ (stack >>= _) _ _ _
  refine wpAt_bind (wpAt_stack fun p below => ?_)
  refine wpAt_of_wpAny ?_
  wp_walk
  refine wpAt_of_wpAny ?_
  rw [FB.owner]
  repeat
    first
    | with_reducible refine wpAny_madeHere_exc FB.canon hC ?_
    | with_reducible refine wpAny_loadPart_at hC ?_
    | (with_reducible refine wpAny_isSubtype_exc hC ?_
       first
       | rw [inB]
       | rw [inA]
       | rw [inN])
    | wp_step
  show R _ _
  rw [Heap.size_push]
  exact hq
theorem type_kw {E : Value → Shared → Prop} {fI : Addr} {Q : Fin → Shared → Prop} (FB : ExcBaseFacts B newId initId bmB) (same : ∀ T : String, bm.contains (.type T) = bmB.contains (.type T)) (short : rest.length ≤ sizeLine)
    (hC : h.get? C = some (excClassObj nm q C N bs bm hdct sn sub ab col dd k0 k1 k2 k3 k5 newId))
    (hi : Looks (model prog w) h (typeLookup (.ref C) "__init__") (some (.ref fI))) (hb : ∀ self, Looks (model prog w) h (bindSpecial (.ref fI) self) (.ref fI, [self]))
    (hq : codeAny (model prog w) A (.call (.ref fI) ⟨.ref (h.objs.size + 1) :: rest, kw⟩) (fun r s' => match r with | .ok (.ret v) => v = .none ∧ Q (.done (.ret (.ref (h.objs.size + 1)))) s' | .ok _ => False | .error e => E e s')
      ⟨(h.push (kdv_tup rest)).push (excO C h.objs.size), g, d, t, os⟩) :
    wpAny (model prog w) A (Builtin.«type.__call__» ⟨.ref C :: rest, kw⟩) Q E ⟨h, g, d, t, os⟩ := by
  repeat
    first
    | with_reducible refine wpAny_loadPart_at hC ?_
    | with_reducible refine wpAny_madeBy_exc hC ?_
    | wp_step
  refine codeAny_call_builtin_code (Code.quiet_builtin _ FB.quiet) (check_kw FB same hC ?_)
  refine new_kw FB same short hC ?_
  show wpAny _ _ _ _ _ _
  have kp : ∀ b o, h.get? b = some o → ((h.push (kdv_tup rest)).push (excO C h.objs.size)).get? b = some o := fun b o e => by
    refine Heap.get?_push_of_some _ ?_
    exact Heap.get?_push_of_some _ e
  have hC' := kp _ _ hC
  have hx : ((h.push (kdv_tup rest)).push (excO C h.objs.size)).get? (h.objs.size + 1) = some (excO C h.objs.size) := by heap_get
  have inC : (Value.ref C :: bm).contains (.ref C) = true := by simp
  have i1 := hi.keeps kp
  have b1 := (hb (.ref (h.objs.size + 1))).keeps kp
  unfold isInstance
  repeat
    first
    | with_reducible refine wpAny_loadPart_at hx ?_
    | (with_reducible refine wpAny_isSubtype_exc hC' ?_
       rw [inC])
    | wp_step
  show wpAny _ _ (typeLookup (.ref C) _) _ _ _
  refine i1.at ?_
  refine wpAny_holding (wpAny_bind (b1.at ?_))
  refine wpAny_bind (wpAny_call (codeAny_mono hq fun r s' z => ?_))
  rcases r with e | (v | _ | _ | _) <;> first | exact z | exact z.elim | skip
  obtain ⟨rfl, z⟩ := z
  first
    | exact wpAny_pure (wpAny_pure z)
    | (wp_walk; exact z)
theorem call_kw {fI : Addr} (FB : ExcBaseFacts B newId initId bmB) (same : ∀ T : String, bm.contains (.type T) = bmB.contains (.type T)) (short : rest.length ≤ sizeLine)
    (hC : h.get? C = some (excClassObj nm q C N bs bm hdct sn sub ab col dd k0 k1 k2 k3 k5 newId))
    (hi : Looks (model prog w) h (typeLookup (.ref C) "__init__") (some (.ref fI))) (hb : ∀ self, Looks (model prog w) h (bindSpecial (.ref fI) self) (.ref fI, [self]))
    (hq : codeAny (model prog w) (A.under (.builtin "type.__call__" ⟨.ref C :: rest, kw⟩)) (.call (.ref fI) ⟨.ref (h.objs.size + 1) :: rest, kw⟩) (InitBack (h.objs.size + 1) R) ⟨(h.push (kdv_tup rest)).push (excO C h.objs.size), g, d, t, os⟩) :
    codeAny (model prog w) A (.call (.ref C) ⟨rest, kw⟩) R ⟨h, g, d, t, os⟩ := by
  have f1 := tc_lookup
  have f2 := tc_bind (.ref C)
  have isT : (⟨h, g, d, t, os⟩ : Shared).TypeIs (.ref C) "type" := ⟨_, hC, rfl⟩
  refine codeAny_of_tree ?_
  show wpAny _ _ (callAny (.ref C) _) _ _ _
  repeat
    any_goals
      first
      | assumption
      | with_reducible refine wpAny_loadPart_at hC ?_
      | wp_step
  refine ⟨rfl, ?_⟩
  refine codeAny_call_builtin_at (Code.quiet_builtin _ (by decide +kernel)) entry_typeCall ?_
  refine wpAny_check_type_call_sub hC (type_kw FB same short hC hi hb ?_)
  refine codeAny_mono hq fun r s' z => ?_
  rcases r with e | (v | _ | _ | _) <;> exact z
end
end Xc
set_option Elab.async false
set_option linter.all false
set_option maxRecDepth 100000
set_option maxHeartbeats 4000000
/-! Own exceptions as values: their making, their one field, what they are instances of. -/
namespace Xc
open PySem PySem.W
section
open Builtin Builtin.ObjectAttr PySem.HandSPX
variable {prog : Program} {w : World} {A : Around} {R : Result → Shared → Prop} {hp : Heap} {g : Array GenState} {d : Drawn} {t : Nat} {os : OsState}
/-- the first store into a fresh exception, whatever built-in class stands below -/
theorem osa_fresh {K : Frag} {name : Str} {tk : Tok} {v : Value} {x C t1 : Addr} {B : String} {bmB : List Value} (SF : StoreFacts B bmB "object.__setattr__" "object") (X : K.In hp) (hx : hp.get? x = some (excO C t1)) (ov : excOver K C bmB = true) (hn : findIn K (.ref C) name = some none) (hh : hasDictIn K C = true)
    (hq : ∀ h' tk' dx, (∀ b o, b ≠ x → hp.get? b = some o → h'.get? b = some o) → hp.objs.size ≤ dx → dx ≠ x → h'.get? x = some { cls := .ref C, dict := some dx, data := .fields #[.ref t1, .none, .none, .none, .bool false, .none] } →
      h'.Ns1 dx (fun y => if y = name then some v else none) → R (.ok (.ret .none)) ⟨h', g, d, tk', os⟩) :
    codeAny (model prog w) A (.call (.builtin "object.__setattr__") ⟨[.ref x, .str name tk, v], []⟩) R ⟨hp, g, d, t, os⟩ := by
  have ht : takerIn K C name = some none := by
    unfold takerIn
    rw [hn]
    rfl
  refine osa_openX (s := ⟨hp, g, d, t, os⟩) (od := none) SF X ⟨hx, rfl, rfl, trivial⟩ ov ht fun b => ?_
  obtain ⟨cd, hc, hd'⟩ := any_some hh
  have hxs : x ≠ hp.objs.size := Nat.ne_of_lt (Heap.lt_size hx)
  have hcls : Looks (model prog w) hp (classData C) cd := looks_clsIn X hc
  show wpAny _ _ (storeInOwnDict (.ref x) (.ref C) (.str name tk) name v b) _ _ _
  obtain ⟨nm, bs, mro, ns, qn, hd, sn, sb, ab, col, del⟩ := cd
  dsimp only at hd'
  subst hd'
  unfold storeInOwnDict ownDictForStores
  repeat
    first
    | with_reducible refine PySem.HandSPX.store_in_new ?_ ?_
    | with_reducible refine wpAny_loadPart_at hx ?_
    | with_reducible refine hcls.at ?_
    | wp_step
  · refine ⟨_, #[], _, (Heap.get?_update_ne _ _ _ _ hxs.symm).trans (Heap.get?_push_at rfl rfl), rfl, ?_, fun _ => rfl⟩
    intro e he
    simp at he
  · intro h' tk' hn' hs
    have hx1 : (hp.push { cls := .type "dict", data := .dict #[] }).get? x = some (excO C t1) := Heap.get?_push_of_some _ hx
    refine hq h' tk' hp.objs.size (fun b o hb ho => ?_) (Nat.le_refl _) hxs.symm ?_ hn'
    · refine (hs.2 b (Nat.ne_of_lt (Heap.lt_size ho))).trans ?_
      exact (Heap.get?_update_ne _ _ _ _ hb).trans (Heap.get?_push_of_some _ ho)
    · refine (hs.2 x hxs).trans ?_
      exact Heap.get?_update_self _ hx1 rfl
end
end Xc
namespace Vd
open PySem L2
/-- what the written part says of an own exception class at C whose __init__ is the def at fI and whose instances may have the field f -/
structure XcC (K : PySem.W.Frag) (C fI : Addr) (B newId initId : String) (bmB : List Value) (f : Str) : Prop where
  FB : ExcBaseFacts B newId initId bmB
  SF : StoreFacts B bmB "object.__setattr__" "object"
  q : PySem.W.excInitIn K C bmB newId = true
  ov : PySem.W.excOver K C bmB = true
  sa : PySem.W.findIn K (.ref C) "__setattr__" = some (some (.builtin "object.__setattr__"))
  ga : PySem.W.findIn K (.ref C) "__getattribute__" = some (some (.builtin "BaseException.__getattribute__"))
  gg : PySem.W.findIn K (.ref C) "__getattr__" = some none
  no : PySem.W.findIn K (.ref C) f = some none
  ini : PySem.W.findIn K (.ref C) "__init__" = some (some (.ref fI))
  tyI : PySem.W.typeIn K (.ref fI) = some (.type "function")
  kC : PySem.W.keepIn K (.ref C) = true
  ex : PySem.W.subIn K (.ref C) (.type "BaseException") = some true
  hd : PySem.W.hasDictIn K C = true
  cl : PySem.W.findIn K (.ref C) "__class__" = some (some (.builtin "object.__class__"))
  mo : PySem.W.mroIn K C (.type "object") = some true
/-- of the built-in __class__ -/
structure XcO (K : PySem.W.Frag) : Prop where
  sp : PySem.W.specialIn K (.builtin "object.__class__") "__get__" = some (some (.builtin "getset_descriptor.__get__"))
  tk : PySem.W.takesIn K (.builtin "object.__class__") = some true
theorem any_isSome {α : Type} {o : Option α} {p : α → Bool} (h : o.any p = true) : o.isSome = true := by
  cases o with
  | none => cases h
  | some a => rfl
section
variable {X : Cx} {pins : List (Addr × Obj)} {σ : L2.St} {H : Hp} {s : Shared} {a C fI dx : Addr} {f : Str} {y : V} {u : Value} {Q : Unit → Shared → Prop} {E : Value → Shared → Prop} {A : Around} {B newId initId : String} {bmB : List Value}
theorem ost_first (T : XcC X.K C fI B newId initId bmB f) (I : Inv X pins σ H s) (e : H a = some (exo a C none)) (ry : RelV y u)
    (h : ∀ dx s', H dx = none → dx ≠ a → Inv X pins σ (upd (upd H dx (exd dx [(f, y)])) a (exo a C (some dx))) s' → Q () s') : wpAny (model X.prog X.w) A (setAttr (.ref a) f u) Q E s := by
  obtain ⟨t1, ho⟩ := exo_at I.hok e
  obtain ⟨hp, g, d, t, os⟩ := s
  refine PySem.W.set_plain I.kIn (ox := PySem.HandSPX.excO C t1) (od := none) ⟨ho, rfl, rfl, trivial⟩ T.sa ?_
  refine Xc.osa_fresh T.SF I.kIn ho T.ov T.no T.hd (fun h' tk' dx k dn dne hx hn => ?_)
  have hnd : H dx = none := I.hok.fresh dn
  have nd : ∀ {b : Addr} {o : Obj}, hp.get? b = some o → b ≠ dx := fun {b o} q =>
    Nat.ne_of_lt (Nat.lt_of_lt_of_le (Heap.lt_size q) dn)
  have na : ∀ {b : Addr}, H b = none → b ≠ a := fun {b} n z => by
    subst z
    rw [e] at n
    cases n
  have U : Un X.fs [] H (upd (upd H dx (exd dx [(f, y)])) a (exo a C (some dx))) hp h' := by
    refine ⟨fun b o q n _ _ => k b o (na n) q, fun b o q n _ _ => ⟨o.slots, k b o (na n) q⟩, fun b o q n _ => ?_, fun b o q _ => ?_, fun b xs q => ?_, fun b o v q => ?_, fun b ps q => ⟨#[], ?_⟩⟩
    · rw [upd_ne (na n), upd_ne (nd q)]
      exact n
    · by_cases hb : b = a
      · subst hb
        exact ⟨_, hx⟩
      · exact ⟨o, k b o hb q⟩
    · rw [upd_ne (at_ne e q exo_tup), upd_ne (ne_of_none q hnd)]
      exact q
    · rw [upd_ne (at_ne e q exo_frz), upd_ne (ne_of_none q hnd)]
      exact q
    · rw [upd_ne (at_ne e q exo_tbl), upd_ne (ne_of_none q hnd), q]
      simp
  refine h dx _ hnd dne (I.un (t' := tk') U fun b o q => ?_)
  by_cases hb : b = a
  · subst hb
    rw [upd_same] at q
    cases q
    exact exo_ok hx
  · rw [upd_ne hb] at q
    by_cases hd : b = dx
    · subst hd
      rw [upd_same] at q
      cases q
      exact exd_ok hn (relO_put (fs := []) ry fun g => True.intro)
    · rw [upd_ne hd] at q
      refine (I.hok b o q).stay (fun c v hc z => k c v ?_ z) (fun c hc => ?_) (fun c xs hc => ?_)
      · rcases hc with hc | hc
        · rw [hc]
          exact hb
        · exact at_ne e hc exo_own
      · rw [upd_ne (at_ne e hc exo_own), upd_ne (ne_of_none hc hnd)]
        exact hc
      · rw [upd_ne (at_ne e hc exo_tup), upd_ne (ne_of_none hc hnd)]
        exact hc
end
/-- self.f = e -/
def tOsx (a0 C : Addr) (f : Str) (to te : TE) : TS := fun Dn σ H => te σ H fun y H1 => to σ H1 fun x H2 => x = .ref a0 ∧ H2 a0 = some (exo a0 C none) ∧ ∀ dx, H2 dx = none → dx ≠ a0 → Dn.nx σ (upd (upd H2 dx (exd dx [(f, y)])) a0 (exo a0 C (some dx)))
theorem ps_osx {X : Cx} {o e : Expr} {to te : TE} {a0 C fI : Addr} {f : Str} {p' pos : Pos} {B newId initId : String} {bmB : List Value} (T : XcC X.K C fI B newId initId bmB f) (ho : PE X o to) (he : PE X e te) (hs : swapsWith e (some (.Attribute o f p')) pos.line X.env = pure false := by rfl) :
    PS X (.Assign [.Attribute o f p'] e pos) (tOsx a0 C f to te) := by
  refine ⟨fun pins s σ H Dn I h => ?_⟩
  refine plainObj_wpAny_Assign_Attribute ?_ hs
  refine thn (he.run pins s σ H _ I h) fun v s1 ⟨y, H1, I1, r1, q1⟩ => ?_
  refine thn (ho.run pins s1 σ H1 _ I1 q1) fun u s2 ⟨x, H2, I2, r2, ex, ea, q⟩ => ?_
  subst ex
  obtain rfl : u = Value.ref a0 := r2
  exact ost_first T I2 ea r1 fun dx s' n ne J => ⟨σ, _, J, q dx n ne⟩
/-- what __init__ does: with a field, without -/
def spIf (C : Addr) (f : Str) : Sp := fun vs H Q _ => ∃ (a : Addr) (v : V), vs = [.ref a, v] ∧ H a = some (exo a C none) ∧ ∀ dx, H dx = none → dx ≠ a → Q .non (upd (upd H dx (exd dx [(f, v)])) a (exo a C (some dx)))
def spI0 : Sp := fun vs H Q _ => ∃ a : Addr, vs = [.ref a] ∧ Q .non H
section
variable {P : Program} {w : World} {K : PySem.W.Frag} {mg : Str → Option Value} {base : Heap}
open PySem.Spec PyProof.Rows
theorem ok_initF {st : Stmt} {qual f : Str} {C fI : Addr} {fd : FuncData} {B newId initId : String} {bmB : List Value} (Fn : Fun K "__init__" qual st fI fd) (S : FnScope ["self", f] ["self", f] (defScope st)) (T : XcC K C fI B newId initId bmB f)
    (hb : ∀ (cdv : Value) (A : Around) (outer : List Env) (s : Shared) (H : Hp) (E : XK) (a : Addr), ∃ t, PSs (cxOf CX0 P w K mg base ["self", f] qual (defScope st) fI cdv A outer s H E).nox (defBody st) t ∧ t = tOsx a C f (tVar 0) (tVar 1)) :
    FnOk P w K mg base CX0 1 fI fd ["self", f] (spIf C f) := by
  refine Fn.ok S (fun vs H Q E h => ?_) (fun cdv A outer s H vs Q E hr h => ?_)
  · obtain ⟨a, v, rfl, _⟩ := h
    rfl
  · obtain ⟨a, v, rfl, ha, k⟩ := h
    obtain ⟨t, ht, rfl⟩ := hb cdv A outer s H E a
    exact ⟨_, ht, _, rfl, _, rfl, rfl, ha, k⟩
theorem ok_init0 {st : Stmt} {qual : Str} {fI : Addr} {fd : FuncData} (Fn : Fun K "__init__" qual st fI fd) (S : FnScope ["self"] ["self"] (defScope st))
    (hb : ∀ (cdv : Value) (A : Around) (outer : List Env) (s : Shared) (H : Hp) (E : XK), PSs (cxOf CX0 P w K mg base ["self"] qual (defScope st) fI cdv A outer s H E).nox (defBody st) tNext) :
    FnOk P w K mg base CX0 1 fI fd ["self"] spI0 := by
  refine Fn.ok S (fun vs H Q E h => ?_) (fun cdv A outer s H vs Q E hr h => ?_)
  · obtain ⟨a, rfl, _⟩ := h
    rfl
  · obtain ⟨a, rfl, k⟩ := h
    exact ⟨_, hb cdv A outer s H E, k⟩
end
/-! ### the making -/
section
open PySem.Spec PyProof.Rows
variable {X : Cx} {C fI : Addr} {f : Str} {B newId initId : String} {bmB : List Value} {fd : FuncData} {ps : List Str} {sp : Sp}
/-- the class is called: us, kw as they bind -/
theorem run_exc {pins : List (Addr × Obj)} {σ : L2.St} {H1 : Hp} {s1 : Shared} {Q : VK} {us ws : List Value} {ks : List Str} {vs : List V} {k : Nat} (T : XcC X.K C fI B newId initId bmB f) (F1 : FnOk X.prog X.w X.K X.mg X.base CX0 k fI fd ps sp) (hr : Room (k + 1) X.A)
    (I1 : Inv X pins σ H1 s1) (hus : us.length ≤ sizeLine) (hb : ∀ (s : Shared) (x : Addr), X.K.In s.heap → BindsTo s fd ⟨.ref x :: us, ks.zip ws⟩ (ps.zip (.ref x :: (us ++ ws)))) (rv : Vals vs (us ++ ws))
    (h : ∀ a, H1 a = none → sp (.ref a :: vs) (upd H1 a (exo a C none)) (fun v H2 => v = .non ∧ Q (.ref a) H2) E0) :
    wpAny (model X.prog X.w) X.A (call (.ref C) us (ks.zip ws)) (EP X pins σ Q) X.xe s1 := by
  obtain ⟨hp, g, dr, tk, os⟩ := s1
  obtain ⟨nm, N', qn, bs, bm, hdct, sn, sub, ab, col, dd, k0, k1, k2, k3, k5, hC, same⟩ := PySem.W.excInit_of I1.kIn T.q
  have hsz : hp.objs.size ≤ hp.objs.size + 1 := Nat.le_succ _
  have hn : H1 (hp.objs.size + 1) = none := I1.hok.fresh hsz
  have hq := h (hp.objs.size + 1) hn
  have kk : ∀ b o, hp.get? b = some o → ((hp.push (PySem.W.kdv_tup us)).push (PySem.HandSPX.excO C hp.objs.size)).get? b = some o := fun b o e => by
    refine Heap.get?_push_of_some _ ?_
    exact Heap.get?_push_of_some _ e
  have hget : ((hp.push (PySem.W.kdv_tup us)).push (PySem.HandSPX.excO C hp.objs.size)).get? (hp.objs.size + 1) = some (PySem.HandSPX.excO C hp.objs.size) := by heap_get
  have I2 : Inv X pins σ (upd H1 (hp.objs.size + 1) (exo (hp.objs.size + 1) C none)) ⟨(hp.push (PySem.W.kdv_tup us)).push (PySem.HandSPX.excO C hp.objs.size), g, dr, tk, os⟩ := by
    refine I1.laid (t' := tk) ?_ hsz (exo_ok hget)
    exact kk
  have r2 : Vals (V.ref (hp.objs.size + 1) :: vs) (Value.ref (hp.objs.size + 1) :: (us ++ ws)) := .cons rfl rv
  refine wpAny_call (Xc.call_kw T.FB same hus hC (PySem.W.looks_findIn I1.kIn T.ini) (fun self => PySem.W.bind_fn I1.kIn self T.tyI) ?_)
  refine codeAny_mono (F1.run _ X.stack _ _ ⟨Value.ref (hp.objs.size + 1) :: us, ks.zip ws⟩ (Value.ref (hp.objs.size + 1) :: (us ++ ws)) _ _ E0 (hr.make C us (ks.zip ws)) (I2.env0.make C us (ks.zip ws)) (hb _ _ I2.kIn) r2 hq) fun r s' hq' => ?_
  cases r with
  | error e => exact (pass0 (X := X) pins σ _ _ e s' I2 hq')
  | ok fl =>
    cases fl with
    | ret u =>
      obtain ⟨v, H', I3, rv, ev, q3⟩ := I2.after hq'
      subst ev
      exact ⟨rv, ⟨V.ref (hp.objs.size + 1), H', I3, rfl, q3⟩⟩
    | next => exact False.elim hq'
    | brk => exact False.elim hq'
    | cont => exact False.elim hq'
def tXc (C : Addr) (sp : Sp) (ta : TA) : TE := fun σ H Q => ta σ H fun vs H1 => vs.length ≤ 1000 ∧ ∀ a, H1 a = none → sp (.ref a :: vs) (upd H1 a (exo a C none)) (fun v H2 => v = .non ∧ Q (.ref a) H2) E0
theorem pe_xc1 {k : Nat} {x : Str} {e : Expr} {te : TE} {p pos : Pos} (T : XcC X.K C fI B newId initId bmB f) (F1 : FnOk X.prog X.w X.K X.mg X.base CX0 k fI fd ps sp) (hr : Room (k + 1) X.A) (hb : Binds X.K fd ps []) (hl : ps.length = 2) (hg : Gl X x) (hm : X.mg x = some (.ref C)) (ha : PE X e te)
    (hdb : (x == ("__debug__" : Str)) = false := by decide) (he : starEach (e :: []) X.env = (false, eval e X.env) :: starEach [] X.env := by rfl) (hpl : (backTo pos (starEach [] X.env)).any (·.1) = false := by rfl) :
    PE X (.Call (.Name x p) [e] [] pos) (tXc C sp (tCons te tNil)) := by
  refine ⟨fun pins s σ H Q I h => ?_⟩
  refine wpAny_Call_Name_kw (ld_glob I hg hm ?_ hdb)
  refine PySem.W.callWith_K (h₀ := X.base) I.ok.mod.kin T.kC (thn ((pa_cons ha pa_nil he).run pos pins s σ H _ I h) fun us s1 ⟨vs, H1, I1, r1, hz, q1⟩ => ⟨I1.kIn, ?_⟩) he hpl
  have hl2 : ∀ a, sp (.ref a :: vs) (upd H1 a (exo a C none)) (fun v H2 => v = .non ∧ Q (.ref a) H2) E0 → us.length + 1 = ps.length := fun a z => by
    have y := F1.len _ _ _ _ z
    rw [List.length_cons, r1.length] at y
    exact y
  have hn : H1 (s1.heap.objs.size) = none := I1.hok.fresh (Nat.le_refl _)
  have hu := hl2 _ (q1 _ hn)
  refine run_exc (us := us) (ws := []) (ks := []) (vs := vs) T F1 hr I1 ?_ (fun s x X1 => ?_) (by rw [List.append_nil]; exact r1) q1
  · rw [← r1.length, sizeLine_eq]
    omega
  · have z := hb s (.ref x :: us) X1 (by rw [List.append_nil, List.length_cons]; exact hu)
    rw [List.append_nil] at z
    rw [List.append_nil]
    exact z
theorem pe_xc0 {k : Nat} {x : Str} {p pos : Pos} (T : XcC X.K C fI B newId initId bmB f) (F1 : FnOk X.prog X.w X.K X.mg X.base CX0 k fI fd ps sp) (hr : Room (k + 1) X.A) (hb : Binds X.K fd ps []) (hl : ps.length = 1) (hg : Gl X x) (hm : X.mg x = some (.ref C)) (hdb : (x == ("__debug__" : Str)) = false := by decide) :
    PE X (.Call (.Name x p) [] [] pos) (tXc C sp tNil) := by
  refine ⟨fun pins s σ H Q I h => ?_⟩
  refine wpAny_Call_Name_kw (ld_glob I hg hm ?_ hdb)
  refine PySem.W.callWith_K0 I.kIn T.kC ?_
  obtain ⟨_, q1⟩ := h
  refine run_exc (us := []) (ws := []) (ks := []) (vs := []) T F1 hr I (by show 0 ≤ sizeLine; exact Nat.zero_le _) (fun s x X1 => ?_) .nil q1
  have z := hb s [.ref x] X1 (by rw [List.append_nil, hl]; rfl)
  rw [List.append_nil] at z
  exact z
/-- one argument by its name -/
theorem pe_xck {k : Nat} {x fn : Str} {e : Expr} {p pos kp : Pos} {tk : TA} (T : XcC X.K C fI B newId initId bmB f) (F1 : FnOk X.prog X.w X.K X.mg X.base CX0 k fI fd ps sp) (hr : Room (k + 1) X.A) (hb : ∀ (s : Shared) (x : Addr) (u : Value), X.K.In s.heap → BindsTo s fd ⟨[.ref x], [(fn, u)]⟩ (ps.zip [.ref x, u]))
    (hg : Gl X x) (hm : X.mg x = some (.ref C)) (hkw : PK X [⟨some fn, e, kp⟩] tk)
    (hall : (backToKw pos (keywordEach [⟨some fn, e, kp⟩] X.env)).all (·.1.isSome) = true := by rfl) (hks : (backToKw pos (keywordEach [⟨some fn, e, kp⟩] X.env)).filterMap (·.1) = [fn] := by rfl) (hdb : (x == ("__debug__" : Str)) = false := by decide)
    (hpl : ((backTo pos (starEach [] X.env)).any (·.1) || (backToKw pos (keywordEach [⟨some fn, e, kp⟩] X.env)).any (·.1.isNone)) = false := by rfl) :
    PE X (.Call (.Name x p) [] [⟨some fn, e, kp⟩] pos) (fun σ H Q => tk σ H fun zs H2 => zs.length = 1 ∧ ∀ a, H2 a = none → sp (.ref a :: zs) (upd H2 a (exo a C none)) (fun v H3 => v = .non ∧ Q (.ref a) H3) E0) := by
  refine ⟨fun pins s σ H Q I h => ?_⟩
  refine wpAny_Call_Name_kw (ld_glob I hg hm ?_ hdb)
  refine PySem.W.callWith_KW0 (h₀ := X.base) I.ok.mod.kin T.kC hall ?_ hpl
  refine thn (hkw.run pos pins s σ H _ I h) fun ws s2 ⟨zs, H2, I2, rz, l1, q2⟩ => ⟨I2.kIn, ?_⟩
  rw [hks]
  have hw : ws.length = 1 := rz.length.symm.trans l1
  match ws, hw with
  | [u], _ => exact run_exc (us := []) (ws := [u]) (ks := [fn]) (vs := zs) T F1 hr I2 (by show 0 ≤ sizeLine; exact Nat.zero_le _) (fun s x X1 => hb s x u X1) rz q2
end
end Vd
set_option Elab.async false
set_option linter.all false
set_option maxRecDepth 100000
set_option maxHeartbeats 4000000
namespace Vd
open PySem L2
open PySem.Spec PyProof.Rows
/-! ### data as the library's own: texts of things, deep equality -/
mutual
def D.py : D → PyData
  | .non => .none
  | .bl b => .bool b
  | .int i => .int i
  | .str x => .str x
  | .lst l => .list (pyL l)
  | .rol l => .list (pyL l)
  | .tup l => .tuple (pyL l)
  | .dct _ => .none
  | .ins _ _ => .none
  | .exc _ _ => .none
  | .ob _ => .none
def pyL : List D → List PyData
  | [] => []
  | d :: l => d.py :: pyL l
end
mutual
def D.plain : D → Bool
  | .non => true
  | .bl _ => true
  | .int _ => true
  | .str _ => true
  | .lst l => plainL l
  | .rol l => plainL l
  | .tup l => plainL l
  | .dct _ => false
  | .ins _ _ => false
  | .exc _ _ => false
  | .ob _ => false
def plainL : List D → Bool
  | [] => true
  | d :: l => d.plain && plainL l
end
section
variable {K : PySem.W.Frag} {F H : Hp}
mutual
theorem Rp.dp (e : Ex F H) : ∀ {v : V} {d : D}, Rp K F v d → d.plain = true → Dp K H v d.py
  | _, _, .non, _ => .non
  | _, _, .bl b, _ => .bl b
  | _, _, .int i, _ => .int i
  | _, _, .str x, _ => .str x
  | _, _, .lst h r, p => .lst (SqL.of (e _ _ h)) (Rps.dp e r p)
  | _, _, .rol h r, p => .lst (Evl.ex_l e h) (Rps.dp e r p)
  | _, _, .tup h r, p => .tup (Evl.ex_t e h) (Rps.dp e r p)
theorem Rps.dp (e : Ex F H) : ∀ {v : List V} {d : List D}, Rps K F v d → plainL d = true → DpAll K H v (pyL d)
  | _, _, .nil, _ => .nil
  | _, _, .cons h r, p => by
    rw [plainL, Bool.and_eq_true] at p
    exact .cons (Rp.dp e h p.1) (Rps.dp e r p.2)
end
end
/-- repr(x), x plain -/
def rRpr (K : PySem.W.Frag) : List V → Hp → VK → Prop := fun xs H Q => ∃ x d, xs = [x] ∧ Dp K H x d ∧ d.showable = true ∧ d.hasDict = false ∧ d.shown.length ≤ sizeLine ∧ d.depth ≤ 64 ∧ Q (.str d.shown) H
section
variable {X : Cx}
theorem call_repr (hgd : X.A.guards = some []) (hu : X.A.units + 66 < cLine) : CallR X (.builtin "repr") (rRpr X.K) := by
  intro pins s σ H xs us Q I r h
  obtain ⟨x, d, rfl, hd, hs, hn, hz, hdp, q⟩ := h
  obtain ⟨u, rfl, r1⟩ := vals1 r
  obtain ⟨as, rd⟩ := Dp.reads I d x u hd r1
  have scal : ∀ {y : Str} {t : Tok}, y = d.shown → EP X pins σ Q (.str y t) { s with toks := s.toks + 1 } := fun {y t} e => by
    subst e
    exact ⟨.str _, H, I.tok _, ⟨_, rfl⟩, q⟩
  cases hd with
  | non =>
    cases r1
    exact PySem.P.repr_of_none (scal rfl)
  | bl b =>
    cases r1
    exact PySem.P.repr_of_bool (by cases b <;> exact scal rfl)
  | int i =>
    obtain ⟨t, rfl⟩ := r1
    exact PySem.P.repr_of_int (of_decide_eq_true hs) (scal rfl)
  | str y =>
    obtain ⟨t, rfl⟩ := r1
    exact PySem.P.repr_of_str (scal rfl) hz
  | lst h1 h2 =>
    cases r1
    exact repr_of_reads' rd hs (PyData.noDict_hsm hn) hgd (by omega) (fun _ _ e => e) (fun h' t tk hk => ⟨.str _, H, I.kept (t' := tk) hk, ⟨t, rfl⟩, q⟩) hz
  | tup h1 h2 =>
    cases r1
    exact repr_of_reads' rd hs (PyData.noDict_hsm hn) hgd (by omega) (fun _ _ e => e) (fun h' t tk hk => ⟨.str _, H, I.kept (t' := tk) hk, ⟨t, rfl⟩, q⟩) hz
end
/-- what is to be decided of data ahead of its text -/
def D.textOk (d : D) : Bool := d.plain && d.py.showable && !d.py.hasDict && decide (d.py.shown.length ≤ 100000) && decide (d.py.depth ≤ 64)
def D.eqOk (d : D) : Bool := d.plain && SeqAt.shaped d.py
section
variable {X : Cx} {B : Hp} {env : List (Option D)} {ow : Ow} {a b c e o i tg it elt : Expr} {es : List Expr} {d d1 d2 d3 : D} {ds l : List D} {pos : Pos} {Dn : Ends} {rest : List Stmt}
theorem fo_repr (hgd : X.A.guards = some []) (hu : X.A.units + 66 < cLine) (h : d.textOk = true) : BiOk X ow "repr" [d] (.str d.py.shown) := ⟨_, call_repr hgd hu, .mk fun F H xs Q w r k => by
  unfold D.textOk at h
  simp only [Bool.and_eq_true, Bool.not_eq_true', decide_eq_true_eq] at h
  obtain ⟨⟨⟨⟨h1, h2⟩, h3⟩, h4⟩, h5⟩ := h
  cases r with
  | cons r1 r2 =>
    cases r2
    exact ⟨_, d.py, rfl, r1.dp w.ex h1, h2, h3, Evl.sz_of h4, h5, k.here w (.str _)⟩⟩
theorem co_neD (hu : X.A.units + 64 < cLine) (h1 : d1.eqOk = true) (h2 : d2.eqOk = true) : CmpOk X ow .NotEq b d1 d2 (.bl (!PyData.eqv d1.py d2.py)) := ⟨_, op_neD hu, nomark _, .mk fun F H x y Q w r1 r2 k => by
  unfold D.eqOk at h1 h2
  simp only [Bool.and_eq_true] at h1 h2
  exact ⟨_, _, r1.dp w.ex h1.1, r2.dp w.ex h2.1, h1.2, h2.2, k.here w (.bl _)⟩⟩
theorem co_eqD (hu : X.A.units + 64 < cLine) (h1 : d1.eqOk = true) (h2 : d2.eqOk = true) : CmpOk X ow .Eq b d1 d2 (.bl (PyData.eqv d1.py d2.py)) := ⟨_, op_eqD hu, nomark _, .mk fun F H x y Q w r1 r2 k => by
  unfold D.eqOk at h1 h2
  simp only [Bool.and_eq_true] at h1 h2
  exact ⟨_, _, r1.dp w.ex h1.1, r2.dp w.ex h2.1, h1.2, h2.2, k.here w (.bl _)⟩⟩
theorem bo_rep {n : Int} (h : 0 ≤ n ∧ n ≤ 1000 ∧ l.length ≤ 1000) : BinOk X ow .Mult (.lst l) (.int n) (.lst (List.replicate n.toNat l).flatten) := ⟨_, op_rep, .mk fun F H x y Q w r1 r2 k => by
  cases r2
  cases r1 with
  | lst h1 s1 =>
    refine ⟨_, n, _, rfl, rfl, w.ex _ _ h1, by omega, by omega, ?_, fun p hp => k.new w hp (.lst upd_same (Rps.mono (w.exnew hp) ?_))⟩
    · rw [s1.length, sizeLine_eq]
      have z : l.length * n.toNat ≤ 1000 * 1000 := Nat.mul_le_mul h.2.2 (by omega)
      omega
    · generalize n.toNat = m
      induction m with
      | zero => exact .nil
      | succ m ih =>
        rw [List.replicate_succ, List.replicate_succ, List.flatten_cons, List.flatten_cons]
        exact s1.append ih⟩
/-! slices -/
def Vp (X : Cx) (e : Option Expr) (env : List (Option D)) (ow : Ow) (v : Option Int) : Prop := ∃ t, PO X e t ∧ ∀ (σ : L2.St) (F H : Hp) (Q : Option Int → Hp → Prop), Sl X.K F σ env → Wo X.K ow F H → (∀ F2 H2, Ex F F2 → Wo X.K ow F2 H2 → Q v H2) → t σ H Q
theorem vp_none : Vp X none env ow none := ⟨_, po_none, fun σ F H Q s w k => k F H (Evl.Ex.refl F) w⟩
theorem vp_some {n : Int} (h : Ve X e env ow (.int n)) : Vp X (some e) env ow (some n) := ⟨_, po_some pe_can, fun σ F H Q s w k => h σ F H _ s w fun F1 H1 v e1 w1 r1 => by
  cases r1
  exact ⟨n, rfl, k F1 H1 e1 w1⟩⟩
def cutD (l : List D) (lo hi : Option Int) : List D := (l.drop (HT.sIx l.length 0 lo)).take (HT.sIx l.length l.length hi - HT.sIx l.length 0 lo)
theorem Rps.cut {K : PySem.W.Frag} {F : Hp} {xs : List V} (r : Rps K F xs l) (lo hi : Option Int) : Rps K F (cutV xs lo hi) (cutD l lo hi) := by
  unfold cutV cutD
  rw [r.length]
  exact (r.drop _).take _
theorem ve_sliceL {lo hi : Option Expr} {vlo vhi : Option Int} {p2 : Pos} (h : Ve X e env ow (.lst l)) (h1 : Vp X lo env ow vlo) (h2 : Vp X hi env ow vhi) : Ve X (.Subscript e (.Slice lo hi none p2) pos) env ow (.lst (cutD l vlo vhi)) := .mk fun σ F H Q s w k => by
  obtain ⟨t1, p1, q1⟩ := h1
  obtain ⟨t2, p2, q2⟩ := h2
  refine wpe (pe_slice sl_list pe_can p1 p2) (h σ F H _ s w fun F1 H1 v e1 w1 r1 => q1 σ F1 H1 _ (s.mono e1) w1 fun F2 H2 e2 w2 => q2 σ F2 H2 _ (s.mono (e1.trans e2)) w2 fun F3 H3 e3 w3 => ?_)
  cases r1 with
  | lst g s1 => exact ⟨_, _, rfl, SqL.of (w3.ex _ _ ((e2.trans e3) _ _ g)), fun p hp => (k.ex ((e1.trans e2).trans e3)).new w3 hp (.lst upd_same (((s1.cut vlo vhi).mono (e2.trans e3)).mono (w3.exnew hp)))⟩
theorem ve_sliceR {lo hi : Option Expr} {vlo vhi : Option Int} {p2 : Pos} (h : Ve X e env ow (.rol l)) (h1 : Vp X lo env ow vlo) (h2 : Vp X hi env ow vhi) : Ve X (.Subscript e (.Slice lo hi none p2) pos) env ow (.lst (cutD l vlo vhi)) := .mk fun σ F H Q s w k => by
  obtain ⟨t1, p1, q1⟩ := h1
  obtain ⟨t2, p2, q2⟩ := h2
  refine wpe (pe_slice sl_list pe_can p1 p2) (h σ F H _ s w fun F1 H1 v e1 w1 r1 => q1 σ F1 H1 _ (s.mono e1) w1 fun F2 H2 e2 w2 => q2 σ F2 H2 _ (s.mono (e1.trans e2)) w2 fun F3 H3 e3 w3 => ?_)
  cases r1 with
  | rol g s1 => exact ⟨_, _, rfl, Evl.ex_l w3.ex (Evl.ex_l (e2.trans e3) g), fun p hp => (k.ex ((e1.trans e2).trans e3)).new w3 hp (.lst upd_same (((s1.cut vlo vhi).mono (e2.trans e3)).mono (w3.exnew hp)))⟩
theorem xo_rol {i : Int} (h : L2.atI l i = some d) : IxOk X ow (.rol l) (.int i) d := ⟨_, ix_list, .mk fun F H x y Q w r1 r2 k => by
  cases r2
  cases r1 with
  | rol h1 s1 =>
    obtain ⟨v, hv, rv⟩ := s1.atI h
    exact ⟨_, _, _, v, rfl, rfl, Evl.ex_l w.ex h1, hv, k.here w rv⟩⟩
theorem fo_lenR : BiOk X ow "len" [.rol l] (.int (l.length : Nat)) := ⟨_, call_len_seq, .mk fun F H xs Q w r k => by
  cases r with
  | cons r1 r2 =>
    cases r2
    cases r1 with
    | rol h1 s1 => exact ⟨_, _, rfl, .inl (Evl.ex_l w.ex h1), by rw [s1.length]; exact k.here w (.int _)⟩⟩
theorem fo_all {bs : List Bool} (hc : X.calm = true) : BiOk X ow "all" [.lst (bs.map D.bl)] (.bl (bs.all id)) := ⟨_, cr_all hc, rc_all⟩
/-! ### exceptions as values -/
theorem upd_comm {H : Hp} {a b : Addr} {o u : HO} (h : a ≠ b) : upd (upd H a o) b u = upd (upd H b u) a o := by
  funext x
  by_cases q : x = a
  · subst q
    rw [upd_ne h, upd_same, upd_same]
  · by_cases z : x = b
    · subst z
      rw [upd_same, upd_ne q, upd_same]
    · rw [upd_ne z, upd_ne q, upd_ne q, upd_ne z]
theorem upd_over {H : Hp} {a b : Addr} {o o' u : HO} (h : b ≠ a) : upd (upd (upd H a o) b u) a o' = upd (upd H b u) a o' := by
  rw [upd_comm (a := a) (b := b) (fun z => h z.symm), upd_upd]
variable {C fI : Addr} {f : Str} {B0 newId initId : String} {bmB : List Value} {fd : FuncData}
/-- the new exception with its field, frozen -/
theorem exc_new {K : PySem.W.Frag} {F H : Hp} {v : V} {Q : VK} {a dx : Addr} (w : Wo K ow F H) (k : Post K ow F (.exc C [(f, d)]) Q) (r : Rp K F v d) (ha : H a = none) (hdx : upd H a (exo a C none) dx = none) (hne : dx ≠ a) :
    Q (.ref a) (upd (upd (upd H a (exo a C none)) dx (exd dx [(f, v)])) a (exo a C (some dx))) := by
  have hd : H dx = none := by
    rw [upd_ne hne] at hdx
    exact hdx
  rw [upd_over hne]
  have w1 : Wo K ow (upd F dx (exd dx [(f, v)])) (upd H dx (exd dx [(f, v)])) := w.new hd
  have ha1 : upd H dx (exd dx [(f, v)]) a = none := by
    rw [upd_ne (Ne.symm hne)]
    exact ha
  have w2 : Wo K ow (upd (upd F dx (exd dx [(f, v)])) a (exo a C (some dx))) (upd (upd H dx (exd dx [(f, v)])) a (exo a C (some dx))) := w1.new ha1
  have e2 := (w.exnew (o := exd dx [(f, v)]) hd).trans (w1.exnew (o := exo a C (some dx)) ha1)
  exact k _ _ _ e2 w2 (.exc upd_same (by rw [upd_ne hne]; exact upd_same) (.cons (r.mono e2) .nil))
theorem ve_xc1 {x : Str} {p : Pos} (T : XcC X.K C fI B0 newId initId bmB f) (F1 : FnOk X.prog X.w X.K X.mg X.base CX0 1 fI fd ["self", f] (spIf C f)) (hr : Room 2 X.A) (hb : Binds X.K fd ["self", f] []) (hg : Gl X x) (hm : X.mg x = some (.ref C)) (h : Ve X e env ow d)
    (hdb : (x == ("__debug__" : Str)) = false := by decide) (he : starEach (e :: []) X.env = (false, eval e X.env) :: starEach [] X.env := by rfl) (hpl : (backTo pos (starEach [] X.env)).any (·.1) = false := by rfl) :
    Ve X (.Call (.Name x p) [e] [] pos) env ow (.exc C [(f, d)]) := .mk fun σ F H Q s w k => wpe (pe_xc1 T F1 hr hb rfl hg hm pe_can hdb he hpl) (h σ F H _ s w fun F1 H1 v e1 w1 r1 => ⟨by show 1 ≤ 1000; decide, fun a ha => ⟨a, v, rfl, upd_same, fun dx hdx hne => ⟨rfl, exc_new w1 (k.ex e1) r1 ha hdx hne⟩⟩⟩)
theorem ve_xck {x : Str} {p kp : Pos} (T : XcC X.K C fI B0 newId initId bmB f) (F1 : FnOk X.prog X.w X.K X.mg X.base CX0 1 fI fd ["self", f] (spIf C f)) (hr : Room 2 X.A) (hb : ∀ (s : Shared) (x : Addr) (u : Value), X.K.In s.heap → BindsTo s fd ⟨[.ref x], [(f, u)]⟩ ((["self", f] : List Str).zip [.ref x, u])) (hg : Gl X x) (hm : X.mg x = some (.ref C)) (h : Ve X e env ow d)
    (hall : (backToKw pos (keywordEach [⟨some f, e, kp⟩] X.env)).all (·.1.isSome) = true := by rfl) (hks : (backToKw pos (keywordEach [⟨some f, e, kp⟩] X.env)).filterMap (·.1) = [f] := by rfl) (hdb : (x == ("__debug__" : Str)) = false := by decide)
    (hpl : ((backTo pos (starEach [] X.env)).any (·.1) || (backToKw pos (keywordEach [⟨some f, e, kp⟩] X.env)).any (·.1.isNone)) = false := by rfl) (hkw : PK X [⟨some f, e, kp⟩] (tCons (WpE X e) tNil)) :
    Ve X (.Call (.Name x p) [] [⟨some f, e, kp⟩] pos) env ow (.exc C [(f, d)]) := .mk fun σ F H Q s w k => wpe (pe_xck T F1 hr hb hg hm hkw hall hks hdb hpl) (h σ F H _ s w fun F1 H1 v e1 w1 r1 => ⟨rfl, fun a ha => ⟨a, v, rfl, upd_same, fun dx hdx hne => ⟨rfl, exc_new w1 (k.ex e1) r1 ha hdx hne⟩⟩⟩)
theorem ve_xc0 {x : Str} {p : Pos} (T : XcC X.K C fI B0 newId initId bmB f) (F1 : FnOk X.prog X.w X.K X.mg X.base CX0 1 fI fd ["self"] spI0) (hr : Room 2 X.A) (hb : Binds X.K fd ["self"] []) (hg : Gl X x) (hm : X.mg x = some (.ref C)) (hdb : (x == ("__debug__" : Str)) = false := by decide) :
    Ve X (.Call (.Name x p) [] [] pos) env ow (.exc C []) := .mk fun σ F H Q s w k => wpe (pe_xc0 T F1 hr hb rfl hg hm hdb) ⟨by show 0 ≤ 1000; decide, fun a ha => ⟨a, rfl, rfl, k.new w ha (.exc0 upd_same)⟩⟩
end
/-! what an exception is an instance of -/
def rIsX (K : PySem.W.Frag) : List V → Hp → VK → Prop := fun xs H Q => ∃ (a C : Addr) (c : V) (u : Value) (b : Bool), xs = [.ref a, c] ∧ (H a = some (exo a C none) ∨ ∃ dx fs, H a = some (exo a C (some dx)) ∧ H dx = some (exd dx fs)) ∧ ClsV c u ∧
  PySem.W.findIn K (.ref C) "__getattribute__" = some (some (.builtin "BaseException.__getattribute__")) ∧ PySem.W.findIn K (.ref C) "__getattr__" = some none ∧ PySem.W.subIn K (.ref C) (.type "BaseException") = some true ∧ PySem.W.findIn K (.ref C) "__class__" = some (some (.builtin "object.__class__")) ∧
  PySem.W.mroIn K C (.type "object") = some true ∧ (PySem.W.clsIn K C).isSome = true ∧ XcO K ∧ PySem.W.kitOne K (.ref C) u = some b ∧ Q (.bl b) H
section
variable {X : Cx}
theorem exo_inst {pins : List (Addr × Obj)} {σ : L2.St} {H : Hp} {s : Shared} {a C : Addr} (I : Inv X pins σ H s) (h : H a = some (exo a C none) ∨ ∃ dx fs, H a = some (exo a C (some dx)) ∧ H dx = some (exd dx fs)) : ∃ ox od, PySem.W.InstAt s.heap a ox C od := by
  rcases h with h | ⟨dx, fs, h, h2⟩
  · obtain ⟨t1, ho⟩ := exo_at I.hok h
    exact ⟨_, none, ho, rfl, rfl, trivial⟩
  · obtain ⟨t1, ho⟩ := exo_at I.hok h
    obtain ⟨mA, ⟨o, es, ep, e1, e2⟩, _⟩ := exd_at I.hok h2
    exact ⟨_, some o, ho, rfl, rfl, e1⟩
theorem call_isx : CallR X (.builtin "isinstance") (rIsX X.K) := by
  intro pins s σ H xs us Q I r h
  obtain ⟨a, C, c, u, b, rfl, hx, kc, g1, g2, g3, g4, g5, g6, O, e, q⟩ := h
  obtain ⟨u1, u2, rfl, r1, r2⟩ := vals2 r
  have e2 := kc.eq r2
  subst e2
  obtain rfl : u1 = Value.ref a := r1
  obtain ⟨ox, od, J⟩ := exo_inst I hx
  refine PySem.W.kia_one (PySem.W.kitx_exc g6 g1 g2 g3 g4 O.sp O.tk g5) I.kIn J e (fun z => nomatch z) fun tk => ?_
  exact ⟨.bl b, H, I.tok tk, rfl, q⟩
end
section
variable {X : Cx} {B : Hp} {env : List (Option D)} {ow : Ow} {a b c e o i tg it elt : Expr} {es : List Expr} {d d1 d2 d3 : D} {ds l : List D} {pos : Pos} {Dn : Ends} {rest : List Stmt}
variable {C fI : Addr} {f : Str} {B0 newId initId : String} {bmB : List Value}
theorem Rp.exo {K : PySem.W.Frag} {F H : Hp} {v : V} {fl : List (Str × D)} (r : Rp K F v (.exc C fl)) (e : Ex F H) : ∃ a, v = .ref a ∧ (H a = some (exo a C none) ∨ ∃ dx fs, H a = some (L2.exo a C (some dx)) ∧ H dx = some (exd dx fs)) := by
  cases r with
  | exc0 h => exact ⟨_, rfl, .inl (e _ _ h)⟩
  | exc h1 h2 r => exact ⟨_, rfl, .inr ⟨_, _, e _ _ h1, e _ _ h2⟩⟩
theorem fo_isx {fl : List (Str × D)} {cv : V} {u : Value} {t : Bool} (T : XcC X.K C fI B0 newId initId bmB f) (O : XcO X.K) (hc : ClsV cv u) (h : PySem.W.kitOne X.K (.ref C) u = some t) : BiOk X ow "isinstance" [.exc C fl, .ob cv] (.bl t) := ⟨_, call_isx, .mk fun F H xs Q w r k => by
  cases r with
  | cons r1 r2 =>
    cases r2 with
    | cons r3 r4 =>
      cases r4
      cases r3
      obtain ⟨a, rfl, ha⟩ := r1.exo w.ex
      exact ⟨a, C, cv, u, t, rfl, ha, hc, T.ga, T.gg, T.ex, T.cl, T.mo, any_isSome T.hd, O, h, k.here w (.bl _)⟩⟩
/-- a class, a built-in type as values -/
theorem ve_gobj {x : Str} {C : Addr} (hg : Gl X x) (hm : X.mg x = some (.ref C)) (hx : (x == ("__debug__" : Str)) = false := by decide) : Ve X (.Name x pos) env ow (.ob (.ref C)) := ve_glob (v := .ref C) hg hm rfl (fun _ => .ob _) hx
theorem ve_bty {x : Str} {n : String} (hg : Gl X x) (hm : X.mg x = none) (hv : bootBuiltins x = some (.type n)) (hn : x ≠ "__name__" := by decide) (hx : (x == ("__debug__" : Str)) = false := by decide) : Ve X (.Name x pos) env ow (.ob (.ty n)) := .mk fun σ F H Q s w k => wpe (pe_bltn (v := .ty n) hg hm hv rfl hn hx) (k.here w (.ob _))
/-- e.f of an exception -/
def tFx (K : PySem.W.Frag) (C : Addr) (f : Str) (te : TE) : TE := fun σ H Q => te σ H fun x H1 => ∃ a dx fs v, x = .ref a ∧ H1 a = some (exo a C (some dx)) ∧ H1 dx = some (exd dx fs) ∧ fs.lookup f = some v ∧ Q v H1
theorem pe_fx {te : TE} (T : XcC X.K C fI B0 newId initId bmB f) (he : PE X e te) (hb : attributeBase e f X.env (eval e X.env) = eval e X.env := by rfl) : PE X (.Attribute e f pos) (tFx X.K C f te) := by
  refine ⟨fun pins s σ H Q I h => ?_⟩
  refine attr_of hb ?_
  refine thn (he.run pins s σ H _ I h) fun u s1 ⟨x, H1, I1, rx, a, dx, fs, v, ex, ha, hd, hl, q⟩ => ?_
  subst ex
  obtain rfl : u = Value.ref a := rx
  obtain ⟨t1, ho⟩ := exo_at I1.hok ha
  obtain ⟨mA, hns, rel⟩ := exd_at I1.hok hd
  obtain ⟨od, hod, hlk⟩ := lookIn_ns hns
  obtain ⟨u', hu, ru⟩ := RelO.some_of (v := v) (o := mA f) (by rw [← hl]; exact rel f)
  have J : PySem.W.InstAt s1.heap a { cls := .ref C, dict := some dx, data := .fields #[.ref t1, .none, .none, .none, .bool false, .none] } C (some od) := ⟨ho, rfl, rfl, hod⟩
  refine HandSPX.exc_get I1.kIn J T.ga T.gg T.ex (PySem.W.findObj_own T.hd T.no rfl (by rw [hlk, hu])) (handed_of ru) ?_
  exact ⟨v, H1, I1.tok _, ru, q⟩
theorem ve_fx {fl : List (Str × D)} (T : XcC X.K C fI B0 newId initId bmB f) (h : Ve X e env ow (.exc C fl)) (hl : fl.lookup f = some d) (hb : attributeBase e f X.env (eval e X.env) = eval e X.env := by rfl) : Ve X (.Attribute e f pos) env ow d := .mk fun σ F H Q s w k => wpe (pe_fx T pe_can hb) (h σ F H _ s w fun F1 H1 v e1 w1 r1 => by
  cases r1 with
  | exc0 g => simp at hl
  | exc g1 g2 r2 =>
    obtain ⟨y, hy, ry⟩ := r2.look hl
    exact ⟨_, _, _, y, rfl, w1.ex _ _ g1, w1.ex _ _ g2, hy, (k.ex e1).here w1 ry⟩)
end
end Vd
set_option Elab.async false
set_option linter.all false
set_option maxRecDepth 100000
set_option maxHeartbeats 4000000
/-! The law's own call, from a promise that knows no text of a container to be under way. -/
namespace Vd
open PySem L2
open PySem.Spec PyProof.Rows
section
variable {P : Program} {w : World} {K : PySem.W.Frag} {mg mb : Str → Option Value} {k : Nat} {fa a : Addr} {fd : FuncData} {x : Str} {sp : Sp} {s1 : Shared} {vs : List Value} {ns : List Int}
theorem law_core {H : Hp} (KX : K.In s1.heap) (hns : s1.heap.Ns mainGlobals mg) (hb : s1.heap.Ns builtinsNs mb) (hbb : ∀ x : Str, x ≠ "__name__" → mb x = bootBuiltins x) (hlim : s1.heap.NoLimit) (hg : s1.gens = #[])
    (ha : s1.heap.get? a = some { cls := .type "list", data := .seq vs.toArray }) (hr : Room k callerA) (F : ∀ base : Heap, K.In base → base.Ns mainGlobals mg → FnG gd0 P w K mg base CX0 k fa fd [x] sp) (hbind : ∀ (s : Shared) (u : Value), BindsTo s fd ⟨[u], []⟩ [(x, u)])
    (hsp : sp [.ref a] H (fun v _ => v = .bl true) E0) (hO : Only H) (hok : HOk P w H s1.heap) (hA : ∀ b u, H b = some u → b = a) (hK : ∀ u, H a = some u → K.lookup a = none) :
    codeAny (model P w) callerA (.call (.ref fa) ⟨[.ref a], []⟩) (fun r s' => r = .ok (.ret (.bool true)) ∧ OldK s1.heap s'.heap ∧ s'.os = s1.os ∧ AllBare s'.gens) s1 := by
  -- what is no list of the script's kind is not tracked
  have notDict : ∀ {b : Addr} {o : Obj} {es : Array DictEntry} {ep : Nat}, s1.heap.get? b = some o → o.data = .dict es ep → H b = none := fun {b o es ep} e q => by
    cases z : H b with
    | none => rfl
    | some u =>
      obtain rfl := hA b u z
      rw [ha] at e
      cases e
      cases q
  have keepNs : ∀ {b : Addr} {m : Str → Option Value}, s1.heap.Ns b m → (hidT s1.heap H).Ns b m := fun {b m} h => by
    obtain ⟨o, es, ep, e, q, r⟩ := h
    exact ⟨o, es, ep, hidT_get e (notDict e q), q, r⟩
  have inB : K.In (hidT s1.heap H) := fun b o e => hidT_get (KX b o e) (by
    cases z : H b with
    | none => rfl
    | some u =>
      obtain rfl := hA b u z
      rw [hK u z] at e
      cases e)
  have M : Mod K mg (hidT s1.heap H) := by
    obtain ⟨mc, l1, l2⟩ := hlim
    exact ⟨inB, keepNs hns, ⟨mb, keepNs hb, hbb⟩, ⟨mc, keepNs l1, l2⟩⟩
  have env : Env0 P w K mg (hidT s1.heap H) callerA [] s1 H := by
    refine ⟨rfl, M, fun b o e => of_hidT e, ?_, trivial, fun b z => ?_, hok, .of_eq hg⟩
    · rw [hidT_size]
      exact Nat.le_refl _
    · exact absurd (show b ∈ ([] : List Addr) from z) List.not_mem_nil
  have run := (F _ inB (keepNs hns)).run callerA [] s1 H ⟨[.ref a], []⟩ [.ref a] [.ref a] _ _ rfl hr env (hbind s1 (.ref a)) (.cons rfl .nil) hsp
  refine codeAny_mono run fun r s' h => ?_
  match r, h with
  | .ok (.ret u), h =>
    obtain ⟨v, H', os, bare, un, hok', rv, q⟩ := h
    have q' : v = .bl true := q
    subst q'
    obtain rfl : u = Value.bool true := rv
    refine ⟨rfl, OldK.of_keep fun b o e => ?_, os, bare⟩
    cases z : H b with
    | none => exact un.keep b o e z (fun y => absurd (show b ∈ ([] : List Addr) from y) List.not_mem_nil) List.not_mem_nil
    | some u =>
      rcases hO b with y | ⟨ob, xs, y⟩
      · rw [z] at y
        cases y
      · obtain ⟨e1, _⟩ := hok b _ y
        obtain ⟨e2, _⟩ := hok' b _ (un.frzs b ob _ y)
        rw [e] at e1
        cases e1
        exact e2
  | .error e, h => exact h.elim
theorem law_callG (KX : K.In s1.heap) (hns : s1.heap.Ns mainGlobals mg) (hb : s1.heap.Ns builtinsNs mb) (hbb : ∀ x : Str, x ≠ "__name__" → mb x = bootBuiltins x) (hlim : s1.heap.NoLimit) (hg : s1.gens = #[])
    (ha : s1.heap.get? a = some { cls := .type "list", data := .seq vs.toArray }) (hi : IntsAre vs ns) (hl : ns.length ≤ sizeLine) (hr : Room k callerA) (F : ∀ base : Heap, K.In base → base.Ns mainGlobals mg → FnG gd0 P w K mg base CX0 k fa fd [x] sp) (hbind : ∀ (s : Shared) (u : Value), BindsTo s fd ⟨[u], []⟩ [(x, u)])
    (hsp : ∀ H : Hp, Only H → SqL K H a (ns.map V.int) → sp [.ref a] H (fun v _ => v = .bl true) E0) :
    codeAny (model P w) callerA (.call (.ref fa) ⟨[.ref a], []⟩) (fun r s' => r = .ok (.ret (.bool true)) ∧ OldK s1.heap s'.heap ∧ s'.os = s1.os ∧ AllBare s'.gens) s1 := by
  have rv := vals_ints hi
  have len := hi.length
  cases hk : K.lookup a with
  | some o =>
    have e := KX a o hk
    rw [ha] at e
    cases e
    have hS : SqL K (fun _ => none) a (ns.map V.int) := .inr ⟨_, vs.toArray, _, hk, rfl, rfl, rfl, by rw [List.size_toArray, len]; exact hl, by simpa using rv⟩
    refine law_core (H := fun _ => none) KX hns hb hbb hlim hg ha hr F hbind (hsp _ (fun _ => .inl rfl) hS) (fun _ => .inl rfl) (fun b u z => ?_) (fun b u z => ?_) (fun u z => ?_)
    · exact absurd (show (none : Option HO) = some u from z) (fun y => nomatch y)
    · exact absurd (show (none : Option HO) = some u from z) (fun y => nomatch y)
    · exact absurd (show (none : Option HO) = some u from z) (fun y => nomatch y)
  | none =>
    have at_ : (upd (fun _ => none) a (.frz { cls := .type "list", data := .seq vs.toArray } (.lst (ns.map V.int)))) a = some (.frz { cls := .type "list", data := .seq vs.toArray } (.lst (ns.map V.int))) := upd_same
    have off : ∀ b u, (upd (fun _ => none) a (.frz { cls := .type "list", data := .seq vs.toArray } (.lst (ns.map V.int)))) b = some u → b = a := fun b u z => by
      by_cases y : b = a
      · exact y
      · rw [upd_ne y] at z
        cases z
    have hO : Only (upd (fun _ => none) a (.frz { cls := .type "list", data := .seq vs.toArray } (.lst (ns.map V.int)))) := fun b => by
      by_cases y : b = a
      · subst y
        exact .inr ⟨_, _, at_⟩
      · exact .inl (upd_ne y)
    refine law_core KX hns hb hbb hlim hg ha hr F hbind (hsp _ hO (.inl (.inr ⟨_, at_⟩))) hO (fun b u z => ?_) off (fun u z => hk)
    obtain rfl := off b u z
    rw [at_] at z
    cases z
    exact ⟨ha, by rw [List.length_map]; exact hl, vs, _, rv, ha⟩
end
/-- what a law promises: handed a list of at most 63 integers, it gives True -/
def spLaw (K : PySem.W.Frag) : Sp := fun vs H Q _ => ∃ (F : Hp) (a : Addr) (ns : List Int), vs = [.ref a] ∧ Wo K (fun _ => none) F H ∧ SqL K F a (ns.map V.int) ∧ ns.length ≤ 63 ∧ ∀ H', Q (.bl true) H'
theorem walkG {l : PySem.W.OpenLaw} {k : Nat} {q : Program} {loose : List Str} {XP : (Str → Option Value) → Heap → Prop} {YP : World → Heap → Prop} {d : DefRec} {K : Params → PySem.W.Frag} {x : Str}
    (hn : l.most = some 63) (hdf : d.params.defaults = []) (hr : Room k callerA) (hY : ∀ (w : World) (h : Heap), YP w h → (K w.params).In h)
    (F : ∀ (w : World) (mg : Str → Option Value) (fa : Addr) (h : Heap), (K w.params).In h → h.Ns mainGlobals mg → mg d.name = some (.ref fa) →
      ∃ fd : FuncData, (∀ (s : Shared) (u : Value), BindsTo s fd ⟨[u], []⟩ [(x, u)]) ∧ ∀ base : Heap, (K w.params).In base → base.Ns mainGlobals mg → FnG gd0 l.prog w (K w.params) mg base CX0 k fa fd [x] (spLaw (K w.params))) :
    PySem.W.WalkO q loose XP YP l.row.toRowW d [] (fun f vs => PySem.call f vs) := by
  refine Att.attach_call hn hdf fun w s0 s1 mg mb fa o pm cd doc a vs ns G Y ho hd hcd hmg hobj hints hlen hg => ?_
  have KX := hY w _ Y
  obtain ⟨fd, hb, hF⟩ := F w mg fa _ KX G.T.g hmg
  refine law_callG KX G.T.g G.T.b G.T.builtins G.T.nolimit hg hobj hints (Nat.le_trans hlen (by decide)) hr hF hb fun H hO hS => ?_
  exact ⟨H, a, ns, rfl, ⟨Evl.Ex.refl H, fun b u z => nomatch z⟩, hS, hlen, fun _ => rfl⟩
end Vd
set_option Elab.async false
set_option linter.all false
set_option maxRecDepth 100000
set_option maxHeartbeats 4000000
namespace Vd
open PySem L2
open PySem.Spec PyProof.Rows
section
variable {X : Cx} {B : Hp} {env : List (Option D)} {ow : Ow} {a b c e o i tg it elt : Expr} {es : List Expr} {d d1 d2 d3 : D} {ds l m : List D} {pos : Pos} {Dn : Ends} {rest : List Stmt}
/-- x = a + b of lists, the sum owned -/
theorem rn_setCat {x : Str} {p bp : Pos} {j : Nat} (hN : X.N.Nodup) (hi : X.N[j]? = some x) (hx : Loc X.env.scope x) (h1 : Ve X a env ow (.lst l)) (h2 : Ve X b env ow (.lst m)) (hl : l.length + m.length ≤ 100000) (k : ∀ B' q, Ex B B' → ow q = none → Rn X B' rest Dn (env.set j (some (.ob (.ref q)))) (ou ow q (.lst (l ++ m))))
    (hs : swapsWith (.BinOp a .Add b bp) (some (.Name x p)) pos.line X.env = pure false := by rfl) (hf : X.fn x = true ∨ X.env.scope.names.lookup x = some .local := by first | exact .inl rfl | exact .inr rfl | assumption) : Rn X B (.Assign [.Name x p] (.BinOp a .Add b bp) pos :: rest) Dn env ow :=
  rn_one ⟨_, ps_set hN hi hx (pe_op op_cat pe_can pe_can) hs hf, fun σ F H eB s w => h1 σ F H _ s w fun F1 H1 v1 e1 w1 r1 => h2 σ F1 H1 _ (s.mono e1) w1 fun F2 H2 v2 e2 w2 r2 => by
    cases r1 with
    | lst g1 s1 =>
      cases r2 with
      | lst g2 s2 =>
        refine ⟨_, _, _, _, rfl, rfl, w2.ex _ _ (e2 _ _ g1), w2.ex _ _ g2, Evl.sz_of (by rw [s1.length, s2.length]; exact hl), fun q hq => ?_⟩
        exact k F2 q (eB.trans (e1.trans e2)) (w2.ofree hq) _ F2 _ (Evl.Ex.refl F2) ((s.mono (e1.trans e2)).set (.ob _) j) (w2.newL hq ((s1.mono e2).append s2))⟩
theorem env_ext {α : Type} {l l' : List α} (h : l = l') {P : List α → Prop} (p : P l') : P l := h ▸ p
/-- a comprehension without a test, its result told item by item -/
theorem ve_lcZ {scope : Scope} {j : Nat} {y : Str} {py : Pos} (res : List D) (hlen : res.length = ds.length) (hc : X.calm = true) (hN : X.N.Nodup) (hi : Vi X (.Name y py) it env ow ds) (ok : BlkOk X.N X.env.scope scope [(y, j)]) (hl : ds.length ≤ 100000)
    (hg : ∀ (s : Shared) (H : Hp) (C : Addr) (cl : List (Str × Addr)) (fp : List Addr), PG (X.blk s H scope (compEnvC scope cl C X.env) fp) (.Name y py) (gName j))
    (he : ∀ (n : Nat) (d r : D) (ow' : Ow), ds[n]? = some d → res[n]? = some r → Sub ow ow' → ∀ (s : Shared) (H : Hp) (C : Addr) (cl : List (Str × Addr)) (fp : List Addr), Ve (X.blk s H scope (compEnvC scope cl C X.env) fp) elt ((env.set j none).set j (some d)) ow' r)
    (hsf : ∀ x, foldedSetIterable it X.env x = pure x := by intro _; rfl) : Ve X (.ListComp elt [⟨.Name y py, it, [], 0⟩] scope pos) env ow (.lst res) := .mk fun σ F H Q s w k0 => by
  obtain ⟨wi, pi, hw⟩ := hi
  refine wpe (pe_lc (own := [(y, j)]) (g := gName j) (tt := tYes) (te := fun σ H Q => ∀ (s : Shared) (H0 : Hp) (C : Addr) (cl : List (Str × Addr)) (fp : List Addr), WpE (X.blk s H0 scope (compEnvC scope cl C X.env) fp) elt σ H Q) hc hN pi ok hg
    (fun s0 H0 C cl fp => pts_nil) (fun s0 H0 C cl fp => ⟨fun pins s σ H Q I h => h s0 H0 C cl fp pins s I⟩) hsf) ?_
  refine hw σ F H _ s w fun J F1 H1 e1 w1 src => ?_
  intro Dl hD
  refine ⟨fun i m H => m = ds.length - i ∧ i ≤ ds.length ∧ ∃ F2 xs, Ex F1 F2 ∧ Wo X.K ow F2 H ∧ F2 Dl = none ∧ ow Dl = none ∧ H Dl = some (.lst xs) ∧ Rps X.K F2 xs (res.take i), ⟨ds.length, by simp, Nat.zero_le _, F1, [], Evl.Ex.refl F1, w1.grow hD, w1.free hD, w1.ofree hD, upd_same, .nil⟩, ?_⟩
  rintro i m H2 ⟨rfl, hi, F2, xs, e2, w2, hF2, hoD, hH2, r2⟩
  by_cases hlt : i < ds.length
  · have hdi : ds[i]? = some ds[i] := by simp [hlt]
    have hlr : i < res.length := by rw [hlen]; exact hlt
    have hri : res[i]? = some res[i] := by simp [hlr]
    have htk : res.take (i + 1) = res.take i ++ [res[i]] := by rw [List.take_add_one, hri]; rfl
    have w2' : Wo X.K (ou ow Dl (.lst (res.take i))) F2 H2 := ⟨w2.ex, fun a o q => by
      by_cases z : a = Dl
      · subst z
        rw [ou_same] at q
        cases q
        exact ⟨hF2, xs, hH2, r2⟩
      · rw [ou_ne z] at q
        exact w2.own a o q⟩
    obtain ⟨stop', go'⟩ := src F2 H2 _ i e2 w2'
    obtain ⟨hgo, hy'⟩ := go' ds[i] hdi
    refine .inr ⟨hgo, fun H3 => ∃ F3 xs, Ex F1 F3 ∧ Wo X.K ow F3 H3 ∧ F3 Dl = none ∧ ow Dl = none ∧ H3 Dl = some (.lst xs) ∧ Rps X.K F3 xs (res.take (i + 1)), fun H3 q => ⟨ds.length - (i + 1), by omega, rfl, hlt, q⟩, fun x H3 hx => ?_⟩
    obtain ⟨F3, e3, w3', r3⟩ := hy' x H3 hx
    have sub : Sub ow (ou ow Dl (.lst (res.take i))) := fun a o q => by
      rw [ou_ne (fun z => by rw [z, hoD] at q; cases q)]
      exact q
    have sl : Sl X.K F3 ((L2.wipe σ [j]).set j (some x)) ((env.set j none).set j (some ds[i])) := (((s.mono (e1.trans (e2.trans e3))).unset j).set r3 j)
    refine ⟨wipe_one, ?_⟩
    unfold tYes
    simp only [if_true]
    intro s1 H01 C1 cl1 fp1
    refine he i ds[i] res[i] _ hdi hri sub s1 H01 C1 cl1 fp1 _ F3 H3 _ sl w3' fun F5 H5 y e5 w5 r5 => ?_
    obtain ⟨n5, ys, h5, s5⟩ := w5.own Dl _ ou_same
    refine ⟨ys, h5, ?_, F5, ys ++ [y], e2.trans (e3.trans e5), ?_, n5, hoD, upd_same, ?_⟩
    · have z := s5.length
      rw [List.length_take] at z
      exact Evl.sz_lt (by omega)
    · exact (w5.setL ou_same (s5.append (.cons r5 .nil))).drop fun a o q => by
        rw [ou_ne (fun z => by rw [z, hoD] at q; cases q)]
        exact sub a o q
    · rw [htk]
      exact s5.append (.cons r5 .nil)
  · have e : i = ds.length := by omega
    subst e
    obtain ⟨stop, _⟩ := src F2 H2 ow ds.length e2 w2
    refine .inl ⟨stop (Nat.le_refl _), ?_⟩
    rw [← hlen, List.take_length] at r2
    exact k0 (upd F2 Dl (.lst xs)) H2 _ ((e1.trans e2).trans (Evl.Ex.new hF2)) (w2.freeze hF2 hH2 hoD) (.lst upd_same (r2.mono (Evl.Ex.new hF2)))
/-! the same data compared -/
mutual
theorem py_plain : ∀ d : D, d.plain = true → d.py.plain = true
  | .non, _ => rfl
  | .bl _, _ => rfl
  | .int _, _ => rfl
  | .str _, _ => rfl
  | .lst l, h => pyL_plain l h
  | .rol l, h => pyL_plain l h
  | .tup l, h => pyL_plain l h
theorem pyL_plain : ∀ l : List D, plainL l = true → PyData.plainAll (pyL l) = true
  | [], _ => rfl
  | d :: l, h => by
    rw [plainL, Bool.and_eq_true] at h
    show (d.py.plain && PyData.plainAll (pyL l)) = true
    rw [py_plain d h.1, pyL_plain l h.2]
    rfl
end
theorem eqv_self {d : D} (h : d.eqOk = true) : PyData.eqv d.py d.py = true := by
  unfold D.eqOk at h
  rw [Bool.and_eq_true] at h
  exact PySem.SeqAt.eqv_refl_plain _ (py_plain d h.1)
theorem co_neR (hu : X.A.units + 64 < cLine) (h : d.eqOk = true) : CmpOk X ow .NotEq b d d (.bl false) := by
  have z := co_neD (b := b) (ow := ow) hu h h
  rw [eqv_self h] at z
  exact z
theorem co_eqR (hu : X.A.units + 64 < cLine) (h : d.eqOk = true) : CmpOk X ow .Eq b d d (.bl true) := by
  have z := co_eqD (b := b) (ow := ow) hu h h
  rw [eqv_self h] at z
  exact z
theorem bo_to {op : Operator} (h : BinOk X ow op d1 d2 d) (q : d = d3) : BinOk X ow op d1 d2 d3 := q ▸ h
theorem co_to {op : CmpOp} (h : CmpOk X ow op b d1 d2 d) (q : d = d3) : CmpOk X ow op b d1 d2 d3 := q ▸ h
theorem co_neSR {x : Str} : CmpOk X ow .NotEq b (.str x) (.str x) (.bl false) := co_to co_neS (by simp)
/-! dicts written out: {} and {'..': n} -/
theorem ve_dict0 : Ve X (.Dict [] [] pos) env ow (.dct []) := .mk fun σ F H Q s w k => wpe pe_dnewK fun q hq => k.new w hq (.dct upd_same .nil)
end
/-! ### the cup of a law -/
section
variable {K : PySem.W.Frag}
def spCup (K : PySem.W.Frag) : Sp := fun vs H Q _ => ∃ (F : Hp) (ow : Ow) (v : V) (ns : List Int) (n : Nat), vs = [v, .int n] ∧ Wo K ow F H ∧ Rp K F v (.rol (ns.map D.int)) ∧ ∀ F' H' q x y, Ex F F' → ow q = none → Wo K (ou ow q (.lst [.int x, .int y])) F' H' → 0 ≤ x → 0 ≤ y → Q (.ref q) H'
variable {X : Cx} {env : List (Option D)} {ow : Ow} {es1 : Expr} {e1 e2 : Expr} {pos pos2 p p2 : Pos} {x1 x2 : Str} {f1 f2 : Addr} {fd1 fd2 : FuncData} {ps1 ps2 : List Str} {k1 k2 : Nat} {ns : List Int} {n : Nat}
/-- right(cup(script, spot)) -/
theorem ve_right {G : List D → Prop} {R : List D → D → Prop} {d : D} (F2 : FnG γ X.prog X.w X.K X.mg X.base CX0 k2 f2 fd2 ps2 (spC X.K G R)) (F1 : FnG γ X.prog X.w X.K X.mg X.base CX0 k1 f1 fd1 ps1 (spCup X.K)) (hgd : γ X.A.guards) (hr1 : Room k1 X.A) (hr2 : Room k2 X.A) (hg1 : Gl X x1) (hg2 : Gl X x2) (hm1 : X.mg x1 = some (.ref f1)) (hm2 : X.mg x2 = some (.ref f2))
    (hk1 : PySem.W.keepIn X.K (.ref f1) = true) (hk2 : PySem.W.keepIn X.K (.ref f2) = true) (hb1 : Binds X.K fd1 ps1 []) (hb2 : Binds X.K fd2 ps2 []) (h1 : Ve X e1 env ow (.rol (ns.map D.int))) (h2 : Ve X e2 env ow (.int n)) (hG : G []) (hR : ∀ d', R [] d' → d' = d)
    (hd1 : (x1 == ("__debug__" : Str)) = false := by decide) (hd2 : (x2 == ("__debug__" : Str)) = false := by decide) (st1 : starEach (e1 :: [e2]) X.env = (false, eval e1 X.env) :: starEach [e2] X.env := by rfl) (st1' : starEach (e2 :: []) X.env = (false, eval e2 X.env) :: starEach [] X.env := by rfl)
    (pl1 : (backTo pos (starEach [e2] X.env)).any (·.1) = false := by rfl) (st2 : starEach (Expr.Call (.Name x1 p) [e1, e2] [] pos :: []) X.env = (false, eval (.Call (.Name x1 p) [e1, e2] [] pos) X.env) :: starEach [] X.env := by rfl) (pl2 : (backTo pos2 (starEach [] X.env)).any (·.1) = false := by rfl) :
    Ve X (.Call (.Name x2 p2) [.Call (.Name x1 p) [e1, e2] [] pos] [] pos2) env ow d := .mk fun σ F H Q s w k => by
  refine wpe (pe_callG F2 hgd hr2 hg2 hm2 hk2 hb2 .nil pass0 (pa_cons (pe_callG F1 hgd hr1 hg1 hm1 hk1 hb1 .nil pass0 (pa_cons pe_can (pa_cons pe_can pa_nil st1') st1) hd1 st1 pl1) pa_nil st2) hd2 st2 pl2) ?_
  refine h1 σ F H _ s w fun Fa Ha v e1 w1 r1 => h2 σ Fa Ha _ (s.mono e1) w1 fun Fb Hb u e2 w2 r2 => ?_
  cases r2
  refine ⟨Fb, ow, v, ns, n, rfl, w2, r1.mono e2, fun Fc Hc q x y e3 hq w3 hx hy => ?_⟩
  refine ⟨Fc, ou ow q (.lst [.int x, .int y]), q, [], [], rfl, w3, ⟨x, y, hx, hy, ou_same⟩, .nil, hG, fun Fd Hd ow2 z d' e4 w4 s4 c4 r4 hd => ?_⟩
  obtain rfl := hR d' hd
  refine k Fd Hd z (((e1.trans e2).trans e3).trans e4) (w4.drop fun b o hb => ?_) r4
  have hbq : b ≠ q := fun y => by
    rw [y, hq] at hb
    cases hb
  exact s4 b o hbq (by rw [ou_ne hbq]; exact hb)
end
end Vd
set_option Elab.async false
set_option linter.all false
set_option maxRecDepth 100000
set_option maxHeartbeats 4000000
/-! Dicts of texts and integers as things: their making, their texts. -/
namespace Vd
open PySem L2
open PySem.Spec PyProof.Rows
def dkV (l : List (Str × Int)) : List (Key × V) := l.map fun p => (Sum.inr p.1, V.int p.2)
def dkD (l : List (Str × Int)) : List (Key × D) := l.map fun p => (Sum.inr p.1, D.int p.2)
def dkP (l : List (Str × Int)) : List (PyData × PyData) := l.map fun p => (.str p.1, .int p.2)
theorem rpk_V {K : PySem.W.Frag} {F : Hp} : ∀ {l : List (Str × Int)} {kvs : List (Key × V)}, Rpk K F kvs (dkD l) → kvs = dkV l
  | [], _, .nil => rfl
  | (x, i) :: l, _, .cons (.int _) r => by
    rw [rpk_V (l := l) r]
    rfl
theorem pairs_reads {P : Program} {w : World} {h : Heap} : ∀ {l : List (Str × Int)} {es : List DictEntry} {vs : List (Key × Value)}, KV (dkV l) vs → Pairs (mixKind P w) es vs →
    ReadsAll h (es.map (·.key)) ((dkP l).map (·.1)) [] ∧ ReadsAll h (es.map (·.val)) ((dkP l).map (·.2)) []
  | [], _, _, r, q => by
    cases r
    cases q
    exact ⟨.nil, .nil⟩
  | (x, i) :: l, _, _, r, q => by
    cases r with
    | @cons _ kv _ _ h1 h2 =>
      cases q with
      | @cons e _ es _ k v q =>
        obtain ⟨z1, z2⟩ := pairs_reads (h := h) h2 q
        obtain ⟨g1, g2⟩ := h1
        obtain ⟨t, ht⟩ : ∃ t, kv.2 = .int i t := g2
        have kk : keyIs kv.1 e.key = true := k
        rw [← g1] at kk
        rcases keyIs_shape kk with ⟨j, u, e1, e2⟩ | ⟨y, u, e1, e2⟩
        · cases e1
        · cases e1
          constructor
          · show ReadsAll h (e.key :: es.map (·.key)) (PyData.str x :: (dkP l).map (·.1)) ([] ++ [])
            rw [e2]
            exact .cons (.str x u) z1
          · show ReadsAll h (e.val :: es.map (·.val)) (PyData.int i :: (dkP l).map (·.2)) ([] ++ [])
            rw [v, ht]
            exact .cons (.int i t) z2
def rRpk : List V → Hp → VK → Prop := fun xs H Q => ∃ a l, xs = [.ref a] ∧ H a = some (.dK (dkV l)) ∧ (PyData.dict (dkP l)).showable = true ∧ (PyData.dict (dkP l)).shown.length ≤ sizeLine ∧ (PyData.dict (dkP l)).depth ≤ 64 ∧ Q (.str (PyData.dict (dkP l)).shown) H
theorem call_reprK {X : Cx} (hgd : X.A.guards = some []) (hu : X.A.units + 66 < cLine) : CallR X (.builtin "repr") rRpk := by
  intro pins s σ H xs us Q I r h
  obtain ⟨a, l, rfl, ha, hs, hz, hdp, q⟩ := h
  obtain ⟨u, rfl, r1⟩ := vals1 r
  obtain rfl : u = Value.ref a := r1
  obtain ⟨_, hsys, vs, kv, o, es, ep, ho, ex, hd, _, pr, _⟩ := dk_of I.hok ha
  obtain ⟨z1, z2⟩ := pairs_reads (h := s.heap) kv pr
  have rd : Reads s.heap (.ref a) (.dict (dkP l)) (a :: [] ++ []) := .dict ho ex.1 hd z1 z2
  refine repr_of_reads' rd hs (fun _ hm => ?_) hgd (by omega) (fun _ _ e => e) (fun h' t tk hk => ⟨.str _, H, I.kept (t' := tk) hk, ⟨t, rfl⟩, q⟩) hz
  have : sysModules = a := by simpa using hm
  rw [this] at hsys
  simp at hsys
def dictOk (l : List (Str × Int)) : Bool := (PyData.dict (dkP l)).showable && decide ((PyData.dict (dkP l)).shown.length ≤ 100000) && decide ((PyData.dict (dkP l)).depth ≤ 64)
section
variable {X : Cx} {B : Hp} {env : List (Option D)} {ow : Ow} {pos p1 p2 : Pos} {k1 k2 : Nat} {x : Str} {i : Int} {l : List (Str × Int)} {d : D}
theorem fo_reprK (hgd : X.A.guards = some []) (hu : X.A.units + 66 < cLine) (h : dictOk l = true) : BiOk X ow "repr" [.dct (dkD l)] (.str (PyData.dict (dkP l)).shown) := ⟨_, call_reprK hgd hu, .mk fun F H xs Q w r k => by
  unfold dictOk at h
  simp only [Bool.and_eq_true, decide_eq_true_eq] at h
  cases r with
  | cons r1 r2 =>
    cases r2
    cases r1 with
    | dct g s1 =>
      have e := rpk_V s1
      subst e
      exact ⟨_, l, rfl, w.ex _ _ g, h.1.1, Evl.sz_of h.1.2, h.2, k.here w (.str _)⟩⟩
theorem ve_dict1 {i : Int} : Ve X (.Dict [some (.Constant (.str x) k1 p1)] [.Constant (.int i) k2 p2] pos) env ow (.dct (dkD [(x, i)])) := .mk fun σ F H Q s w k => wpe (pe_disp (pps_cons pe_str pe_int pps_nil) rfl rfl (by simp) (by simp)) fun p hp =>
  ⟨upd_same, [(Sum.inr x, .int i)], rfl, by simp, by
    rw [upd_upd]
    exact k.new w hp (.dct upd_same (.cons (.int i) .nil))⟩
/-- a thing whose text is known -/
def TextOf (d : D) (t : Str) : Prop := ∀ (X : Cx) (ow : Ow), X.A.guards = some [] → X.A.units + 66 < cLine → BiOk X ow "repr" [d] (.str t)
theorem text_plain (h : d.textOk = true) : TextOf d d.py.shown := fun X ow a b => fo_repr a b h
theorem text_dict (h : dictOk l = true) : TextOf (.dct (dkD l)) (PyData.dict (dkP l)).shown := fun X ow a b => fo_reprK a b h
end
end Vd
set_option Elab.async false
set_option linter.all false
set_option maxRecDepth 100000
set_option maxHeartbeats 4000000
/-! What kind of thing a datum is: isinstance with built-in types. -/
namespace Vd
open PySem L2
open PySem.Spec PyProof.Rows
def D.kind : D → Option String
  | .non => some "NoneType"
  | .bl _ => some "bool"
  | .int _ => some "int"
  | .str _ => some "str"
  | .lst _ => some "list"
  | .rol _ => some "list"
  | .tup _ => some "tuple"
  | .dct _ => some "dict"
  | .ins _ _ => none
  | .exc _ _ => none
  | .ob _ => none
theorem SqL.ty {K : PySem.W.Frag} {H : Hp} {a : Addr} {xs : List V} (h : SqL K H a xs) : TyX K H (.ref a) (.type "list") := by
  rcases h with (h | ⟨o, h⟩) | ⟨o, vs, n, h, c, _⟩
  · exact .base (.lst h)
  · exact .base (.frz h)
  · exact .kList h c
theorem SqT.ty {K : PySem.W.Frag} {H : Hp} {a : Addr} {xs : List V} (h : SqT K H a xs) : TyX K H (.ref a) (.type "tuple") := by
  rcases h with (h | ⟨o, h⟩) | ⟨o, vs, n, h, c, _⟩
  · exact .base (.tup h)
  · exact .fTuple h
  · exact .kTuple h c
theorem Rp.ty {K : PySem.W.Frag} {F H : Hp} {v : V} {d : D} {t : String} (r : Rp K F v d) (e : Ex F H) (h : d.kind = some t) : TyX K H v (.type t) := by
  cases r with
  | non => cases h; exact .base .non
  | bl b => cases h; exact .base (.bl b)
  | int i => cases h; exact .base (.int i)
  | str x => cases h; exact .base (.str x)
  | lst g _ => cases h; exact .base (.lst (e _ _ g))
  | rol g _ => cases h; exact SqL.ty (Evl.ex_l e g)
  | tup g _ => cases h; exact SqT.ty (Evl.ex_t e g)
  | dct g _ => cases h; exact .base (.dK (e _ _ g))
  | ins _ _ => cases h
  | exc0 _ => cases h
  | exc _ _ _ => cases h
  | ob _ => cases h
section
variable {X : Cx} {env : List (Option D)} {ow : Ow} {d : D} {t u : String} {b : Bool}
theorem fo_isT (hk : d.kind = some t) (h : kitB t u = some b) : BiOk X ow "isinstance" [d, .ob (.ty u)] (.bl b) := ⟨_, call_isi, .mk fun F H xs Q w r k => by
  cases r with
  | cons r1 r2 =>
    cases r2 with
    | cons r3 r4 =>
      cases r4
      cases r3
      exact ⟨_, .ty u, _, _, b, rfl, .ty u, r1.ty w.ex hk, kit_ty h, k.here w (.bl _)⟩⟩
end
/-- an integer of the document: an int other than True and False -/
def D.isInt : D → Bool
  | .int _ => true
  | _ => false
def D.anInt : D → Bool
  | .int _ => true
  | .bl _ => true
  | _ => false
def D.aBool : D → Bool
  | .bl _ => true
  | _ => false
theorem fo_isInt {X : Cx} {ow : Ow} : ∀ {d : D} (hk : d.kind.isSome = true), BiOk X ow "isinstance" [d, .ob (.ty "int")] (.bl d.anInt)
  | .non , _ => fo_isT (b := false) rfl (by decide +kernel)
  | .bl _, _ => fo_isT (b := true) rfl (by decide +kernel)
  | .int _, _ => fo_isT (b := true) rfl (by decide +kernel)
  | .str _, _ => fo_isT (b := false) rfl (by decide +kernel)
  | .lst _, _ => fo_isT (b := false) rfl (by decide +kernel)
  | .rol _, _ => fo_isT (b := false) rfl (by decide +kernel)
  | .tup _, _ => fo_isT (b := false) rfl (by decide +kernel)
  | .dct _, _ => fo_isT (b := false) rfl (by decide +kernel)
  | .ins _ _, hk => nomatch hk
  | .exc _ _, hk => nomatch hk
  | .ob _, hk => nomatch hk
theorem fo_isBool {X : Cx} {ow : Ow} : ∀ {d : D} (hk : d.kind.isSome = true), BiOk X ow "isinstance" [d, .ob (.ty "bool")] (.bl d.aBool)
  | .non , _ => fo_isT (b := false) rfl (by decide +kernel)
  | .bl _, _ => fo_isT (b := true) rfl (by decide +kernel)
  | .int _, _ => fo_isT (b := false) rfl (by decide +kernel)
  | .str _, _ => fo_isT (b := false) rfl (by decide +kernel)
  | .lst _, _ => fo_isT (b := false) rfl (by decide +kernel)
  | .rol _, _ => fo_isT (b := false) rfl (by decide +kernel)
  | .tup _, _ => fo_isT (b := false) rfl (by decide +kernel)
  | .dct _, _ => fo_isT (b := false) rfl (by decide +kernel)
  | .ins _ _, hk => nomatch hk
  | .exc _ _, hk => nomatch hk
  | .ob _, hk => nomatch hk
theorem fo_isTup {X : Cx} {ow : Ow} {l : List D} : BiOk X ow "isinstance" [.tup l, .ob (.ty "tuple")] (.bl true) := fo_isT rfl (by decide +kernel)
end Vd
set_option Elab.async false
set_option linter.all false
set_option maxRecDepth 100000
set_option maxHeartbeats 4000000
/-! enumerate over a tuple. -/
namespace Vd
open PySem L2
open PySem.Spec PyProof.Rows
set_option maxHeartbeats 8000000 in
theorem enum_made {v : Value} {o : Obj} {Z : Heap → Prop} (B : Begins v o Z) :
    Meets (Builtin.«enumerate.__new__» ⟨[.type "enumerate", v], []⟩) (fun _ R s => Z s.heap ∧
      R (.ok (.ret (.ref (s.heap.push o).objs.size))) { s with heap := Heap.push (s.heap.push o) { cls := .type "enumerate", data := .fields #[.none, .bool false, .ref s.heap.objs.size, rawInt 0, .none, .none] } }) :=
  .of_wp fun P w A R s hyp => by
    obtain ⟨hp, gn, dr, tok, osv⟩ := s
    obtain ⟨z1, z2⟩ := hyp
    have below := sub_enumerate
    have step : ∀ {A2 : Around} {E2 : Value → Shared → Prop} {Q2 : Value → Shared → Prop}, Q2 (.ref hp.objs.size) ⟨hp.push o, gn, dr, tok, osv⟩ → wpAny (model P w) A2 (pyIter v) Q2 E2 ⟨hp, gn, dr, tok, osv⟩ :=
      fun z => B.iter P w _ _ ⟨hp, gn, dr, tok, osv⟩ _ z1 z
    wp_walk using step
    refine wpAny_stack_any fun stk => wpAny_pure ?_
    split
    · rename_i c _ _ _ _ _
      cases (c == Value.type "enumerate") <;> (wp_walk using step; exact ⟨_, rfl, z2⟩)
    · (wp_walk using step; exact ⟨_, rfl, z2⟩)
section
variable {P : Program} {w : World} {A : Around} {E : Value → Shared → Prop} {s : Shared}
theorem enum_call {v : Value} {o : Obj} {Z : Heap → Prop} {Q : Value → Shared → Prop} (B : Begins v o Z) (z : Z s.heap)
    (k : ∀ h', IsEnum h' (s.heap.objs.size + 1) s.heap.objs.size 0 .none → h'.get? s.heap.objs.size = some o → (∀ b ob, s.heap.get? b = some ob → h'.get? b = some ob) → Q (.ref (s.heap.objs.size + 1)) { s with heap := h' }) :
    wpAny (model P w) A (call (.type "enumerate") [v]) Q E s := by
  refine callType_new F.called_enumerate (by decide) (F.typeCall_enumerate_1 _) (F.newCall_enumerate_1 _) (fun obj => F.args_object_init_2 obj _) F.entry_enumerate_new (enum_made B) ⟨z, ?_⟩
  have size1 : Array.size (Heap.objs (s.heap.push o)) = s.heap.objs.size + 1 := Heap.size_push ..
  show _ ∧ _
  rw [size1]
  have ie : IsEnum (Heap.push (s.heap.push o) { cls := .type "enumerate", data := .fields #[.none, .bool false, .ref s.heap.objs.size, rawInt 0, .none, .none] }) (s.heap.objs.size + 1) s.heap.objs.size 0 .none := by
    have y := Heap.get?_push_size (s.heap.push o) (o := { cls := .type "enumerate", data := .fields #[.none, .bool false, .ref s.heap.objs.size, rawInt 0, .none, .none] }) rfl
    rw [size1] at y
    exact y
  exact ⟨⟨_, ie, rfl⟩, k _ ie (Heap.get?_push_of_some _ (Heap.get?_push_size _ B.free)) fun b ob x => Heap.get?_push_of_some _ (Heap.get?_push_of_some _ x)⟩
end
/-- an iterator that has come to the end -/
theorem over {P : Program} {w : World} {A : Around} (hh : A.handled = none) (it t : Addr) (hne : t ≠ it) (items : Array Value) (n : Nat) (out : items[n]? = none) :
    Draws P w A it [it, t] n (fun _ _ => False) (fun j h => j = n ∧ h.IsTupleIter it t j ∧ h.IsTuple t items) where
  live := fun _ _ st => let ⟨o, ho, _⟩ := st.2.1; ⟨o, ho⟩
  frame := fun _ _ _ st hk => ⟨st.1, st.2.1.at fun o e => hk it (by simp) o e, st.2.2.at fun o e => hk t (by simp) o e⟩
  item := fun i s Q E hi st _ => absurd st.1 (by omega)
  done := fun s Q E st hE => wpAny_nextOf_tuple_end hh st.2.1 st.2.2 out hE
/-- the tuple at a, its items in new pairs -/
def IteT (K : PySem.W.Frag) (a : Addr) : It :=
  ⟨fun i H => ∃ (xs : List V) (x : V), SqT K H a xs ∧ xs[i]? = some x, fun i H v H' => ∃ T x, v = .ref T ∧ H T = none ∧ H' = upd H T (.tup [.int (i : Nat), x]) ∧ ∀ xs, SqT K H a xs → xs[i]? = some x, fun i H => ∃ xs : List V, SqT K H a xs ∧ xs.length ≤ i⟩
theorem turn_enumT {P : Program} {w : World} {K : PySem.W.Frag} {elts : List Expr} {kk : Nat} {tpos : Pos} (a e it : Addr) :
    L2.Turn P w K (.Tuple elts kk tpos) (IteT K a) [e, it] e (fun i h => (∃ old, IsEnum h e it ((i : Nat) : Int) old) ∧ h.IsTupleIter it a i ∧ e ≠ it ∧ a ≠ it ∧ a ≠ e) where
  mem := by simp
  obj := fun i h st b hb => by
    obtain ⟨⟨old, ie⟩, ⟨o, ho, hc, hd⟩, _⟩ := st
    rcases (show b = e ∨ b = it by simpa using hb) with z | z
    · subst z
      exact ⟨_, ie, fun v q => nomatch q⟩
    · subst z
      exact ⟨o, ho, fun v q => by rw [hd] at q; cases q⟩
  keep := fun i h h' st k => by
    obtain ⟨⟨old, ie⟩, ti, ne⟩ := st
    exact ⟨⟨old, k e (by simp) _ ie⟩, ti.at fun o q => k it (by simp) o q, ne⟩
  item := by
    intro X hP hw hK hc i pins s σ H E I hf st hg
    subst hP
    subst hw
    subst hK
    obtain ⟨⟨old, ie⟩, ti, ne, na, nae⟩ := st
    obtain ⟨xs, x, hq, hx⟩ := hg
    obtain ⟨its, rv, p, hz⟩ := I.tuple hq
    obtain ⟨u, hu, ru⟩ := rv.get hx
    have le : e < s.heap.objs.size := Heap.lt_size ie
    have li : it < s.heap.objs.size := by
      obtain ⟨_, q, _⟩ := ti
      exact Heap.lt_size q
    have isT : s.heap.IsTuple a its.toArray := p
    have lt : i < its.toArray.size := by
      have z := (List.getElem?_eq_some_iff.mp hu).1
      simpa using z
    refine wpAny_pyNext_enum_itemD (Draws.tuple (by exact I.ok.hd hc) it a na its.toArray) ie ⟨ti, isT⟩ lt ne (by simp [ne, Ne.symm nae]) fun u2 h' tk hP ho st' hT hsz hk => ?_
    obtain rfl : u2 = u := by
      have z : its.toArray[i]? = some u := by simpa using hu
      rw [z] at hP
      exact (Option.some.inj hP).symm
    obtain ⟨ti', _⟩ := st'
    refine ⟨_, rfl, wpAny_letOwnedTupleGo_enum (s := { s with heap := h', toks := tk + 1 }) ho fun h2 ie2 sb => ?_⟩
    have hT2 : h2.get? s.heap.objs.size = some { cls := .type "tuple", data := .seq #[.int i tk, u2] } := (sb.2 _ (Nat.ne_of_gt le)).trans hT
    have new : ObjOk X.prog X.w (upd H s.heap.objs.size (.tup [.int (i : Nat), x])) h2 s.heap.objs.size (.tup [.int (i : Nat), x]) :=
      ⟨by show 2 ≤ sizeLine; decide, [.int i tk, u2], .cons ⟨_, rfl⟩ (.cons ru .nil), ⟨_, hT2, rfl, _, rfl⟩⟩
    have J : Inv X pins σ (upd H s.heap.objs.size (.tup [.int (i : Nat), x])) { s with heap := h2, toks := tk + 1 } := by
      refine I.turnedNew (ch := [e, it]) (fun b ob hb q => ?_) hf (Nat.le_refl _) new
      have n1 : b ≠ e := fun z => hb (by simp [z])
      have n2 : b ≠ it := fun z => hb (by simp [z])
      exact (sb.2 b n1).trans (hk b ob n1 n2 q)
    refine ⟨.ref s.heap.objs.size, _, J, rfl, ⟨_, x, rfl, I.hok.fresh (Nat.le_refl _), rfl, fun ys hy => by rw [I.tuple_inj hy hq]; exact hx⟩, ⟨⟨u2, ?_⟩, ti'.at fun o q => (sb.2 it (Ne.symm ne)).trans q, ne, na, nae⟩, fun b hb => ?_⟩
    · have one : (i : Int) + 1 = ((i + 1 : Nat) : Int) := by omega
      rw [← one]
      exact ie2
    · have lb : b < s.heap.objs.size := by
        rcases (show b = e ∨ b = it by simpa using hb) with z | z <;> (rw [z]; assumption)
      rw [upd_ne (Nat.ne_of_lt lb)]
      exact (hf b hb).1
  done := by
    intro X hP hw hK hc i pins s σ H E I hf st hg
    subst hP
    subst hw
    subst hK
    obtain ⟨⟨old, ie⟩, ti, ne, na, nae⟩ := st
    obtain ⟨xs, hq, hx⟩ := hg
    obtain ⟨its, rv, p, hz⟩ := I.tuple hq
    obtain ⟨f0, f1, f2, f3, f4, f5⟩ := hf it (by simp)
    have hl := rv.length
    have isT : s.heap.IsTuple a its.toArray := p
    have out : its.toArray[i]? = none := by
      have z : its[i]? = none := List.getElem?_eq_none_iff.mpr (by omega)
      simpa using z
    have D := over (P := X.prog) (w := X.w) (A := X.A.in1) (by exact I.ok.hd hc) it a na its.toArray i out
    exact wpAny_pyNext_enum_endD D ie ⟨rfl, ti, isT⟩ fun h' eb => ⟨rfl, I.turned (t' := s.toks) (fun b o hb q => eb b o hb q) f0 f1 f3 f4 f5⟩
  self := fun A i s Q E st h => by
    obtain ⟨⟨old, ie⟩, _⟩ := st
    exact wpAny_pyIter_enum ie h
def iEnumT (K : PySem.W.Frag) (ta : TA) : TI := fun σ H R => ta σ H fun vs H1 => ∃ a xs, vs = [.ref a] ∧ SqT K H1 a xs ∧ R (IteT K a) H1
theorem pi_enumT {X : Cx} {e : Expr} {ta : TA} {p pos tpos : Pos} {elts : List Expr} {kk : Nat} (hg : Gl X "enumerate") (hm : X.mg "enumerate" = none) (ha : PA X [e] ta) (hs : starEach [e] X.env = [(false, eval e X.env)] := by rfl) :
    PI X (.Tuple elts kk tpos) (.Call (.Name "enumerate" p) [e] [] pos) (iEnumT X.K ta) := by
  refine ⟨fun pins s σ H R I h => Call_ (ld_blt I hg hm boot_enumerate (PyProof.Rows.callWith_type1 (thn (ha.run pos pins s σ H _ I h) fun us s1 ⟨vs, H1, I1, r1, q1⟩ => ?_) hs rfl))⟩
  obtain ⟨a, xs, rfl, hq, q⟩ := q1
  cases r1 with
  | cons r rr =>
    cases rr
    cases r
    obtain ⟨its, rv, p', hz⟩ := I1.tuple hq
    have isT : s1.heap.IsTuple a its.toArray := p'
    have la : a < s1.heap.objs.size := by
      obtain ⟨o, ho, _⟩ := isT
      exact Heap.lt_size ho
    refine enum_call (begins_tuple a its.toArray) isT fun h' ie hit hk => wpAny_pyIter_enum ie ?_
    have J : Inv X pins σ H1 { s1 with heap := h' } := I1.kept (t' := s1.toks) hk
    refine ⟨s1.heap.objs.size + 1, [s1.heap.objs.size + 1, s1.heap.objs.size], _, _, H1, rfl, J, turn_enumT a (s1.heap.objs.size + 1) s1.heap.objs.size, ⟨⟨.none, ie⟩, ⟨_, hit, rfl, rfl⟩, Nat.succ_ne_self _, Nat.ne_of_lt la, Nat.ne_of_lt (Nat.lt_succ_of_lt la)⟩, fun b hb => ?_, q⟩
    have ge : s1.heap.objs.size ≤ b := by
      rcases (show b = s1.heap.objs.size + 1 ∨ b = s1.heap.objs.size by simpa using hb) with z | z
      · rw [z]
        exact Nat.le_succ _
      · rw [z]
        exact Nat.le_refl _
    exact I1.fpOk ge (I1.hok.fresh ge)
theorem src_enumT {K : PySem.W.Frag} {F1 : Hp} {a : Addr} {xs : List V} {ds : List D} (h : SqT K F1 a xs) (r : Rps K F1 xs ds) : Src K (IteT K a) F1 (enumD 0 ds) := fun F H ow i e w => by
  have hq : SqT K H a xs := Evl.ex_t w.ex (Evl.ex_t e h)
  refine ⟨fun hl => ⟨xs, hq, by rw [enumD_len] at hl; rw [r.length]; exact hl⟩, fun d hd => ?_⟩
  obtain ⟨d2, hd2, rfl⟩ := enumD_get hd
  obtain ⟨y, h1, h2⟩ := r.get hd2
  refine ⟨⟨xs, y, hq, h1⟩, fun v H' hy => ?_⟩
  obtain ⟨T, x, rfl, hT, rfl, hy⟩ := hy
  have z := hy xs hq
  rw [h1] at z
  cases z
  refine ⟨_, w.exnew hT, w.new hT, .tup (SqT.of upd_same) (.cons ?_ (.cons ((h2.mono e).mono (w.exnew hT)) .nil))⟩
  rw [Nat.zero_add]
  exact .int _
theorem vi_enumT {X : Cx} {env : List (Option D)} {ow : Ow} {a : Expr} {ds : List D} {pos p tpos : Pos} {elts : List Expr} {kk : Nat} (hg : Gl X "enumerate") (hm : X.mg "enumerate" = none) (h : Ve X a env ow (.tup ds)) (hs : starEach [a] X.env = [(false, eval a X.env)] := by rfl) :
    Vi X (.Tuple elts kk tpos) (.Call (.Name "enumerate" p) [a] [] pos) env ow (enumD 0 ds) :=
  ⟨_, pi_enumT hg hm pa_can hs, fun σ F H R s w k => va_cons h va_nil hs σ F H _ s w fun F1 H1 vs e1 w1 r1 => by
    cases r1 with
    | cons r2 r3 =>
      cases r3
      cases r2 with
      | tup h1 s1 => exact ⟨_, _, rfl, Evl.ex_t w1.ex h1, k _ F1 H1 e1 w1 (src_enumT h1 s1)⟩⟩
/-! chained comparisons -/
theorem ve_chain {X : Cx} {env : List (Option D)} {ow : Ow} {a b c : Expr} {op op2 : CmpOp} {d1 d2 d3 d : D} {t : Bool} {pos : Pos} {r r2 : R2} (ho : OpR X (compareOp op) r) (ho2 : OpR X (compareOp op2) r2) (ha : Ve X a env ow d1) (hb : Ve X b env ow d2) (hr : RD X.K ow r d1 d2 (.bl t))
    (hf : t = false → d = .bl false) (hc : t = true → Ve X c env ow d3) (hr2 : t = true → RD X.K ow r2 d2 d3 d) (hm : lastMarks [op, op2] [b, c] = false := by rfl) : Ve X (.Compare a [op, op2] [b, c] pos) env ow d := .mk fun σ F H Q s w k =>
  wpe (pe_chain ho ho2 pe_can pe_can pe_can (hm := hm)) (ha σ F H _ s w fun F1 H1 x e1 w1 r1 => hb σ F1 H1 _ (s.mono e1) w1 fun F2 H2 y e2 w2 r2' => hr F2 H2 x y _ w2 (r1.mono e2) r2' fun F3 H3 z e3 w3 r3 => by
    cases r3
    refine ⟨t, rfl, ?_⟩
    cases t with
    | true =>
      rw [if_pos rfl]
      exact hc rfl σ F3 H3 _ (s.mono (e1.trans (e2.trans e3))) w3 fun F4 H4 u e4 w4 r4 => hr2 rfl F4 H4 y u Q w4 (r2'.mono (e3.trans e4)) r4 (k.ex (e1.trans (e2.trans (e3.trans e4))))
    | false =>
      rw [if_neg Bool.false_ne_true]
      obtain rfl := hf rfl
      exact k.ex (e1.trans (e2.trans e3)) |>.here w3 (.bl false))
theorem ve_between {X : Cx} {env : List (Option D)} {ow : Ow} {a b c : Expr} {lo i hi : Int} {pos : Pos} (ha : Ve X a env ow (.int lo)) (hb : Ve X b env ow (.int i)) (hc : Ve X c env ow (.int hi)) : Ve X (.Compare a [.LtE, .LtE] [b, c] pos) env ow (.bl (decide (lo ≤ i ∧ i ≤ hi))) :=
  ve_chain (t := decide (lo ≤ i)) op_le op_le ha hb rd_le (fun h => by
    have z := of_decide_eq_false h
    rw [decide_eq_false (fun y => z y.1)]) (fun _ => hc) (fun h => by
    have z := of_decide_eq_true h
    have e : decide (lo ≤ i ∧ i ≤ hi) = decide (i ≤ hi) := by simp [z]
    rw [e]
    exact rd_le) (nomark _)
end Vd
set_option Elab.async false
set_option linter.all false
set_option maxRecDepth 100000
set_option maxHeartbeats 4000000
/-! Slices of tuples, list(..), tuple(..), rows of integers compared; promises that tell a result by a property. -/
namespace Vd
open PySem L2
open PySem.Spec PyProof.Rows
section
variable {X : Cx} {B : Hp} {env : List (Option D)} {ow : Ow} {a b c e o i : Expr} {es : List Expr} {d d1 d2 d3 : D} {ds l m : List D} {pos : Pos} {Dn : Ends} {rest : List Stmt}
theorem ve_sliceT {lo hi : Option Expr} {vlo vhi : Option Int} {p2 : Pos} (h : Ve X e env ow (.tup l)) (h1 : Vp X lo env ow vlo) (h2 : Vp X hi env ow vhi) : Ve X (.Subscript e (.Slice lo hi none p2) pos) env ow (.tup (cutD l vlo vhi)) := .mk fun σ F H Q s w k => by
  obtain ⟨t1, p1, q1⟩ := h1
  obtain ⟨t2, p2, q2⟩ := h2
  refine wpe (pe_slice sl_tupA pe_can p1 p2) (h σ F H _ s w fun F1 H1 v e1 w1 r1 => q1 σ F1 H1 _ (s.mono e1) w1 fun F2 H2 e2 w2 => q2 σ F2 H2 _ (s.mono (e1.trans e2)) w2 fun F3 H3 e3 w3 => ?_)
  cases r1 with
  | @tup a xs _ g s1 =>
    have g3 : SqT X.K F3 a xs := Evl.ex_t (e2.trans e3) g
    refine ⟨_, _, rfl, Evl.ex_t w3.ex g3, fun full => ?_, fun _ p hp => (k.ex ((e1.trans e2).trans e3)).new w3 hp (.tup (SqT.of upd_same) (((s1.cut vlo vhi).mono (e2.trans e3)).mono (w3.exnew hp)))⟩
    have z : cutD l vlo vhi = l := by
      unfold Vd.cutD
      rw [← s1.length, full.1, full.2, List.drop_zero, Nat.sub_zero, s1.length, List.take_length]
    exact (k.ex ((e1.trans e2).trans e3)).here w3 (.tup g3 (by rw [z]; exact s1.mono (e2.trans e3)))
theorem to_listT : TyOk X ow "list" [.tup l] (.lst l) := ⟨_, call_list_of, .mk fun F H xs Q w r k => by
  cases r with
  | cons r1 r2 =>
    cases r2
    cases r1 with
    | tup g s1 => exact ⟨_, _, rfl, .inr (Evl.ex_t w.ex g), fun p hp => k.new w hp (.lst upd_same (s1.mono (w.exnew hp)))⟩⟩
theorem to_listL : TyOk X ow "list" [.lst l] (.lst l) := ⟨_, call_list_of, .mk fun F H xs Q w r k => by
  cases r with
  | cons r1 r2 =>
    cases r2
    cases r1 with
    | lst g s1 => exact ⟨_, _, rfl, .inl (SqL.of (w.ex _ _ g)), fun p hp => k.new w hp (.lst upd_same (s1.mono (w.exnew hp)))⟩⟩
theorem to_tupL : TyOk X ow "tuple" [.lst l] (.tup l) := ⟨_, call_tuple_of, .mk fun F H xs Q w r k => by
  cases r with
  | cons r1 r2 =>
    cases r2
    cases r1 with
    | lst g s1 => exact ⟨_, _, rfl, .inl ⟨SqL.of (w.ex _ _ g), fun p hp => k.new w hp (.tup (SqT.of upd_same) (s1.mono (w.exnew hp)))⟩⟩⟩
theorem to_tupT : TyOk X ow "tuple" [.tup l] (.tup l) := ⟨_, call_tuple_of, .mk fun F H xs Q w r k => by
  cases r with
  | cons r1 r2 =>
    cases r2
    cases r1 with
    | tup g s1 => exact ⟨_, _, rfl, .inr ⟨Evl.ex_t w.ex g, k.here w (.tup g s1)⟩⟩⟩
end
/-! rows of integers -/
theorem pyL_ints : ∀ l : List Int, pyL (l.map D.int) = l.map PyData.int
  | [] => rfl
  | i :: l => by rw [List.map_cons, pyL, pyL_ints l]; rfl
theorem plainL_ints : ∀ l : List Int, plainL (l.map D.int) = true
  | [] => rfl
  | i :: l => by rw [List.map_cons, plainL, plainL_ints l]; rfl
theorem lay_ints : ∀ l : List Int, PyData.canLayAll0 (l.map PyData.int) = true
  | [] => rfl
  | i :: l => by rw [List.map_cons, PyData.canLayAll0, lay_ints l]; rfl
theorem depth_ints : ∀ l : List Int, PyData.depthAll (l.map PyData.int) ≤ 1
  | [] => by simp [PyData.depthAll]
  | i :: l => by
    have := depth_ints l
    simp only [List.map_cons, PyData.depthAll, PyData.depth]
    omega
theorem eqOk_ints (l : List Int) : (D.lst (l.map D.int)).eqOk = true := by
  unfold D.eqOk SeqAt.shaped
  have z := depth_ints l
  have y := lay_ints l
  simp only [D.plain, plainL_ints, D.py, pyL_ints, PyData.canLay0, y, PyData.depth, Bool.true_and, decide_eq_true_eq]
  omega
theorem eqOk_intsT (l : List Int) : (D.tup (l.map D.int)).eqOk = true := by
  unfold D.eqOk SeqAt.shaped
  have z := depth_ints l
  have y := lay_ints l
  simp only [D.plain, plainL_ints, D.py, pyL_ints, PyData.canLay0, y, PyData.depth, Bool.true_and, decide_eq_true_eq]
  omega
theorem eqvAll_ints : ∀ l m : List Int, PyData.eqvAll (l.map PyData.int) (m.map PyData.int) = decide (l = m)
  | [], [] => rfl
  | [], _ :: _ => rfl
  | _ :: _, [] => rfl
  | i :: l, j :: m => by
    rw [List.map_cons, List.map_cons, PyData.eqvAll, eqvAll_ints l m, PyData.eqv]
    by_cases h : i = j <;> by_cases q : l = m <;> simp [h, q]
theorem co_eqIL {X : Cx} {ow : Ow} {b : Expr} {l m : List Int} (hu : X.A.units + 64 < cLine) : CmpOk X ow .Eq b (.lst (l.map D.int)) (.lst (m.map D.int)) (.bl (decide (l = m))) := co_to (co_eqD hu (eqOk_ints l) (eqOk_ints m)) (by
  simp only [D.py, pyL_ints, PyData.eqv, eqvAll_ints])
theorem co_eqIT {X : Cx} {ow : Ow} {b : Expr} {l m : List Int} (hu : X.A.units + 64 < cLine) : CmpOk X ow .Eq b (.tup (l.map D.int)) (.tup (m.map D.int)) (.bl (decide (l = m))) := co_to (co_eqD hu (eqOk_intsT l) (eqOk_intsT m)) (by
  simp only [D.py, pyL_ints, PyData.eqv, eqvAll_ints])
/-! a result told by a property -/
def spE (K : PySem.W.Frag) (G : List D → Prop) (R : List D → D → Prop) : Sp := fun vs H Q _ => ∃ F ow ds, Wo K ow F H ∧ Rps K F vs ds ∧ G ds ∧ ∀ F2 H2 v d, Ex F F2 → Wo K ow F2 H2 → Rp K F2 v d → R ds d → Q v H2
section
variable {P : Program} {w : World} {K : PySem.W.Frag} {mg : Str → Option Value} {base : Heap}
theorem okE {x qual : Str} {st : Stmt} {f : Addr} {fd : FuncData} {N ps : List Str} {k : Nat} {G : List D → Prop} {R : List D → D → Prop} (Fn : Fun K x qual st f fd) (S : FnScope N ps (defScope st)) (len : ∀ ds, G ds → ds.length = ps.length)
    (body : ∀ (cdv : Value) (A : Around) (outer : List Env) (s : Shared) (H B : Hp) (ow : Ow) (ds : List D) (Q : VK) (E : XK), γ A.guards → Room k (A.deeper (envOfC qual (defScope st) s.heap.objs.size f cdv)) → G ds → (∀ d, R ds d → Post K ow B d Q) →
      Rn (cxOf CX0 P w K mg base N qual (defScope st) f cdv A outer s H E).nox B (defBody st) { nx := fun _ H' => Q .non H', rt := Q } (env0 N ds) ow) : FnG γ P w K mg base CX0 (k + 1) f fd ps (spE K G R) :=
  okG Fn S (fun vs H Q E ⟨F, ow, ds, wo, r, hG, _⟩ => by rw [r.length]; exact len ds hG) fun cdv A outer s H vs Q E hgd hr ⟨F, ow, ds, wo, r, hG, k⟩ =>
    ⟨F, ow, ds, wo, r, body cdv A outer s H F ow ds Q E hgd hr hG fun d hR F2 H2 v e2 w2 r2 => k F2 H2 v d e2 w2 r2 hR⟩
end
section
variable {X : Cx} {env : List (Option D)} {ow : Ow} {e : Expr} {es : List Expr} {ds : List D} {pos p : Pos} {x : Str} {f : Addr} {fd : FuncData} {ps : List Str} {k : Nat} {G : List D → Prop} {R : List D → D → Prop}
theorem vm_E (Fn : FnG γ X.prog X.w X.K X.mg X.base CX0 k f fd ps (spE X.K G R)) (hgd : γ X.A.guards) (hr : Room k X.A) (hg : Gl X x) (hm : X.mg x = some (.ref f)) (hk : PySem.W.keepIn X.K (.ref f) = true) (hb : Binds X.K fd ps []) (ha : Va X (e :: es) env ow ds) (hG : G ds)
    (hdb : (x == ("__debug__" : Str)) = false := by decide) (he : starEach (e :: es) X.env = (false, eval e X.env) :: starEach es X.env := by rfl) (hpl : (backTo pos (starEach es X.env)).any (·.1) = false := by rfl) :
    Vm X (.Call (.Name x p) (e :: es) [] pos) env ow fun d ow2 => ow2 = ow ∧ R ds d := vm_call Fn hgd hr hg hm hk hb .nil pass0 ha (fun F H vs Q w r k0 => by
  rw [List.append_nil]
  exact ⟨F, ow, ds, w, r, hG, fun F2 H2 v d e2 w2 rv hR => k0 F2 H2 v d ow e2 w2 rv ⟨rfl, hR⟩⟩) hdb he hpl
end
end Vd
set_option Elab.async false
set_option linter.all false
/-! Periods of a set of naturals, and how an ascending list of remainders tells them. No part of the kit is used here. -/
namespace Per
def P (f : Nat → Bool) (m : Nat) : Prop := ∀ x, f (x + m) = f x
variable {f : Nat → Bool} {m n : Nat}
theorem P.zero (f : Nat → Bool) : P f 0 := fun x => rfl
theorem P.add (a : P f m) (b : P f n) : P f (m + n) := fun x => by rw [← Nat.add_assoc, b, a]
theorem P.mul (a : P f m) : ∀ k : Nat, P f (k * m)
  | 0 => by rw [Nat.zero_mul]; exact P.zero f
  | k + 1 => by rw [Nat.succ_mul]; exact (P.mul a k).add a
theorem P.dvd (a : P f m) (h : m ∣ n) : P f n := by
  obtain ⟨k, rfl⟩ := h
  rw [Nat.mul_comm]
  exact a.mul k
theorem P.sub (a : P f m) (b : P f n) (h : n ≤ m) : P f (m - n) := fun x => by
  have z := b (x + (m - n))
  have e : x + (m - n) + n = x + m := by omega
  rw [e] at z
  rw [← z, a]
theorem P.mod (a : P f m) (b : P f n) : P f (m % n) := by
  have e : m % n = m - n * (m / n) := by
    have := Nat.div_add_mod m n
    omega
  rw [e]
  exact a.sub (b.dvd (Nat.dvd_mul_right _ _)) (Nat.mul_div_le m n)
theorem P.gcd (a : P f m) (b : P f n) : P f (Nat.gcd m n) := by
  induction m, n using Nat.gcd.induction with
  | H0 n => rw [Nat.gcd_zero_left]; exact b
  | H1 m n hm ih => rw [Nat.gcd_rec]; exact ih (b.mod a) a
/-! primes -/
def Prm (p : Nat) : Prop := 2 ≤ p ∧ ∀ d, d ∣ p → d = 1 ∨ d = p
theorem prm_ex (n : Nat) : 2 ≤ n → ∃ p, Prm p ∧ p ∣ n := by
  induction n using Nat.strongRecOn with
  | ind n ih =>
    intro h
    by_cases hp : Prm n
    · exact ⟨n, hp, Nat.dvd_refl n⟩
    · have : ∃ d, d ∣ n ∧ d ≠ 1 ∧ d ≠ n := by
        apply Classical.byContradiction
        intro no
        apply hp
        refine ⟨h, fun d hd => ?_⟩
        apply Classical.byContradiction
        intro q
        exact no ⟨d, hd, fun z => q (.inl z), fun z => q (.inr z)⟩
      obtain ⟨d, hd, h1, h2⟩ := this
      have pos : 0 < d := Nat.pos_of_dvd_of_pos hd (by omega)
      have le := Nat.le_of_dvd (by omega) hd
      obtain ⟨p, hp, hpd⟩ := ih d (by omega) (by omega)
      exact ⟨p, hp, Nat.dvd_trans hpd hd⟩
/-- a period that no prime makes shorter divides every period -/
theorem least (hn : 0 < n) (h : P f n) (irr : ∀ p, Prm p → p ∣ n → ¬ P f (n / p)) (hm : P f m) : n ∣ m := by
  have hg := hm.gcd h
  obtain ⟨k, hk⟩ := Nat.gcd_dvd_right m n
  by_cases k1 : k = 1
  · rw [k1, Nat.mul_one] at hk
    rw [hk]
    exact Nat.gcd_dvd_left m n
  · have k0 : k ≠ 0 := by
      intro z
      rw [z, Nat.mul_zero] at hk
      omega
    obtain ⟨p, hp, q, hq⟩ := prm_ex k (by omega)
    have pp : 0 < p := by have := hp.1; omega
    have e : n = p * (Nat.gcd m n * q) := by
      rw [hq] at hk
      rw [Nat.mul_left_comm]
      exact hk
    have e2 : n / p = Nat.gcd m n * q := by
      conv => lhs; rw [e]
      exact Nat.mul_div_cancel_left _ pp
    refine absurd ?_ (irr p hp ⟨_, e⟩)
    rw [e2]
    exact hg.dvd (Nat.dvd_mul_right _ _)
/-! ascending lists -/
def Asc (l : List Nat) : Prop := l.Pairwise (· < ·)
theorem asc_ext : ∀ {l k : List Nat}, Asc l → Asc k → (∀ x, x ∈ l ↔ x ∈ k) → l = k
  | [], [], _, _, _ => rfl
  | [], b :: k, _, _, h => absurd ((h b).mpr (List.mem_cons_self ..)) (by simp)
  | a :: l, [], _, _, h => absurd ((h a).mp (List.mem_cons_self ..)) (by simp)
  | a :: l, b :: k, hl, hk, h => by
    have hl1 := List.pairwise_cons.mp hl
    have hk1 := List.pairwise_cons.mp hk
    have e : a = b := by
      rcases List.mem_cons.mp ((h a).mp (List.mem_cons_self ..)) with z | z
      · exact z
      · rcases List.mem_cons.mp ((h b).mpr (List.mem_cons_self ..)) with y | y
        · exact y.symm
        · have z1 := hk1.1 a z
          have z2 := hl1.1 b y
          omega
    subst e
    rw [asc_ext hl1.2 hk1.2 fun x => ?_]
    constructor
    · intro hx
      rcases List.mem_cons.mp ((h x).mp (List.mem_cons_of_mem _ hx)) with z | z
      · have := hl1.1 x hx
        omega
      · exact z
    · intro hx
      rcases List.mem_cons.mp ((h x).mpr (List.mem_cons_of_mem _ hx)) with z | z
      · have := hk1.1 x hx
        omega
      · exact z
/-- so many copies of a list, each one moved by s from the one ahead -/
def blk (B : List Nat) (s : Nat) : Nat → List Nat
  | 0 => []
  | k + 1 => B ++ (blk B s k).map (· + s)
theorem blk_len {B : List Nat} {s : Nat} : ∀ k : Nat, (blk B s k).length = k * B.length
  | 0 => by simp [blk]
  | k + 1 => by rw [blk, List.length_append, List.length_map, blk_len k, Nat.succ_mul]; omega
theorem mem_blk {B : List Nat} {s x : Nat} (hs : 0 < s) (hB : ∀ b ∈ B, b < s) : ∀ k : Nat, x ∈ blk B s k ↔ x < k * s ∧ x % s ∈ B
  | 0 => by simp [blk]
  | k + 1 => by
    rw [blk, List.mem_append, List.mem_map, Nat.succ_mul]
    constructor
    · rintro (h | ⟨y, hy, rfl⟩)
      · have := hB x h
        exact ⟨by omega, by rw [Nat.mod_eq_of_lt this]; exact h⟩
      · obtain ⟨z1, z2⟩ := (mem_blk hs hB k).mp hy
        exact ⟨by omega, by rw [Nat.add_mod_right]; exact z2⟩
    · rintro ⟨h1, h2⟩
      by_cases q : x < s
      · left
        rw [Nat.mod_eq_of_lt q] at h2
        exact h2
      · right
        refine ⟨x - s, (mem_blk hs hB k).mpr ⟨by omega, ?_⟩, by omega⟩
        have e : x = (x - s) + s := by omega
        rw [e, Nat.add_mod_right] at h2
        exact h2
theorem asc_blk {B : List Nat} {s : Nat} (hs : 0 < s) (hB : ∀ b ∈ B, b < s) (a : Asc B) : ∀ k : Nat, Asc (blk B s k)
  | 0 => List.Pairwise.nil
  | k + 1 => by
    rw [blk]
    refine List.pairwise_append.mpr ⟨a, ?_, ?_⟩
    · rw [List.pairwise_map]
      exact (asc_blk hs hB a k).imp fun h => by omega
    · intro x hx y hy
      obtain ⟨z, _, rfl⟩ := List.mem_map.mp hy
      have := hB x hx
      omega
theorem blk_snoc {B : List Nat} {s : Nat} : ∀ k : Nat, blk B s (k + 1) = blk B s k ++ B.map (· + k * s)
  | 0 => by simp [blk]
  | k + 1 => by
    show B ++ (blk B s (k + 1)).map (· + s) = (B ++ (blk B s k).map (· + s)) ++ B.map (· + (k + 1) * s)
    rw [blk_snoc k, List.map_append, List.map_map, ← List.append_assoc]
    congr 1
    apply List.map_congr_left
    intro x _
    show x + k * s + s = x + (k + 1) * s
    rw [Nat.succ_mul]
    omega
/-- what the program asks of the marks: c of them in each of k parts of s -/
def Rep (M : List Nat) (k s c : Nat) : Prop := c * k = M.length ∧ M.drop c = (M.take (M.length - c)).map (· + s)
theorem rep_blk {M : List Nat} {k s c : Nat} (h : Rep M k s c) : ∀ j, j ≤ k → M.take (j * c) = blk (M.take c) s j
  | 0, _ => by simp [blk]
  | j + 1, hj => by
    have ih := rep_blk h j (by omega)
    obtain ⟨h1, h2⟩ := h
    have le : j * c + c ≤ M.length := by
      have z : (j + 1) * c ≤ k * c := Nat.mul_le_mul_right c hj
      rw [Nat.succ_mul] at z
      rw [← h1, Nat.mul_comm c k]
      exact z
    rw [Nat.succ_mul, Nat.add_comm, List.take_add, blk, h2, ← List.map_take, List.take_take, Nat.min_eq_left (by omega), ih]
theorem rep_all {M : List Nat} {k s c : Nat} (h : Rep M k s c) : M = blk (M.take c) s k := by
  have z := rep_blk h k (Nat.le_refl k)
  rw [Nat.mul_comm, h.1, List.take_length] at z
  exact z
def fn (n : Nat) (M : List Nat) : Nat → Bool := fun x => decide (x % n ∈ M)
theorem fn_mem {n x : Nat} {M : List Nat} : fn n M x = true ↔ x % n ∈ M := by simp [fn]
theorem fn_P {n : Nat} {M : List Nat} : P (fn n M) n := fun x => by simp [fn]
theorem bool_ext {a b : Bool} (h : a = true ↔ b = true) : a = b := by cases a <;> cases b <;> simp_all
section
variable {M : List Nat} {k s c : Nat}
theorem rep_lt (hk : 0 < k) (hM : ∀ x ∈ M, x < k * s) (h : Rep M k s c) : ∀ b ∈ M.take c, b < s := by
  intro b hb
  have e := rep_all h
  have mv : ∀ j, b + j * s ∈ blk (M.take c) s (j + 1) := by
    intro j
    induction j with
    | zero =>
      rw [blk, Nat.zero_mul]
      exact List.mem_append_left _ hb
    | succ j ih =>
      rw [blk]
      refine List.mem_append_right _ (List.mem_map.mpr ⟨b + j * s, ih, ?_⟩)
      rw [Nat.succ_mul]
      omega
  obtain ⟨j, rfl⟩ : ∃ j, k = j + 1 := ⟨k - 1, by omega⟩
  have z := mv j
  rw [← e] at z
  have y := hM _ z
  rw [Nat.succ_mul] at y
  omega
/-- the shorter pattern is the same set -/
theorem rep_fn (hs : 0 < s) (hk : 0 < k) (hM : ∀ x ∈ M, x < k * s) (h : Rep M k s c) : fn s (M.take c) = fn (k * s) M := by
  funext x
  have e := rep_all h
  have hB := rep_lt hk hM h
  apply bool_ext
  rw [fn_mem, fn_mem]
  conv => rhs; rw [e]
  rw [mem_blk hs hB, Nat.mod_mul_left_mod]
  constructor
  · intro z
    exact ⟨Nat.mod_lt _ (Nat.mul_pos hk hs), z⟩
  · exact fun z => z.2
theorem rep_P (hs : 0 < s) (hk : 0 < k) (hM : ∀ x ∈ M, x < k * s) (h : Rep M k s c) : P (fn (k * s) M) s := by
  rw [← rep_fn hs hk hM h]
  exact fn_P
theorem P_rep (hs : 0 < s) (hk : 0 < k) (a : Asc M) (hM : ∀ x ∈ M, x < k * s) (h : P (fn (k * s) M) s) : Rep M k s (M.length / k) := by
  have hB : ∀ b ∈ M.filter (· < s), b < s := fun b hb => by simpa using (List.mem_filter.mp hb).2
  have hsk : s ≤ k * s := Nat.le_mul_of_pos_left s hk
  have low : ∀ x, fn (k * s) M x = fn (k * s) M (x % s) := fun x => by
    have z := h.mul (x / s) (x % s)
    have y : x % s + x / s * s = x := by
      have := Nat.div_add_mod x s
      rw [Nat.mul_comm] at this
      omega
    rw [y] at z
    exact z
  have e : M = blk (M.filter (· < s)) s k := by
    refine asc_ext a (asc_blk hs hB (a.filter _) k) fun x => ?_
    rw [mem_blk hs hB, List.mem_filter]
    constructor
    · intro hx
      have lt := hM x hx
      have f1 : fn (k * s) M x = true := fn_mem.mpr (by rw [Nat.mod_eq_of_lt lt]; exact hx)
      rw [low x] at f1
      have f2 := fn_mem.mp f1
      have l2 : x % s < s := Nat.mod_lt _ hs
      rw [Nat.mod_eq_of_lt (Nat.lt_of_lt_of_le l2 hsk)] at f2
      exact ⟨lt, f2, by simpa using l2⟩
    · rintro ⟨lt, hx, _⟩
      have l2 : x % s < s := Nat.mod_lt _ hs
      have f1 : fn (k * s) M (x % s) = true := fn_mem.mpr (by rw [Nat.mod_eq_of_lt (Nat.lt_of_lt_of_le l2 hsk)]; exact hx)
      rw [← low x] at f1
      have f2 := fn_mem.mp f1
      rw [Nat.mod_eq_of_lt lt] at f2
      exact f2
  have len : M.length = k * (M.filter (· < s)).length := by
    conv => lhs; rw [e]
    exact blk_len k
  have q : M.length / k = (M.filter (· < s)).length := by
    rw [len]
    exact Nat.mul_div_cancel_left _ hk
  rw [q]
  refine ⟨by rw [len, Nat.mul_comm], ?_⟩
  obtain ⟨B, hBd⟩ : ∃ B, B = M.filter (· < s) := ⟨_, rfl⟩
  rw [← hBd] at e len ⊢
  obtain ⟨j, rfl⟩ : ∃ j, k = j + 1 := ⟨k - 1, by omega⟩
  have d1 : M.drop B.length = (blk B s j).map (· + s) := by
    rw [e, blk, List.drop_left]
  have d2 : M.take (M.length - B.length) = blk B s j := by
    have l2 : M.length - B.length = (blk B s j).length := by
      rw [len, blk_len, Nat.succ_mul]
      omega
    rw [l2, e, blk_snoc, List.take_left]
  rw [d1, d2]
end
/-- the pattern is told by its set -/
theorem marks_uniq {n : Nat} {M N : List Nat} (hM : Asc M) (hN : Asc N) (lM : ∀ x ∈ M, x < n) (lN : ∀ x ∈ N, x < n) (h : fn n M = fn n N) : M = N := by
  refine asc_ext hM hN fun x => ?_
  constructor
  · intro hx
    have z : fn n M x = true := fn_mem.mpr (by rw [Nat.mod_eq_of_lt (lM x hx)]; exact hx)
    rw [h] at z
    have y := fn_mem.mp z
    rw [Nat.mod_eq_of_lt (lM x hx)] at y
    exact y
  · intro hx
    have z : fn n N x = true := fn_mem.mpr (by rw [Nat.mod_eq_of_lt (lN x hx)]; exact hx)
    rw [← h] at z
    have y := fn_mem.mp z
    rw [Nat.mod_eq_of_lt (lN x hx)] at y
    exact y
/-- a pattern: a length and ascending remainders by it -/
structure Pat (n : Nat) (M : List Nat) : Prop where
  pos : 0 < n
  asc : Asc M
  lt : ∀ x ∈ M, x < n
/-- the same set by the least period -/
structure Lst (n : Nat) (M : List Nat) (n' : Nat) (M' : List Nat) : Prop where
  pat : Pat n' M'
  eq : fn n' M' = fn n M
  min : ∀ m, 0 < m → P (fn n M) m → n' ≤ m
theorem Lst.uniq {n : Nat} {M : List Nat} {a b : Nat} {A B : List Nat} (h1 : Lst n M a A) (h2 : Lst n M b B) : a = b ∧ A = B := by
  have pa : P (fn n M) a := by rw [← h1.eq]; exact fn_P
  have pb : P (fn n M) b := by rw [← h2.eq]; exact fn_P
  have z1 := h1.min b h2.pat.pos pb
  have z2 := h2.min a h1.pat.pos pa
  have e : a = b := by omega
  subst e
  exact ⟨rfl, marks_uniq h1.pat.asc h2.pat.asc h1.pat.lt h2.pat.lt (h1.eq.trans h2.eq.symm)⟩
/-- what no prime makes shorter is told by the least period -/
theorem Lst.of_irr {n : Nat} {M : List Nat} {a : Nat} {A : List Nat} (p : Pat a A) (e : fn a A = fn n M) (irr : ∀ q, Prm q → q ∣ a → ¬ P (fn a A) (a / q)) : Lst n M a A :=
  ⟨p, e, fun m hm h => Nat.le_of_dvd hm (least p.pos fn_P irr (by rw [e]; exact h))⟩
/-- one step of making it shorter -/
theorem Pat.step {n k c : Nat} {M : List Nat} (p : Pat n M) (hk : 0 < k) (d : k ∣ n) (h : Rep M k (n / k) c) : Pat (n / k) (M.take c) ∧ fn (n / k) (M.take c) = fn n M := by
  have e : k * (n / k) = n := Nat.mul_div_cancel' d
  have hs : 0 < n / k := Nat.div_pos (Nat.le_of_dvd p.pos d) hk
  have lt : ∀ x ∈ M, x < k * (n / k) := fun x hx => by rw [e]; exact p.lt x hx
  refine ⟨⟨hs, p.asc.sublist (List.take_sublist ..), rep_lt hk lt h⟩, ?_⟩
  have z := rep_fn hs hk lt h
  rw [e] at z
  exact z
theorem Pat.stop {n k : Nat} {M : List Nat} (p : Pat n M) (hk : 0 < k) (d : k ∣ n) (h : ¬ Rep M k (n / k) (M.length / k)) : ¬ P (fn n M) (n / k) := fun q => by
  have e : k * (n / k) = n := Nat.mul_div_cancel' d
  have hs : 0 < n / k := Nat.div_pos (Nat.le_of_dvd p.pos d) hk
  refine h (P_rep hs hk p.asc (fun x hx => by rw [e]; exact p.lt x hx) ?_)
  rw [e]
  exact q
end Per
set_option Elab.async false
set_option linter.all false
set_option maxRecDepth 100000
set_option maxHeartbeats 4000000
namespace K2
open PySem L2
/-! the defs of the program and of the law, by their names -/
def top (i : Nat) : Stmt := PySem.Challenge.pw_evertreads_k04_whole_sets_of_times_joine.main.body.getD i (.Pass ⟨0, 0, 0, 0⟩)
abbrev s_is_integer : Stmt := top 5
abbrev s_is_within : Stmt := top 6
abbrev s_first_unfit : Stmt := top 7
abbrev s_WrongValue___init__ : Stmt := inClass (top 9) 0
abbrev s_InvalidCount___init__ : Stmt := inClass (top 10) 0
abbrev s_InvalidPeriod___init__ : Stmt := inClass (top 11) 0
abbrev s_InvalidMarks___init__ : Stmt := inClass (top 12) 0
abbrev s_InvalidParts___init__ : Stmt := inClass (top 13) 0
abbrev s_place : Stmt := top 15
abbrev s_holds : Stmt := top 16
abbrev s_primes_of : Stmt := top 18
abbrev s_repeats : Stmt := top 19
abbrev s_shortest : Stmt := top 20
abbrev s_marked_from : Stmt := top 21
abbrev s_stretched : Stmt := top 22
abbrev s_inverse : Stmt := top 23
abbrev s_by_remainder : Stmt := top 24
abbrev s_in_both : Stmt := top 25
abbrev s_left_over : Stmt := top 26
abbrev s_in_either : Stmt := top 27
abbrev s_Times___init__ : Stmt := inClass (top 29) 0
abbrev s_Times_period : Stmt := inClass (top 29) 1
abbrev s_Times_marks : Stmt := inClass (top 29) 2
abbrev s_Times_numbers : Stmt := inClass (top 29) 3
abbrev s_Times_first : Stmt := inClass (top 29) 4
abbrev s_Times_endless : Stmt := inClass (top 29) 5
abbrev s_Times_many : Stmt := inClass (top 29) 6
abbrev s_Times_ascending : Stmt := inClass (top 29) 7
abbrev s_Times__least_from : Stmt := inClass (top 29) 8
abbrev s_Times___contains__ : Stmt := inClass (top 29) 9
abbrev s_Times___and__ : Stmt := inClass (top 29) 10
abbrev s_Times___or__ : Stmt := inClass (top 29) 11
abbrev s_Times___sub__ : Stmt := inClass (top 29) 12
abbrev s_Times___eq__ : Stmt := inClass (top 29) 13
abbrev s_Times___bool__ : Stmt := inClass (top 29) 14
abbrev s_Times___repr__ : Stmt := inClass (top 29) 15
abbrev s_unchecked : Stmt := top 30
abbrev s_merged : Stmt := top 31
abbrev s_joined : Stmt := top 32
abbrev s__law_cup : Stmt := top 34
abbrev s__law_sip : Stmt := top 35
abbrev s__law_pick : Stmt := top 36
abbrev s__law_numbers : Stmt := top 37
abbrev s__law_marks : Stmt := top 38
abbrev s__law_set : Stmt := top 39
abbrev s__law_in : Stmt := top 40
abbrev s__law_places : Stmt := top 41
abbrev s__law_right : Stmt := top 42
abbrev s_law : Stmt := top 43
end K2
set_option Elab.async false
set_option linter.all false
set_option maxRecDepth 100000
set_option maxHeartbeats 4000000
namespace K2
open PySem L2 Vd
open PySem.Spec PyProof.Rows
/-! the walk over data -/
local macro_rules | `(tactic| walk_at "vis") => `(tactic| first | exact Or.inl rfl | exact Or.inr (Or.inl rfl) | exact Or.inr (Or.inr rfl))
local macro_rules | `(tactic| walk_at "none") => `(tactic| first | assumption)
local macro_rules | `(tactic| walk_at "num") => `(tactic| first | decide | omega)
local macro_rules | `(tactic| walk_at "vr") => `(tactic| first
  | exact bo_add | exact bo_sub | exact bo_mulR (by decide) | exact bo_mulL (by decide) | exact bo_mod (by walk_at "num") | exact bo_div (by walk_at "num") (by walk_at "num") | exact bo_pow (by decide) (by decide) (by decide) | exact bo_cat (by walk_at "num") | exact bo_mulR (by omega) | exact bo_mulL (by omega))
local macro_rules | `(tactic| walk_at "vq") => `(tactic| first
  | exact co_lt | exact co_le | exact co_gt | exact co_ge | exact co_eqI | exact co_neI | exact co_eqS | exact co_neS)
local macro_rules | `(tactic| walk_at "vx") => `(tactic| first
  | exact xo_own (by assumption) rfl | exact xo_lst rfl | exact xo_tup rfl)
local macro_rules | `(tactic| walk_at "vf") => `(tactic| first
  | exact fo_abs | exact fo_lenL | exact fo_lenT | exact fo_lenO (by assumption) | exact fo_divmod (by walk_at "num") (by walk_at "num") | exact fo_max rfl | exact fo_min rfl)
local macro_rules | `(tactic| walk_at "vn") => `(tactic| first
  | exact ve_var (i := 0) rfl rfl (by walk_at "vis") | exact ve_var (i := 1) rfl rfl (by walk_at "vis") | exact ve_var (i := 2) rfl rfl (by walk_at "vis") | exact ve_var (i := 3) rfl rfl (by walk_at "vis") | exact ve_var (i := 4) rfl rfl (by walk_at "vis") | exact ve_var (i := 5) rfl rfl (by walk_at "vis") | exact ve_var (i := 6) rfl rfl (by walk_at "vis") | exact ve_var (i := 7) rfl rfl (by walk_at "vis"))
local macro_rules | `(tactic| walk_at "vd") => `(tactic| first
  | exact ve_int | exact ve_bl | exact ve_non | exact ve_str
  | (refine' ve_bin ?ha ?hb ?hr; (case ha => walk_at "vd"); (case hb => walk_at "vd"); (case hr => walk_at "vr"))
  | (refine' ve_sub ?ha ?hb (fun _ _ => rfl) ?hr; (case ha => walk_at "vd"); (case hb => walk_at "vd"); (case hr => walk_at "vx"))
  | (refine' ve_ty (id := "int") ?ha rfl ?hm boot_int ?hr; (case ha => walk_at "va"); (case hm => walk_at "none"); (case hr => exact to_int))
  | (refine' ve_bi ?ha rfl ?hm ?hv ?hr; (case hv => first | exact boot_abs | exact boot_len | exact boot_divmod | exact boot_max | exact boot_min); (case ha => walk_at "va"); (case hm => walk_at "none"); (case hr => walk_at "vf"))
  | (refine' ve_tup ?ha ?hl; (case ha => walk_at "va"); (case hl => walk_at "num"))
  | (refine' ve_lst ?ha ?hl; (case ha => walk_at "va"); (case hl => walk_at "num"))
  | (refine' ve_comp ?ha ?hb ?hr; (case ha => walk_at "vd"); (case hb => walk_at "vd"); (case hr => walk_at "vq"))
  | walk_at "vn")
local macro_rules | `(tactic| walk_at "va") => `(tactic| first | exact va_nil | (refine' va_cons ?ha ?hb; (case ha => walk_at "vd"); (case hb => walk_at "va")))
local macro_rules | `(tactic| walk_at "vt") => `(tactic| first
  | (refine' vt_comp ?ha ?hb ?hr; (case ha => walk_at "vd"); (case hb => walk_at "vd"); (case hr => walk_at "vq"))
  | (refine' vt_val ?hv; case hv => walk_at "vd"))
theorem getD_of {α : Type} {l : List α} {i : Nat} {d x : α} (h : l[i]? = some x) : l.getD i d = x := by simp [h]
section
variable {X : Cx} {env : List (Option D)} {ow : Ow} {i k : Nat} {x f : Str} {e : Expr} {es : List Expr} {d : D} {ds : List D} {pos p kp : Pos}
theorem ve_R {fa : Addr} {fd : FuncData} {ps : List Str} {R : List D → D → Prop} (Fn : FnG γ X.prog X.w X.K X.mg X.base CX0 k fa fd ps (spR X.K R)) (hgd : γ X.A.guards) (hr : Room k X.A) (hg : Gl X x) (hm : X.mg x = some (.ref fa)) (hk : PySem.W.keepIn X.K (.ref fa) = true) (hb : Binds X.K fd ps []) (ha : Va X (e :: es) env ow ds) (hR : R ds d)
    (hdb : (x == ("__debug__" : Str)) = false := by decide) (he : starEach (e :: es) X.env = (false, eval e X.env) :: starEach es X.env := by rfl) (hpl : (backTo pos (starEach es X.env)).any (·.1) = false := by rfl) : Ve X (.Call (.Name x p) (e :: es) [] pos) env ow d :=
  ve_call Fn hgd hr hg hm hk hb .nil pass0 ha (fun F H vs Q w r k0 => by
    rw [List.append_nil]
    exact ⟨F, ow, ds, d, w, r, hR, k0⟩) hdb he hpl
end
/-! ### is_integer, is_within -/
abbrev sIsI : Stmt := s_is_integer
theorem scIsI : FnScope ["value"] ["value"] (defScope sIsI) := ⟨rfl, rfl, rfl, by decide +kernel, rfl, by decide +kernel, by decide +kernel⟩
def RIsI (ds : List D) (d : D) : Prop := ∃ v : D, ds = [v] ∧ v.kind.isSome = true ∧ d = .bl v.isInt
abbrev sIsW : Stmt := s_is_within
theorem scIsW : FnScope ["value", "least", "most"] ["value", "least", "most"] (defScope sIsW) := ⟨rfl, rfl, rfl, by decide +kernel, rfl, by decide +kernel, by decide +kernel⟩
def D.within (a b : Int) : D → Bool
  | .int i => decide (a ≤ i ∧ i ≤ b)
  | _ => false
def RIsW (ds : List D) (d : D) : Prop := ∃ (v : D) (a b : Int), ds = [v, .int a, .int b] ∧ v.kind.isSome = true ∧ d = .bl (D.within a b v)
section
variable {P : Program} {w : World} {K : PySem.W.Frag} {mg : Str → Option Value} {base : Heap}
theorem ok_isI {f : Addr} {fd : FuncData} (Fn : Fun K "is_integer" "is_integer" sIsI f fd) (mI : mg "isinstance" = none) (m1 : mg "int" = none) (m2 : mg "bool" = none) : FnG γ P w K mg base CX0 1 f fd ["value"] (spR K RIsI) := by
  refine okR Fn scIsI (fun ds d ⟨v, e, _⟩ => by rw [e]; rfl) fun cdv A outer s H B ow ds d Q E hgd hr hR k => ?_
  obtain ⟨v, rfl, hk, rfl⟩ := hR
  refine rn_ret (ve_is (ve_and (t := v.anInt) (u := !v.aBool) ?_ (fun _ => ve_and1 (ve_not ?_))) (by cases v <;> rfl)) k
  · exact ve_bi (va_cons (ve_var (i := 0) rfl rfl (by walk_at "vis")) (va_cons (ve_bty rfl m1 boot_int) va_nil)) rfl mI boot_isinstance (fo_isInt hk)
  · exact ve_bi (va_cons (ve_var (i := 0) rfl rfl (by walk_at "vis")) (va_cons (ve_bty rfl m2 boot_bool) va_nil)) rfl mI boot_isinstance (fo_isBool hk)
theorem ok_isW {f f1 : Addr} {fd fd1 : FuncData} (Fn : Fun K "is_within" "is_within" sIsW f fd) (F1 : FnG γ P w K mg base CX0 1 f1 fd1 ["value"] (spR K RIsI)) (m1 : mg "is_integer" = some (.ref f1)) (k1 : PySem.W.keepIn K (.ref f1) = true) (b1 : Binds K fd1 ["value"] []) : FnG γ P w K mg base CX0 2 f fd ["value", "least", "most"] (spR K RIsW) := by
  refine okR Fn scIsW (fun ds d ⟨v, a, b, e, _⟩ => by rw [e]; rfl) fun cdv A outer s H B ow ds d Q E hgd hr hR k => ?_
  obtain ⟨v, a, b, rfl, hk, rfl⟩ := hR
  refine rn_ret (ve_is (ve_and (t := v.isInt) (u := D.within a b v) ?_ (fun h => ve_and1 ?_)) (by cases v <;> rfl)) k
  · exact ve_R F1 hgd hr rfl m1 k1 b1 (va_cons (ve_var (i := 0) rfl rfl (by walk_at "vis")) va_nil) ⟨v, rfl, hk, rfl⟩
  · cases v with
    | int i => exact ve_between (ve_var (i := 1) rfl rfl (by walk_at "vis")) (ve_var (i := 0) rfl rfl (by walk_at "vis")) (ve_var (i := 2) rfl rfl (by walk_at "vis"))
    | _ => cases h
end
/-! ### place, holds -/
def cnt (l : List Int) (v : Int) : Nat := (l.takeWhile (· < v)).length
theorem cnt_le (l : List Int) (v : Int) : cnt l v ≤ l.length := (List.takeWhile_prefix _).length_le
theorem cnt_eq : ∀ (l : List Int) (v : Int) (k : Nat), k ≤ l.length → (∀ i (h : i < l.length), i < k → l[i] < v) → (∀ i (h : i < l.length), k ≤ i → ¬ l[i] < v) → cnt l v = k
  | [], v, k, hk, _, _ => by
    have : k = 0 := by simpa using hk
    rw [this]
    rfl
  | x :: l, v, 0, _, _, h2 => by
    have z := h2 0 (by simp) (Nat.le_refl _)
    unfold cnt
    rw [List.takeWhile_cons_of_neg (by simpa using z)]
    rfl
  | x :: l, v, k + 1, hk, h1, h2 => by
    have z : x < v := h1 0 (by simp) (by omega)
    have ih := cnt_eq l v k (by simpa using hk) (fun i h q => by have := h1 (i + 1) (by simpa using h) (by omega); simpa using this) (fun i h q => by have := h2 (i + 1) (by simpa using h) (by omega); simpa using this)
    unfold cnt at ih ⊢
    rw [List.takeWhile_cons_of_pos (by simpa using z), List.length_cons, ih]
def AscI (l : List Int) : Prop := l.Pairwise (· < ·)
theorem AscI.lt {l : List Int} (a : AscI l) {i j : Nat} (hi : i < l.length) (hj : j < l.length) (h : i < j) : l[i] < l[j] := List.pairwise_iff_getElem.mp a i j hi hj h
abbrev sPla : Stmt := s_place
theorem scPla : FnScope ["row", "value", "low", "high", "middle"] ["row", "value"] (defScope sPla) := ⟨rfl, rfl, rfl, by decide +kernel, rfl, by decide +kernel, by decide +kernel⟩
def RPla (ds : List D) (d : D) : Prop := ∃ (l : List Int) (v : Int), ds = [.tup (l.map D.int), .int v] ∧ AscI l ∧ d = .int (cnt l v : Nat)
section
variable {P : Program} {w : World} {K : PySem.W.Frag} {mg : Str → Option Value} {base : Heap}
theorem atN {l : List Int} {n : Nat} (h : n < l.length) : L2.atI (l.map D.int) (n : Int) = some (.int l[n]) := by
  unfold L2.atI L2.ixN
  rw [if_pos (by omega), if_pos (by rw [List.length_map]; omega)]
  simp [h]
theorem ok_place {f : Addr} {fd : FuncData} (Fn : Fun K "place" "place" sPla f fd) (mL : mg "len" = none) : FnG γ P w K mg base CX0 1 f fd ["row", "value"] (spR K RPla) := by
  refine okR Fn scPla (fun ds d ⟨l, v, e, _⟩ => by rw [e]; rfl) fun cdv A outer s H B ow ds d Q E hgd hr hR k => ?_
  obtain ⟨l, v, rfl, asc, rfl⟩ := hR
  have hlen : ((l.map D.int).length : Int) = l.length := by rw [List.length_map]
  refine' rn_par (i := 2) (j := 3) (d1 := .int (0 : Nat)) (d2 := .int (l.length : Nat)) rfl scPla.nd rfl rfl (by decide) rfl rfl ?ha ?hb ?k ?hw rfl rfl ⟨_, ps_par rfl scPla.nd rfl rfl (by decide) rfl rfl pa_can rfl, rfl⟩
  case hw => rfl
  case ha => exact ve_int
  case hb => exact ve_is (ve_bi (va_cons (ve_var (i := 0) rfl rfl (by walk_at "vis")) va_nil) rfl mL boot_len fo_lenT) (by rw [hlen])
  case k =>
  intro B1 e1
  refine' rn_while (fun m env ow' => ow = ow' ∧ ∃ (lo hi : Nat) (z : Option D), env = [some (.tup (l.map D.int)), some (.int v), some (.int (lo : Nat)), some (.int (hi : Nat)), z] ∧ m = hi - lo ∧ lo ≤ hi ∧ hi ≤ l.length ∧ (∀ i (h : i < l.length), i < lo → l[i] < v) ∧ ∀ i (h : i < l.length), hi ≤ i → ¬ l[i] < v) PassesOwn.never ⟨_, rfl, 0, l.length, none, rfl, rfl, Nat.zero_le _, Nat.le_refl _, fun i h q => absurd q (Nat.not_lt_zero _), fun i h q => absurd h (by omega)⟩ ?hs
  case hs =>
    rintro B2 m env' ow' e2 ⟨rfl, lo, hi, z, rfl, rfl, hle, hhi, h1, h2⟩
    refine ⟨decide ((lo : Int) < (hi : Int)), ?_, fun t B3 e3 => ?_, fun t B3 e3 => ?_⟩
    · exact vt_comp (ve_var (i := 2) rfl rfl (by walk_at "vis")) (ve_var (i := 3) rfl rfl (by walk_at "vis")) co_lt
    · have lt : lo < hi := by
        have := of_decide_eq_true t
        omega
      obtain ⟨mid, hmid⟩ : ∃ mid : Nat, mid = (lo + hi) / 2 := ⟨_, rfl⟩
      have hm1 : lo ≤ mid ∧ mid < hi := by omega
      refine' rn_set (i := 4) (d := .int (mid : Nat)) scPla.nd rfl (by first | exact .inl rfl | exact .inr rfl) ?h ?k
      case h => exact ve_is (ve_bin (ve_bin (ve_var (i := 2) rfl rfl (by walk_at "vis")) (ve_var (i := 3) rfl rfl (by walk_at "vis")) bo_add) ve_int (bo_div (by decide) (by decide))) (by rw [hmid]; congr 1)
      case k =>
      intro B4 e4
      refine' rn_if (t := decide (l[mid]'(by omega) < v)) ?h ?h1 ?h2
      case h => exact vt_comp (ve_sub (ve_var (d := .tup (l.map D.int)) (i := 0) rfl rfl (by walk_at "vis")) (ve_var (d := .int (mid : Nat)) (i := 4) rfl rfl (by walk_at "vis")) (fun _ _ => rfl) (xo_tup (atN (by omega)))) (ve_var (i := 1) rfl rfl (by walk_at "vis")) co_lt
      case h1 =>
        intro y B5 e5
        have hv := of_decide_eq_true y
        refine' rn_set (i := 2) (d := .int ((mid + 1 : Nat))) scPla.nd rfl (by first | exact .inl rfl | exact .inr rfl) ?h ?k
        case h => exact ve_is (ve_bin (ve_var (i := 4) rfl rfl (by walk_at "vis")) ve_int bo_add) (by congr 1)
        case k =>
        intro B6 e6
        refine rn_go ?_
        refine rn_nextW ?_ (e3.trans (e4.trans (e5.trans e6)))
        refine ⟨_, ?_, rfl, mid + 1, hi, _, rfl, rfl, by omega, hhi, fun i h q => ?_, h2⟩
        · omega
        · by_cases c : i = mid
          · subst c; exact hv
          · have z := asc.lt h (by omega) (show i < mid by omega)
            omega
      case h2 =>
        intro y B5 e5
        have hv := of_decide_eq_false y
        refine' rn_set (i := 3) (d := .int (mid : Nat)) scPla.nd rfl (by first | exact .inl rfl | exact .inr rfl) ?h ?k
        case h => exact ve_var (i := 4) rfl rfl (by walk_at "vis")
        case k =>
        intro B6 e6
        refine rn_go ?_
        refine rn_nextW ?_ (e3.trans (e4.trans (e5.trans e6)))
        refine ⟨_, ?_, rfl, lo, mid, _, rfl, rfl, by omega, by omega, h1, fun i h q => ?_⟩
        · omega
        · by_cases c : i = mid
          · subst c; exact hv
          · have z := asc.lt (show mid < l.length by omega) h (show mid < i by omega)
            omega
    · have ge : lo = hi := by
        have := of_decide_eq_false t
        omega
      subst ge
      have c := cnt_eq l v lo hhi h1 h2
      exact rn_ret (ve_is (ve_var (i := 2) rfl rfl (by walk_at "vis")) (by rw [c])) (k.ex (e1.trans (e2.trans e3)))
end
end K2
set_option Elab.async false
set_option linter.all false
set_option maxRecDepth 100000
set_option maxHeartbeats 4000000
/-! x += n. -/
namespace Vd
open PySem L2
open PySem.Spec PyProof.Rows
section
variable {X : Cx} {B : Hp} {env : List (Option D)} {ow : Ow} {e : Expr} {pos : Pos} {Dn : Ends} {rest : List Stmt}
theorem rn_addTo {x : Str} {p : Pos} {j : Nat} {n k0 : Int} (hN : X.N.Nodup) (hi : X.N[j]? = some x) (hx : Loc X.env.scope x) (hj : env[j]? = some (some (.int n))) (h : Ve X e env ow (.int k0)) (k : ∀ B', Ex B B' → Rn X B' rest Dn (env.set j (some (.int (n + k0)))) ow)
    (hf : X.fn x = true ∨ X.env.scope.names.lookup x = some .local := by first | exact .inl rfl | exact .inr rfl | assumption) : Rn X B (.AugAssign (.Name x p) .Add e pos :: rest) Dn env ow :=
  rn_one ⟨_, ps_aug hN hi hx pe_can ip_add hf, fun σ F H eB s w => by
    obtain ⟨v, hv, rv⟩ := s.at_ j _ hj
    cases rv
    refine ⟨_, hv, h σ F H _ s w fun F1 H1 u e1 w1 r1 => ?_⟩
    cases r1
    exact ⟨n, k0, rfl, rfl, k F1 (eB.trans e1) _ F1 H1 (Evl.Ex.refl F1) ((s.mono e1).set (.int _) j) w1⟩⟩
end
end Vd
set_option Elab.async false
set_option linter.all false
set_option maxRecDepth 100000
set_option maxHeartbeats 4000000
namespace K2
open PySem L2 Vd
open PySem.Spec PyProof.Rows
/-! the walk over data -/
local macro_rules | `(tactic| walk_at "vis") => `(tactic| first | exact Or.inl rfl | exact Or.inr (Or.inl rfl) | exact Or.inr (Or.inr rfl))
local macro_rules | `(tactic| walk_at "none") => `(tactic| first | assumption)
local macro_rules | `(tactic| walk_at "num") => `(tactic| first | decide | omega)
local macro_rules | `(tactic| walk_at "vr") => `(tactic| first
  | exact bo_add | exact bo_sub | exact bo_mulR (by decide) | exact bo_mulL (by decide) | exact bo_mod (by walk_at "num") | exact bo_div (by walk_at "num") (by walk_at "num") | exact bo_pow (by decide) (by decide) (by decide) | exact bo_cat (by walk_at "num") | exact bo_mulR (by omega) | exact bo_mulL (by omega))
local macro_rules | `(tactic| walk_at "vq") => `(tactic| first
  | exact co_lt | exact co_le | exact co_gt | exact co_ge | exact co_eqI | exact co_neI | exact co_eqS | exact co_neS)
local macro_rules | `(tactic| walk_at "vx") => `(tactic| first
  | exact xo_own (by assumption) rfl | exact xo_lst rfl | exact xo_tup rfl)
local macro_rules | `(tactic| walk_at "vf") => `(tactic| first
  | exact fo_abs | exact fo_lenL | exact fo_lenT | exact fo_lenO (by assumption) | exact fo_divmod (by walk_at "num") (by walk_at "num") | exact fo_max rfl | exact fo_min rfl)
local macro_rules | `(tactic| walk_at "vn") => `(tactic| first
  | exact ve_var (i := 0) rfl rfl (by walk_at "vis") | exact ve_var (i := 1) rfl rfl (by walk_at "vis") | exact ve_var (i := 2) rfl rfl (by walk_at "vis") | exact ve_var (i := 3) rfl rfl (by walk_at "vis") | exact ve_var (i := 4) rfl rfl (by walk_at "vis") | exact ve_var (i := 5) rfl rfl (by walk_at "vis") | exact ve_var (i := 6) rfl rfl (by walk_at "vis") | exact ve_var (i := 7) rfl rfl (by walk_at "vis"))
local macro_rules | `(tactic| walk_at "vd") => `(tactic| first
  | exact ve_int | exact ve_bl | exact ve_non | exact ve_str
  | (refine' ve_bin ?ha ?hb ?hr; (case ha => walk_at "vd"); (case hb => walk_at "vd"); (case hr => walk_at "vr"))
  | (refine' ve_sub ?ha ?hb (fun _ _ => rfl) ?hr; (case ha => walk_at "vd"); (case hb => walk_at "vd"); (case hr => walk_at "vx"))
  | (refine' ve_ty (id := "int") ?ha rfl ?hm boot_int ?hr; (case ha => walk_at "va"); (case hm => walk_at "none"); (case hr => exact to_int))
  | (refine' ve_bi ?ha rfl ?hm ?hv ?hr; (case hv => first | exact boot_abs | exact boot_len | exact boot_divmod | exact boot_max | exact boot_min); (case ha => walk_at "va"); (case hm => walk_at "none"); (case hr => walk_at "vf"))
  | (refine' ve_tup ?ha ?hl; (case ha => walk_at "va"); (case hl => walk_at "num"))
  | (refine' ve_lst ?ha ?hl; (case ha => walk_at "va"); (case hl => walk_at "num"))
  | (refine' ve_comp ?ha ?hb ?hr; (case ha => walk_at "vd"); (case hb => walk_at "vd"); (case hr => walk_at "vq"))
  | walk_at "vn")
local macro_rules | `(tactic| walk_at "va") => `(tactic| first | exact va_nil | (refine' va_cons ?ha ?hb; (case ha => walk_at "vd"); (case hb => walk_at "va")))
local macro_rules | `(tactic| walk_at "vt") => `(tactic| first
  | (refine' vt_comp ?ha ?hb ?hr; (case ha => walk_at "vd"); (case hb => walk_at "vd"); (case hr => walk_at "vq"))
  | (refine' vt_val ?hv; case hv => walk_at "vd"))
theorem cnt_lt : ∀ (l : List Int) (v : Int) (i : Nat) (h : i < l.length), i < cnt l v → l[i] < v
  | x :: l, v, i, h, q => by
    unfold cnt at q
    by_cases c : x < v
    · rw [List.takeWhile_cons_of_pos (by simpa using c), List.length_cons] at q
      match i with
      | 0 => exact c
      | i + 1 => exact cnt_lt l v i (by simpa using h) (by unfold cnt; omega)
    · rw [List.takeWhile_cons_of_neg (by simpa using c)] at q
      exact absurd q (Nat.not_lt_zero _)
theorem cnt_at : ∀ (l : List Int) (v : Int) (h : cnt l v < l.length), ¬ l[cnt l v] < v
  | x :: l, v, h => by
    by_cases c : x < v
    · have e : cnt (x :: l) v = cnt l v + 1 := by
        unfold cnt
        rw [List.takeWhile_cons_of_pos (by simpa using c), List.length_cons]
      have z := cnt_at l v (by rw [e] at h; simpa using h)
      simpa [e] using z
    · have e : cnt (x :: l) v = 0 := by
        unfold cnt
        rw [List.takeWhile_cons_of_neg (by simpa using c)]
        rfl
      simpa [e] using c
theorem mem_cnt {l : List Int} {v : Int} (a : AscI l) : v ∈ l ↔ ∃ h : cnt l v < l.length, l[cnt l v] = v := by
  constructor
  · intro hv
    obtain ⟨i, hi, e⟩ := List.getElem_of_mem hv
    have le : cnt l v ≤ i := by
      apply Classical.byContradiction
      intro q
      have z := cnt_lt l v i hi (by omega)
      omega
    have lt : cnt l v < l.length := by omega
    refine ⟨lt, ?_⟩
    have z := cnt_at l v lt
    by_cases c : cnt l v = i
    · simp only [c]; exact e
    · have y := a.lt lt hi (show cnt l v < i by omega)
      omega
  · rintro ⟨h, e⟩
    rw [← e]
    exact List.getElem_mem h
abbrev sHol : Stmt := s_holds
theorem scHol : FnScope ["row", "value", "at"] ["row", "value"] (defScope sHol) := ⟨rfl, rfl, rfl, by decide +kernel, rfl, by decide +kernel, by decide +kernel⟩
def RHol (ds : List D) (d : D) : Prop := ∃ (l : List Int) (v : Int), ds = [.tup (l.map D.int), .int v] ∧ AscI l ∧ d = .bl (decide (v ∈ l))
section
variable {P : Program} {w : World} {K : PySem.W.Frag} {mg : Str → Option Value} {base : Heap}
theorem ok_holds {f f1 : Addr} {fd fd1 : FuncData} (Fn : Fun K "holds" "holds" sHol f fd) (F1 : FnG γ P w K mg base CX0 1 f1 fd1 ["row", "value"] (spR K RPla)) (m1 : mg "place" = some (.ref f1)) (k1 : PySem.W.keepIn K (.ref f1) = true) (b1 : Binds K fd1 ["row", "value"] []) (mL : mg "len" = none) : FnG γ P w K mg base CX0 2 f fd ["row", "value"] (spR K RHol) := by
  refine okR Fn scHol (fun ds d ⟨l, v, e, _⟩ => by rw [e]; rfl) fun cdv A outer s H B ow ds d Q E hgd hr hR k => ?_
  obtain ⟨l, v, rfl, asc, rfl⟩ := hR
  have hlen : ((l.map D.int).length : Int) = l.length := by rw [List.length_map]
  refine' rn_set (i := 2) (d := .int (cnt l v : Nat)) scHol.nd rfl (by first | exact .inl rfl | exact .inr rfl) ?h ?k
  case h => exact ve_R F1 hgd hr rfl m1 k1 b1 (va_cons (ve_var (i := 0) rfl rfl (by walk_at "vis")) (va_cons (ve_var (i := 1) rfl rfl (by walk_at "vis")) va_nil)) ⟨l, v, rfl, asc, rfl⟩
  case k =>
  intro B1 e1
  refine rn_ret (ve_is (ve_and (t := decide (cnt l v < l.length)) (u := decide (v ∈ l)) ?_ (fun h => ve_and1 ?_)) ?_) (k.ex e1)
  · exact ve_comp (ve_var (i := 2) rfl rfl (by walk_at "vis")) (ve_is (ve_bi (va_cons (ve_var (i := 0) rfl rfl (by walk_at "vis")) va_nil) rfl mL boot_len fo_lenT) (by rw [hlen])) (co_to co_lt (by congr 1; apply decide_eq_decide.mpr; omega))
  · have lt := of_decide_eq_true h
    have e : decide (v ∈ l) = decide (l[cnt l v] = v) := by
      apply decide_eq_decide.mpr
      rw [mem_cnt asc]
      exact ⟨fun z => z.2, fun z => ⟨lt, z⟩⟩
    rw [e]
    exact ve_comp (ve_sub (ve_var (d := .tup (l.map D.int)) (i := 0) rfl rfl (by walk_at "vis")) (ve_var (d := .int (cnt l v : Nat)) (i := 2) rfl rfl (by walk_at "vis")) (fun _ _ => rfl) (xo_tup (atN lt))) (ve_var (i := 1) rfl rfl (by walk_at "vis")) co_eqI
  · congr 1
    by_cases lt : cnt l v < l.length
    · simp [lt]
    · have z : ¬ v ∈ l := fun y => lt ((mem_cnt asc).mp y).1
      simp [lt, z]
end
/-! ### primes_of -/
open Per in
theorem prm_mul {r a b : Nat} (h : Prm r) (d : r ∣ a * b) : r ∣ a ∨ r ∣ b := by
  rcases h.2 _ (Nat.gcd_dvd_left r a) with e | e
  · exact .inr (Nat.Coprime.dvd_of_dvd_mul_left e d)
  · exact .inl (by rw [← e]; exact Nat.gcd_dvd_right r a)
open Per in
theorem prm_eq {r p : Nat} (h : Prm r) (hp : Prm p) (d : r ∣ p) : r = p := by
  rcases hp.2 r d with e | e
  · have := h.1
    omega
  · exact e
/-- how far the search for primes is: num is what is left of n, all smaller candidates are done, L is found -/
structure Srch (n num p : Nat) (L : List Nat) : Prop where
  one : 1 ≤ num
  two : 2 ≤ p
  low : ∀ r, Per.Prm r → r ∣ num → p ≤ r
  all : ∀ r, Per.Prm r → r ∣ n → r ∈ L ∨ r ∣ num
  ge : ∀ r ∈ L, 2 ≤ r ∧ r ≤ n
  small : 2 ^ L.length * num ≤ n
theorem Srch.le {n num p : Nat} {L : List Nat} (s : Srch n num p L) (h : 1 < num) : p ≤ num := by
  obtain ⟨r, hr, hd⟩ := Per.prm_ex num h
  exact Nat.le_trans (s.low r hr hd) (Nat.le_of_dvd s.one hd)
theorem Srch.numle {n num p : Nat} {L : List Nat} (s : Srch n num p L) : num ≤ n := Nat.le_trans (Nat.le_mul_of_pos_left num (Nat.two_pow_pos _)) s.small
theorem Srch.len {n num p : Nat} {L : List Nat} (s : Srch n num p L) (hn : n < 1073741824) : L.length < 30 := by
  apply Classical.byContradiction
  intro q
  have z : 2 ^ 30 ≤ 2 ^ L.length := Nat.pow_le_pow_right (by decide) (by omega)
  have y : 2 ^ L.length * 1 ≤ 2 ^ L.length * num := Nat.mul_le_mul_left _ s.one
  have x := s.small
  have e : (2 : Nat) ^ 30 = 1073741824 := by decide
  omega
theorem Srch.skip {n num p : Nat} {L : List Nat} (s : Srch n num p L) (h : ¬ p ∣ num) : Srch n num (p + 1) L :=
  ⟨s.one, by have := s.two; omega, fun r hr hd => by
    have z := s.low r hr hd
    have y : r ≠ p := fun e => h (e ▸ hd)
    omega, s.all, s.ge, s.small⟩
theorem Srch.isPrm {n num p : Nat} {L : List Nat} (s : Srch n num p L) (h : p ∣ num) : Per.Prm p := by
  obtain ⟨r, hr, hd⟩ := Per.prm_ex p s.two
  have z := s.low r hr (Nat.dvd_trans hd h)
  have y := Nat.le_of_dvd (by have := s.two; omega) hd
  have e : r = p := by omega
  exact e ▸ hr
/-- p is taken out once -/
theorem Srch.take {n num p : Nat} {L : List Nat} (s : Srch n num p L) (h : p ∣ num) : Srch n (num / p) p (L ++ [p]) := by
  have hp := s.isPrm h
  have pp : 0 < p := by have := s.two; omega
  have e : p * (num / p) = num := Nat.mul_div_cancel' h
  have one : 1 ≤ num / p := Nat.div_pos (Nat.le_of_dvd s.one h) pp
  refine ⟨one, s.two, fun r hr hd => s.low r hr (Nat.dvd_trans hd ⟨p, by rw [Nat.mul_comm]; exact e.symm⟩), fun r hr hd => ?_, fun r hr => ?_, ?_⟩
  · rcases s.all r hr hd with z | z
    · exact .inl (List.mem_append_left _ z)
    · rw [← e] at z
      rcases prm_mul hr z with y | y
      · exact .inl (List.mem_append_right _ (by rw [prm_eq hr hp y]; exact List.mem_singleton.mpr rfl))
      · exact .inr y
  · rcases List.mem_append.mp hr with z | z
    · exact s.ge r z
    · rw [List.mem_singleton.mp z]
      exact ⟨s.two, Nat.le_trans (Nat.le_of_dvd s.one h) s.numle⟩
  · rw [List.length_append, List.length_singleton, Nat.pow_succ]
    have z := s.small
    have y : 2 * (num / p) ≤ p * (num / p) := Nat.mul_le_mul_right _ s.two
    rw [e] at y
    have x : 2 ^ L.length * (2 * (num / p)) ≤ 2 ^ L.length * num := Nat.mul_le_mul_left _ y
    rw [← Nat.mul_assoc] at x
    omega
/-- p is taken out once more -/
theorem Srch.more {n num p : Nat} {L : List Nat} (s : Srch n num p L) (hp : Per.Prm p) (hL : p ∈ L) (h : p ∣ num) : Srch n (num / p) p L := by
  have pp : 0 < p := by have := s.two; omega
  have e : p * (num / p) = num := Nat.mul_div_cancel' h
  have one : 1 ≤ num / p := Nat.div_pos (Nat.le_of_dvd s.one h) pp
  refine ⟨one, s.two, fun r hr hd => s.low r hr (Nat.dvd_trans hd ⟨p, by rw [Nat.mul_comm]; exact e.symm⟩), fun r hr hd => ?_, s.ge, ?_⟩
  · rcases s.all r hr hd with z | z
    · exact .inl z
    · rw [← e] at z
      rcases prm_mul hr z with y | y
      · exact .inl (by rw [prm_eq hr hp y]; exact hL)
      · exact .inr y
  · exact Nat.le_trans (Nat.mul_le_mul_left _ (Nat.div_le_self num p)) s.small
end K2
set_option Elab.async false
set_option linter.all false
set_option maxRecDepth 100000
set_option maxHeartbeats 4000000
namespace K2
open PySem L2 Vd
open PySem.Spec PyProof.Rows
/-! the walk over data -/
local macro_rules | `(tactic| walk_at "vis") => `(tactic| first | exact Or.inl rfl | exact Or.inr (Or.inl rfl) | exact Or.inr (Or.inr rfl))
local macro_rules | `(tactic| walk_at "none") => `(tactic| first | assumption)
local macro_rules | `(tactic| walk_at "num") => `(tactic| first | decide | omega)
local macro_rules | `(tactic| walk_at "vr") => `(tactic| first
  | exact bo_add | exact bo_sub | exact bo_mulR (by decide) | exact bo_mulL (by decide) | exact bo_mod (by walk_at "num") | exact bo_div (by walk_at "num") (by walk_at "num") | exact bo_pow (by decide) (by decide) (by decide) | exact bo_cat (by walk_at "num") | exact bo_mulR (by omega) | exact bo_mulL (by omega))
local macro_rules | `(tactic| walk_at "vq") => `(tactic| first
  | exact co_lt | exact co_le | exact co_gt | exact co_ge | exact co_eqI | exact co_neI | exact co_eqS | exact co_neS)
local macro_rules | `(tactic| walk_at "vx") => `(tactic| first
  | exact xo_own (by assumption) rfl | exact xo_lst rfl | exact xo_tup rfl)
local macro_rules | `(tactic| walk_at "vf") => `(tactic| first
  | exact fo_abs | exact fo_lenL | exact fo_lenT | exact fo_lenO (by assumption) | exact fo_divmod (by walk_at "num") (by walk_at "num") | exact fo_max rfl | exact fo_min rfl)
local macro_rules | `(tactic| walk_at "vn") => `(tactic| first
  | exact ve_var (i := 0) rfl rfl (by walk_at "vis") | exact ve_var (i := 1) rfl rfl (by walk_at "vis") | exact ve_var (i := 2) rfl rfl (by walk_at "vis") | exact ve_var (i := 3) rfl rfl (by walk_at "vis") | exact ve_var (i := 4) rfl rfl (by walk_at "vis") | exact ve_var (i := 5) rfl rfl (by walk_at "vis") | exact ve_var (i := 6) rfl rfl (by walk_at "vis") | exact ve_var (i := 7) rfl rfl (by walk_at "vis"))
local macro_rules | `(tactic| walk_at "vd") => `(tactic| first
  | exact ve_int | exact ve_bl | exact ve_non | exact ve_str
  | (refine' ve_bin ?ha ?hb ?hr; (case ha => walk_at "vd"); (case hb => walk_at "vd"); (case hr => walk_at "vr"))
  | (refine' ve_sub ?ha ?hb (fun _ _ => rfl) ?hr; (case ha => walk_at "vd"); (case hb => walk_at "vd"); (case hr => walk_at "vx"))
  | (refine' ve_ty (id := "int") ?ha rfl ?hm boot_int ?hr; (case ha => walk_at "va"); (case hm => walk_at "none"); (case hr => exact to_int))
  | (refine' ve_bi ?ha rfl ?hm ?hv ?hr; (case hv => first | exact boot_abs | exact boot_len | exact boot_divmod | exact boot_max | exact boot_min); (case ha => walk_at "va"); (case hm => walk_at "none"); (case hr => walk_at "vf"))
  | (refine' ve_tup ?ha ?hl; (case ha => walk_at "va"); (case hl => walk_at "num"))
  | (refine' ve_lst ?ha ?hl; (case ha => walk_at "va"); (case hl => walk_at "num"))
  | (refine' ve_comp ?ha ?hb ?hr; (case ha => walk_at "vd"); (case hb => walk_at "vd"); (case hr => walk_at "vq"))
  | walk_at "vn")
local macro_rules | `(tactic| walk_at "va") => `(tactic| first | exact va_nil | (refine' va_cons ?ha ?hb; (case ha => walk_at "vd"); (case hb => walk_at "va")))
local macro_rules | `(tactic| walk_at "vt") => `(tactic| first
  | (refine' vt_comp ?ha ?hb ?hr; (case ha => walk_at "vd"); (case hb => walk_at "vd"); (case hr => walk_at "vq"))
  | (refine' vt_val ?hv; case hv => walk_at "vd"))
abbrev natD (n : Nat) : D := .int (n : Nat)
abbrev sPri : Stmt := s_primes_of
theorem scPri : FnScope ["number", "primes", "prime"] ["number"] (defScope sPri) := ⟨rfl, rfl, rfl, by decide +kernel, rfl, by decide +kernel, by decide +kernel⟩
def GPri (ds : List D) : Prop := ∃ n : Nat, ds = [natD n] ∧ 1 ≤ n ∧ n < 1073741824
def RPri (ds : List D) (d : D) : Prop := ∃ (n : Nat) (L : List Nat), ds = [natD n] ∧ d = .lst (L.map natD) ∧ (∀ r, Per.Prm r → r ∣ n → r ∈ L) ∧ (∀ r ∈ L, 2 ≤ r ∧ r ≤ n) ∧ L.length < 30
theorem mod_dvd {a b : Nat} : ((a : Int) % (b : Int) = 0) ↔ b ∣ a := by
  have e : (a : Int) % (b : Int) = ((a % b : Nat) : Int) := rfl
  rw [e]
  constructor
  · intro h
    exact Nat.dvd_of_mod_eq_zero (by omega)
  · intro h
    have := Nat.mod_eq_zero_of_dvd h
    omega
theorem sq_le {p n : Nat} (h : (p : Int) * (p : Int) ≤ (n : Int)) : p * p ≤ n := by
  have z : ((p * p : Nat) : Int) ≤ (n : Int) := by rw [Int.natCast_mul]; exact h
  omega
theorem sq_lt {p n : Nat} (h : ¬ (p : Int) * (p : Int) ≤ (n : Int)) : n < p * p := by
  have z : ¬ ((p * p : Nat) : Int) ≤ (n : Int) := by rw [Int.natCast_mul]; exact h
  omega
/-- what is left is a prime -/
theorem Srch.last {n num p : Nat} {L : List Nat} (s : Srch n num p L) (h : 1 < num) (q : num < p * p) : ∀ r, Per.Prm r → r ∣ n → r ∈ L ++ [num] := fun r hr hd => by
  rcases s.all r hr hd with z | z
  · exact List.mem_append_left _ z
  · obtain ⟨k, hk⟩ := z
    by_cases k1 : k = 1
    · rw [k1, Nat.mul_one] at hk
      exact List.mem_append_right _ (by rw [hk]; exact List.mem_singleton.mpr rfl)
    · have k0 : k ≠ 0 := fun e => by
        rw [e, Nat.mul_zero] at hk
        omega
      obtain ⟨t, ht, htd⟩ := Per.prm_ex k (by omega)
      have y1 := s.low r hr ⟨k, hk⟩
      have y2 := s.low t ht (Nat.dvd_trans htd ⟨r, by rw [Nat.mul_comm]; exact hk⟩)
      have y3 := Nat.le_of_dvd (by omega) htd
      have y4 : p * p ≤ r * k := Nat.mul_le_mul y1 (Nat.le_trans y2 y3)
      omega
theorem Srch.lastge {n num p : Nat} {L : List Nat} (s : Srch n num p L) (h : 1 < num) : ∀ r ∈ L ++ [num], 2 ≤ r ∧ r ≤ n := fun r hr => by
  rcases List.mem_append.mp hr with z | z
  · exact s.ge r z
  · rw [List.mem_singleton.mp z]
    exact ⟨h, s.numle⟩
theorem Srch.lastlen {n num p : Nat} {L : List Nat} (s : Srch n num p L) (h : 1 < num) (hn : n < 1073741824) : (L ++ [num]).length < 30 := by
  rw [List.length_append, List.length_singleton]
  apply Classical.byContradiction
  intro q
  have z : 2 ^ 29 ≤ 2 ^ L.length := Nat.pow_le_pow_right (by decide) (by omega)
  have y : 2 ^ L.length * 2 ≤ 2 ^ L.length * num := Nat.mul_le_mul_left _ h
  have x := s.small
  have e : (2 : Nat) ^ 29 = 536870912 := by decide
  omega
section
variable {P : Program} {w : World} {K : PySem.W.Frag} {mg : Str → Option Value} {base : Heap}
theorem ok_primes {f : Addr} {fd : FuncData} (Fn : Fun K "primes_of" "primes_of" sPri f fd) : FnG γ P w K mg base CX0 1 f fd ["number"] (spE K GPri RPri) := by
  refine okE Fn scPri (fun ds ⟨n, e, _⟩ => by rw [e]; rfl) fun cdv A outer s H B ow ds Q E hgd hr hG k => ?_
  obtain ⟨n, rfl, hn1, hn2⟩ := hG
  refine' rn_newL (j := 1) (ds := []) scPri.nd rfl (by first | exact .inl rfl | exact .inr rfl) va_nil (Nat.zero_le _) ?k
  case k =>
  intro B1 q e1 hq
  refine' rn_set (i := 2) (d := natD 2) scPri.nd rfl (by first | exact .inl rfl | exact .inr rfl) ve_int ?k
  case k =>
  intro B2 e2
  refine' rn_while (fun m env ow' => ∃ (num p : Nat) (L : List Nat), env = [some (natD num), some (.ob (.ref q)), some (natD p)] ∧ ow' = ou ow q (.lst (L.map natD)) ∧ Srch n num p L ∧ p ≤ n + 1 ∧ m = n + 1 - p) PassesOwn.never
    ⟨_, n, 2, [], rfl, rfl, ⟨hn1, Nat.le_refl _, fun r hr _ => hr.1, fun r _ hd => .inr hd, fun r hr => absurd hr (by simp), by simp⟩, by omega, rfl⟩ ?hs
  case hs =>
    rintro B3 m env' ow' e3 ⟨num, p, L, rfl, rfl, S, pb, rfl⟩
    refine ⟨decide ((p : Int) * (p : Int) ≤ (num : Int)), ?_, fun t B4 e4 => ?_, fun t B4 e4 => ?_⟩
    · exact vt_comp (ve_bin (ve_var (i := 2) rfl rfl (by walk_at "vis")) (ve_var (i := 2) rfl rfl (by walk_at "vis")) (bo_mulR (by omega))) (ve_var (i := 0) rfl rfl (by walk_at "vis")) co_le
    · have sq : p * p ≤ num := sq_le (of_decide_eq_true t)
      have num1 : 1 < num := by
        have y := S.two
        have z := Nat.mul_le_mul y y
        omega
      have pn : p ≤ n := Nat.le_trans (S.le num1) S.numle
      have p2 := S.two
      have hlen := S.len hn2
      refine' rn_if (t := decide ((num : Int) % (p : Int) = 0)) ?h ?h1 ?h2
      case h => exact vt_comp (ve_bin (ve_var (i := 0) rfl rfl (by walk_at "vis")) (ve_var (i := 2) rfl rfl (by walk_at "vis")) (bo_mod (by omega))) ve_int co_eqI
      case h1 =>
        intro t1 B5 e5
        have dv : p ∣ num := mod_dvd.mp (of_decide_eq_true t1)
        refine' rn_app (q := q) (d := natD p) ?ho ou_same ?he ?hl ?k
        case ho => exact ve_var (i := 1) rfl rfl (by walk_at "vis")
        case he => exact ve_var (i := 2) rfl rfl (by walk_at "vis")
        case hl => rw [List.length_map]; omega
        case k =>
        intro B6 e6
        have eo : ou (ou ow q (.lst (L.map natD))) q (.lst (L.map natD ++ [natD p])) = ou ow q (.lst ((L ++ [p]).map natD)) := by rw [ou_ou, List.map_append]; rfl
        rw [eo]
        refine' rn_while (fun m2 env ow' => ∃ num2 : Nat, env = [some (natD num2), some (.ob (.ref q)), some (natD p)] ∧ ow' = ou ow q (.lst ((L ++ [p]).map natD)) ∧ (num2 = num ∨ Srch n num2 p (L ++ [p])) ∧ num2 = m2) PassesOwn.never ⟨_, num, rfl, rfl, .inl rfl, rfl⟩ ?hs2
        case hs2 =>
          rintro B7 m2 env2 ow2 e7 ⟨num2, rfl, rfl, hS, rfl⟩
          refine ⟨decide ((num2 : Int) % (p : Int) = 0), ?_, fun t2 B8 e8 => ?_, fun t2 B8 e8 => ?_⟩
          · exact vt_comp (ve_bin (ve_var (i := 0) rfl rfl (by walk_at "vis")) (ve_var (i := 2) rfl rfl (by walk_at "vis")) (bo_mod (by omega))) ve_int co_eqI
          · have dv2 : p ∣ num2 := mod_dvd.mp (of_decide_eq_true t2)
            have S2 : Srch n (num2 / p) p (L ++ [p]) := by
              rcases hS with e | S2
              · rw [e]; exact S.take dv
              · exact S2.more (S.isPrm dv) (by simp) dv2
            have pos2 : 1 ≤ num2 := by
              rcases hS with e | S2
              · omega
              · exact S2.one
            refine' rn_set (i := 0) (d := natD (num2 / p)) scPri.nd rfl (by first | exact .inl rfl | exact .inr rfl) ?h ?k
            case h => exact ve_bin (ve_var (i := 0) rfl rfl (by walk_at "vis")) (ve_var (i := 2) rfl rfl (by walk_at "vis")) (bo_div (by omega) (by omega))
            case k =>
            intro B9 e9
            refine rn_nextW ?_ (e8.trans e9)
            exact ⟨_, Nat.div_lt_self pos2 (by omega), num2 / p, rfl, rfl, .inr S2, rfl⟩
          · have nd : ¬ p ∣ num2 := fun z => of_decide_eq_false t2 (mod_dvd.mpr z)
            have S2 : Srch n num2 p (L ++ [p]) := by
              rcases hS with e | S2
              · exact absurd (e ▸ dv) nd
              · exact S2
            refine rn_go ?_
            refine' rn_addTo (j := 2) (n := (p : Int)) scPri.nd rfl (by first | exact .inl rfl | exact .inr rfl) rfl ve_int ?k
            case k =>
            intro B9 e9
            refine rn_nextW ?_ (e4.trans (e5.trans (e6.trans (e7.trans (e8.trans e9)))))
            exact ⟨_, by omega, num2, p + 1, L ++ [p], rfl, rfl, S2.skip nd, by omega, rfl⟩
      case h2 =>
        intro t1 B5 e5
        have nd : ¬ p ∣ num := fun z => of_decide_eq_false t1 (mod_dvd.mpr z)
        refine rn_go ?_
        refine' rn_addTo (j := 2) (n := (p : Int)) scPri.nd rfl (by first | exact .inl rfl | exact .inr rfl) rfl ve_int ?k
        case k =>
        intro B6 e6
        refine rn_nextW ?_ (e4.trans (e5.trans e6))
        exact ⟨_, by omega, num, p + 1, L, rfl, rfl, S.skip nd, by omega, rfl⟩
    · have sq : num < p * p := sq_lt (of_decide_eq_false t)
      refine' rn_if (t := decide ((1 : Int) < (num : Int))) ?h ?h1 ?h2
      case h => exact vt_comp (ve_var (i := 0) rfl rfl (by walk_at "vis")) ve_int co_gt
      case h1 =>
        intro t1 B5 e5
        have num1 : 1 < num := by
          have := of_decide_eq_true t1
          omega
        have hlen := S.len hn2
        refine' rn_app (q := q) (d := natD num) ?ho ou_same ?he ?hl ?k
        case ho => exact ve_var (i := 1) rfl rfl (by walk_at "vis")
        case he => exact ve_var (i := 0) rfl rfl (by walk_at "vis")
        case hl => rw [List.length_map]; omega
        case k =>
        intro B6 e6
        have eo : ou (ou ow q (.lst (L.map natD))) q (.lst (L.map natD ++ [natD num])) = ou ow q (.lst ((L ++ [num]).map natD)) := by rw [ou_ou, List.map_append]; rfl
        rw [eo]
        refine rn_go ?_
        refine' rn_freeze (j := 1) (q := q) rfl ou_same ?k
        case k =>
        intro B7 e7
        refine rn_ret (ve_var (d := .lst ((L ++ [num]).map natD)) (i := 1) rfl rfl (by walk_at "vis")) (fun F2 H2 v x2 w2 r2 => k _ ⟨n, L ++ [num], rfl, rfl, S.last num1 sq, S.lastge num1, S.lastlen num1 hn2⟩ F2 H2 v (e1.trans (e2.trans (e3.trans (e4.trans (e5.trans (e6.trans (e7.trans x2))))))) (w2.drop fun b o hb => ?_) r2)
        have nq : b ≠ q := fun z => by rw [z, hq] at hb; cases hb
        rw [oz_ne nq, ou_ne nq]
        exact hb
      case h2 =>
        intro t1 B5 e5
        have one : num = 1 := by
          have h1 := of_decide_eq_false t1
          have h2 := S.one
          omega
        subst one
        refine rn_go ?_
        refine' rn_freeze (j := 1) (q := q) rfl ou_same ?k
        case k =>
        intro B6 e6
        refine rn_ret (ve_var (d := .lst (L.map natD)) (i := 1) rfl rfl (by walk_at "vis")) (fun F2 H2 v x2 w2 r2 => k _ ⟨n, L, rfl, rfl, fun r hr hd => ?_, S.ge, S.len hn2⟩ F2 H2 v (e1.trans (e2.trans (e3.trans (e4.trans (e5.trans (e6.trans x2)))))) (w2.drop fun b o hb => ?_) r2)
        · rcases S.all r hr hd with z | z
          · exact z
          · have := Nat.le_of_dvd (by decide) z
            have := hr.1
            omega
        · have nq : b ≠ q := fun z => by rw [z, hq] at hb; cases hb
          rw [oz_ne nq, ou_ne nq]
          exact hb
end
end K2
set_option Elab.async false
set_option linter.all false
set_option maxRecDepth 100000
set_option maxHeartbeats 4000000
namespace K2
open PySem L2 Vd
open PySem.Spec PyProof.Rows
/-! the walk over data -/
local macro_rules | `(tactic| walk_at "vis") => `(tactic| first | exact Or.inl rfl | exact Or.inr (Or.inl rfl) | exact Or.inr (Or.inr rfl))
local macro_rules | `(tactic| walk_at "none") => `(tactic| first | assumption)
local macro_rules | `(tactic| walk_at "num") => `(tactic| first | decide | omega)
local macro_rules | `(tactic| walk_at "vr") => `(tactic| first
  | exact bo_add | exact bo_sub | exact bo_mulR (by decide) | exact bo_mulL (by decide) | exact bo_mod (by walk_at "num") | exact bo_div (by walk_at "num") (by walk_at "num") | exact bo_pow (by decide) (by decide) (by decide) | exact bo_cat (by walk_at "num") | exact bo_mulR (by omega) | exact bo_mulL (by omega))
local macro_rules | `(tactic| walk_at "vq") => `(tactic| first
  | exact co_lt | exact co_le | exact co_gt | exact co_ge | exact co_eqI | exact co_neI | exact co_eqS | exact co_neS)
local macro_rules | `(tactic| walk_at "vx") => `(tactic| first
  | exact xo_own (by assumption) rfl | exact xo_lst rfl | exact xo_tup rfl)
local macro_rules | `(tactic| walk_at "vf") => `(tactic| first
  | exact fo_abs | exact fo_lenL | exact fo_lenT | exact fo_lenO (by assumption) | exact fo_divmod (by walk_at "num") (by walk_at "num") | exact fo_max rfl | exact fo_min rfl)
local macro_rules | `(tactic| walk_at "vn") => `(tactic| first
  | exact ve_var (i := 0) rfl rfl (by walk_at "vis") | exact ve_var (i := 1) rfl rfl (by walk_at "vis") | exact ve_var (i := 2) rfl rfl (by walk_at "vis") | exact ve_var (i := 3) rfl rfl (by walk_at "vis") | exact ve_var (i := 4) rfl rfl (by walk_at "vis") | exact ve_var (i := 5) rfl rfl (by walk_at "vis") | exact ve_var (i := 6) rfl rfl (by walk_at "vis") | exact ve_var (i := 7) rfl rfl (by walk_at "vis"))
local macro_rules | `(tactic| walk_at "vd") => `(tactic| first
  | exact ve_int | exact ve_bl | exact ve_non | exact ve_str
  | (refine' ve_bin ?ha ?hb ?hr; (case ha => walk_at "vd"); (case hb => walk_at "vd"); (case hr => walk_at "vr"))
  | (refine' ve_sub ?ha ?hb (fun _ _ => rfl) ?hr; (case ha => walk_at "vd"); (case hb => walk_at "vd"); (case hr => walk_at "vx"))
  | (refine' ve_ty (id := "int") ?ha rfl ?hm boot_int ?hr; (case ha => walk_at "va"); (case hm => walk_at "none"); (case hr => exact to_int))
  | (refine' ve_bi ?ha rfl ?hm ?hv ?hr; (case hv => first | exact boot_abs | exact boot_len | exact boot_divmod | exact boot_max | exact boot_min); (case ha => walk_at "va"); (case hm => walk_at "none"); (case hr => walk_at "vf"))
  | (refine' ve_tup ?ha ?hl; (case ha => walk_at "va"); (case hl => walk_at "num"))
  | (refine' ve_lst ?ha ?hl; (case ha => walk_at "va"); (case hl => walk_at "num"))
  | (refine' ve_comp ?ha ?hb ?hr; (case ha => walk_at "vd"); (case hb => walk_at "vd"); (case hr => walk_at "vq"))
  | walk_at "vn")
local macro_rules | `(tactic| walk_at "va") => `(tactic| first | exact va_nil | (refine' va_cons ?ha ?hb; (case ha => walk_at "vd"); (case hb => walk_at "va")))
local macro_rules | `(tactic| walk_at "vt") => `(tactic| first
  | (refine' vt_comp ?ha ?hb ?hr; (case ha => walk_at "vd"); (case hb => walk_at "vd"); (case hr => walk_at "vq"))
  | (refine' vt_val ?hv; case hv => walk_at "vd"))
def toI (n : Nat) : Int := (n : Int)
theorem natD_ints (M : List Nat) : M.map natD = (M.map toI).map D.int := by rw [List.map_map]; rfl
theorem ints_inj : ∀ {M N : List Nat}, M.map toI = N.map toI ↔ M = N
  | [], [] => by simp
  | [], _ :: _ => by simp
  | _ :: _, [] => by simp
  | a :: M, b :: N => by
    rw [List.map_cons, List.map_cons, List.cons_eq_cons, List.cons_eq_cons, ints_inj (M := M) (N := N)]
    constructor
    · rintro ⟨h, r⟩
      have h' : (a : Int) = (b : Int) := h
      exact ⟨by omega, r⟩
    · rintro ⟨h, r⟩
      exact ⟨by rw [h], r⟩
theorem cut_from {l : List D} {c : Nat} (h : c ≤ l.length) : Vd.cutD l (some (c : Int)) none = l.drop c := by
  unfold Vd.cutD
  rw [HT.sIx_nat, HT.sIx_none, Nat.min_eq_left h]
  exact List.take_of_length_le (by rw [List.length_drop]; omega)
theorem cut_to {l : List D} {c : Nat} (h : c ≤ l.length) : Vd.cutD l none (some (c : Int)) = l.take c := by
  unfold Vd.cutD
  rw [HT.sIx_nat, HT.sIx_none, Nat.min_eq_left h, List.drop_zero, Nat.sub_zero]
abbrev sRep : Stmt := s_repeats
theorem scRep : FnScope ["period", "marks", "parts", "many", "stride", "mark"] ["period", "marks", "parts"] (defScope sRep) := ⟨rfl, rfl, rfl, by decide +kernel, rfl, by decide +kernel, by decide +kernel⟩
instance (M : List Nat) (k s c : Nat) : Decidable (Per.Rep M k s c) := by unfold Per.Rep; exact inferInstance
def RRep (ds : List D) (d : D) : Prop := ∃ (n k : Nat) (M : List Nat), ds = [natD n, .tup (M.map natD), natD k] ∧ 1 ≤ k ∧ k < 1073741824 ∧ M.length ≤ 100000 ∧ d = .bl (decide (Per.Rep M k (n / k) (M.length / k)))
section
variable {P : Program} {w : World} {K : PySem.W.Frag} {mg : Str → Option Value} {base : Heap}
theorem ok_repeats {f : Addr} {fd : FuncData} (Fn : Fun K "repeats" "repeats" sRep f fd) (mL : mg "len" = none) (mLi : mg "list" = none) : FnG γ P w K mg base CX0 1 f fd ["period", "marks", "parts"] (spR K RRep) := by
  refine okR Fn scRep (fun ds d ⟨n, k, M, e, _⟩ => by rw [e]; rfl) fun cdv A outer s H B ow ds d Q E hgd hr hR kQ => ?_
  obtain ⟨n, k, M, rfl, hk1, hk2, hM, rfl⟩ := hR
  have hu64 : A.units + 3 + 64 < cLine := by
    have z := hr.un
    have z2 : A.units + 3 + 16 * 0 + 200 < cLine := z
    omega
  have hlen : (((M.map natD).length : Nat) : Int) = ((M.length : Nat) : Int) := by rw [List.length_map]
  obtain ⟨c, hc⟩ : ∃ c, c = M.length / k := ⟨_, rfl⟩
  obtain ⟨st, hst⟩ : ∃ st, st = n / k := ⟨_, rfl⟩
  rw [← hc, ← hst] at kQ
  have cle : c ≤ M.length := by rw [hc]; exact Nat.div_le_self _ _
  refine' rn_set (i := 3) (d := natD c) scRep.nd rfl (by first | exact .inl rfl | exact .inr rfl) ?h ?k
  case h => exact ve_is (ve_bin (ve_bi (va_cons (ve_var (d := .tup (M.map natD)) (i := 1) rfl rfl (by walk_at "vis")) va_nil) rfl mL boot_len fo_lenT) (ve_var (i := 2) rfl rfl (by walk_at "vis")) (bo_div (by omega) (by omega))) (by rw [hlen, hc]; rfl)
  case k =>
  intro B1 e1
  refine' rn_if (t := !decide ((c : Int) * (k : Int) = (M.length : Int))) ?h ?h1 ?h2
  case h => exact vt_comp (ve_bin (ve_var (i := 3) rfl rfl (by walk_at "vis")) (ve_var (i := 2) rfl rfl (by walk_at "vis")) (bo_mulL (by omega))) (ve_is (ve_bi (va_cons (ve_var (d := .tup (M.map natD)) (i := 1) rfl rfl (by walk_at "vis")) va_nil) rfl mL boot_len fo_lenT) (by rw [hlen])) co_neI
  case h1 =>
    intro t B2 e2
    have ne : ¬ c * k = M.length := by
      intro z
      have y : (c : Int) * (k : Int) = (M.length : Int) := by rw [← z]; rfl
      rw [decide_eq_true y] at t
      cases t
    have no : decide (Per.Rep M k st c) = false := decide_eq_false fun z => ne z.1
    rw [no] at kQ
    exact rn_ret ve_bl (kQ.ex (e1.trans e2))
  case h2 =>
    intro t B2 e2
    have eq : c * k = M.length := by
      apply Classical.byContradiction
      intro z
      have y : ¬ (c : Int) * (k : Int) = (M.length : Int) := fun q => z (by exact Int.ofNat.inj q)
      rw [decide_eq_false y] at t
      cases t
    refine rn_go ?_
    refine' rn_set (i := 4) (d := natD st) scRep.nd rfl (by first | exact .inl rfl | exact .inr rfl) ?h ?k
    case h => exact ve_is (ve_bin (ve_var (i := 0) rfl rfl (by walk_at "vis")) (ve_var (i := 2) rfl rfl (by walk_at "vis")) (bo_div (by omega) (by omega))) (by rw [hst]; rfl)
    case k =>
    intro B3 e3
    have dd : decide (Per.Rep M k st c) = decide ((M.drop c).map toI = ((M.take (M.length - c)).map (· + st)).map toI) := by
      apply decide_eq_decide.mpr
      rw [ints_inj]
      exact ⟨fun z => z.2, fun z => ⟨eq, z⟩⟩
    rw [dd] at kQ
    refine rn_ret (ve_comp (d1 := .lst (((M.drop c).map toI).map D.int)) (d2 := .lst ((((M.take (M.length - c)).map (· + st)).map toI).map D.int)) ?_ ?_ (co_eqIL hu64)) (kQ.ex (e1.trans (e2.trans e3)))
    · refine ve_is (ve_ty (va_cons (ve_sliceT (ve_var (d := .tup (M.map natD)) (i := 1) rfl rfl (by walk_at "vis")) (vp_some (ve_var (d := .int (c : Nat)) (i := 3) rfl rfl (by walk_at "vis"))) vp_none) va_nil) rfl mLi boot_list to_listT) ?_
      rw [cut_from (by rw [List.length_map]; exact cle), ← List.map_drop, natD_ints]
    · refine ve_is (ve_lc (j := 5) (fun _ => true) (fun d => match d with | .int m => .int (m + st) | d => d) (ds := (M.take (M.length - c)).map natD) rfl scRep.nd ?_ (blkOk_by (N := ["period", "marks", "parts", "many", "stride", "mark"]) (sc := defScope sRep) (by decide +kernel)) ?_ (fun _ _ _ _ _ => pg_name scRep.nd rfl (.inl rfl)) (fun _ _ _ _ _ _ _ _ _ => vts_nil) ?_) ?_
      · refine vi_tup (ve_is (ve_sliceT (ve_var (d := .tup (M.map natD)) (i := 1) rfl rfl (by walk_at "vis")) vp_none (vp_some (n := ((M.length - c : Nat) : Int)) ?_)) ?_)
        · exact ve_is (ve_bin (ve_bi (va_cons (ve_var (d := .tup (M.map natD)) (i := 1) rfl rfl (by walk_at "vis")) va_nil) rfl mL boot_len fo_lenT) (ve_var (d := .int (c : Nat)) (i := 3) rfl rfl (by walk_at "vis")) bo_sub) (by rw [hlen]; congr 1; omega)
        · rw [cut_to (by rw [List.length_map]; omega), ← List.map_take]
      · rw [List.length_map, List.length_take]; omega
      · intro d ow' hd _ sub s0 H0 C0 cl fp
        obtain ⟨m, hm, rfl⟩ := List.mem_map.mp hd
        exact ve_bin (ve_var (d := natD m) (i := 5) rfl rfl (by walk_at "vis")) (ve_var (d := natD st) (i := 4) rfl rfl (by walk_at "vis")) bo_add
      · rw [List.filter_eq_self.mpr (fun _ _ => rfl), List.map_map, List.map_map, List.map_map]
        congr 1
end
end K2
set_option Elab.async false
set_option linter.all false
set_option maxRecDepth 100000
set_option maxHeartbeats 4000000
/-! for x in f(..), the list told by a property. -/
namespace Vd
open PySem L2
open PySem.Spec PyProof.Rows
section
variable {X : Cx} {B : Hp} {env : List (Option D)} {ow : Ow} {tg it : Expr} {pos : Pos} {Dn : Ends} {rest : List Stmt}
theorem rn_forE {g : TG} {f : D → List (Option D) → List (Option D)} {body : List Stmt} (R : List D → Prop) (I : List D → Nat → List (Option D) → Ow → Prop) (hp : PassesOwn (model X.prog X.w) X.A X.env X.xe) (hc : X.calm = true) (hi : Vm X it env ow fun d ow2 => ow2 = ow ∧ ∃ ds, d = .lst ds ∧ R ds) (hg : PG X tg g) (hgd : ∀ ow d, Gd X.K ow g d (f d)) (h0 : ∀ ds, R ds → I ds 0 env ow)
    (hs : ∀ ds B' i d env' ow', R ds → Ex B B' → ds[i]? = some d → I ds i env' ow' → Rn X B' body (Turn X B' rest Dn (I ds (i + 1))) (f d env') ow') (hd : ∀ ds B' env' ow', R ds → Ex B B' → I ds ds.length env' ow' → Rn X B' rest Dn env' ow')
    (hfs : ∀ x, foldedSetIterable it X.env x = pure x := by intro _; rfl) : Rn X B (.For tg it body [] pos :: rest) Dn env ow := rn_one (by
  refine ⟨_, ps_for hp hc (pi_list pe_can) hg pss_can hfs, fun σ F H eB s w => hi σ F H _ s w fun F1 H1 v d ow2 e1 w1 r1 hR => ?_⟩
  obtain ⟨rfl, ds, rfl, hR⟩ := hR
  cases r1 with
  | lst h1 s1 =>
    have src := src_list (K := X.K) h1 s1
    refine ⟨_, rfl, ⟨_, SqL.of (w1.ex _ _ h1)⟩, ?_⟩
    refine ⟨fun i m σ H => m = ds.length - i ∧ i ≤ ds.length ∧ Nx X.K F1 (I ds i) σ H, ⟨ds.length, by simp, Nat.zero_le _, F1, env, ow2, Evl.Ex.refl F1, s.mono e1, w1, h0 ds hR⟩, ?_⟩
    rintro i m σ' H' ⟨rfl, hi, F', env', ow', eF, s', w', hI⟩
    obtain ⟨stop, go⟩ := src F' H' ow' i eF w'
    by_cases hlt : i < ds.length
    · obtain ⟨hgo, hy⟩ := go ds[i] (by simp [hlt])
      refine .inr ⟨hgo, Nx X.K F1 (I ds (i + 1)), fun σ2 H2 q => ⟨ds.length - (i + 1), by omega, rfl, hlt, q⟩, fun x H2 hx => ?_⟩
      obtain ⟨F2, e2, w2, r2⟩ := hy x H2 hx
      refine hgd ow' ds[i] env' σ' F2 H2 x _ (s'.mono e2) w2 r2 fun σ2 s2 => ?_
      exact hs ds F1 i ds[i] env' ow' hR (eB.trans e1) (by simp [hlt]) hI σ2 F2 H2 (eF.trans e2) s2 w2
    · have e : i = ds.length := by omega
      subst e
      exact .inl ⟨stop (Nat.le_refl _), hd ds F1 env' ow' hR (eB.trans e1) hI σ' F' H' eF s' w'⟩)
end
end Vd
set_option Elab.async false
set_option linter.all false
set_option maxRecDepth 100000
set_option maxHeartbeats 4000000
namespace K2
open PySem L2 Vd
open PySem.Spec PyProof.Rows
/-! the walk over data -/
local macro_rules | `(tactic| walk_at "vis") => `(tactic| first | exact Or.inl rfl | exact Or.inr (Or.inl rfl) | exact Or.inr (Or.inr rfl))
local macro_rules | `(tactic| walk_at "none") => `(tactic| first | assumption)
local macro_rules | `(tactic| walk_at "num") => `(tactic| first | decide | omega)
local macro_rules | `(tactic| walk_at "vr") => `(tactic| first
  | exact bo_add | exact bo_sub | exact bo_mulR (by decide) | exact bo_mulL (by decide) | exact bo_mod (by walk_at "num") | exact bo_div (by walk_at "num") (by walk_at "num") | exact bo_pow (by decide) (by decide) (by decide) | exact bo_cat (by walk_at "num") | exact bo_mulR (by omega) | exact bo_mulL (by omega))
local macro_rules | `(tactic| walk_at "vq") => `(tactic| first
  | exact co_lt | exact co_le | exact co_gt | exact co_ge | exact co_eqI | exact co_neI | exact co_eqS | exact co_neS)
local macro_rules | `(tactic| walk_at "vx") => `(tactic| first
  | exact xo_own (by assumption) rfl | exact xo_lst rfl | exact xo_tup rfl)
local macro_rules | `(tactic| walk_at "vf") => `(tactic| first
  | exact fo_abs | exact fo_lenL | exact fo_lenT | exact fo_lenO (by assumption) | exact fo_divmod (by walk_at "num") (by walk_at "num") | exact fo_max rfl | exact fo_min rfl)
local macro_rules | `(tactic| walk_at "vn") => `(tactic| first
  | exact ve_var (i := 0) rfl rfl (by walk_at "vis") | exact ve_var (i := 1) rfl rfl (by walk_at "vis") | exact ve_var (i := 2) rfl rfl (by walk_at "vis") | exact ve_var (i := 3) rfl rfl (by walk_at "vis") | exact ve_var (i := 4) rfl rfl (by walk_at "vis") | exact ve_var (i := 5) rfl rfl (by walk_at "vis") | exact ve_var (i := 6) rfl rfl (by walk_at "vis") | exact ve_var (i := 7) rfl rfl (by walk_at "vis"))
local macro_rules | `(tactic| walk_at "vd") => `(tactic| first
  | exact ve_int | exact ve_bl | exact ve_non | exact ve_str
  | (refine' ve_bin ?ha ?hb ?hr; (case ha => walk_at "vd"); (case hb => walk_at "vd"); (case hr => walk_at "vr"))
  | (refine' ve_sub ?ha ?hb (fun _ _ => rfl) ?hr; (case ha => walk_at "vd"); (case hb => walk_at "vd"); (case hr => walk_at "vx"))
  | (refine' ve_ty (id := "int") ?ha rfl ?hm boot_int ?hr; (case ha => walk_at "va"); (case hm => walk_at "none"); (case hr => exact to_int))
  | (refine' ve_bi ?ha rfl ?hm ?hv ?hr; (case hv => first | exact boot_abs | exact boot_len | exact boot_divmod | exact boot_max | exact boot_min); (case ha => walk_at "va"); (case hm => walk_at "none"); (case hr => walk_at "vf"))
  | (refine' ve_tup ?ha ?hl; (case ha => walk_at "va"); (case hl => walk_at "num"))
  | (refine' ve_lst ?ha ?hl; (case ha => walk_at "va"); (case hl => walk_at "num"))
  | (refine' ve_comp ?ha ?hb ?hr; (case ha => walk_at "vd"); (case hb => walk_at "vd"); (case hr => walk_at "vq"))
  | walk_at "vn")
local macro_rules | `(tactic| walk_at "va") => `(tactic| first | exact va_nil | (refine' va_cons ?ha ?hb; (case ha => walk_at "vd"); (case hb => walk_at "va")))
local macro_rules | `(tactic| walk_at "vt") => `(tactic| first
  | (refine' vt_comp ?ha ?hb ?hr; (case ha => walk_at "vd"); (case hb => walk_at "vd"); (case hr => walk_at "vq"))
  | (refine' vt_val ?hv; case hv => walk_at "vd"))
/-! ### shortest -/
open Per in
theorem exists_lst (n : Nat) : ∀ M : List Nat, Pat n M → ∃ a A, Lst n M a A := by
  induction n using Nat.strongRecOn with
  | ind n ih =>
    intro M p
    by_cases irr : ∀ q, Prm q → q ∣ n → ¬ P (fn n M) (n / q)
    · exact ⟨n, M, Lst.of_irr p rfl irr⟩
    · have : ∃ q, Prm q ∧ q ∣ n ∧ P (fn n M) (n / q) := by
        apply Classical.byContradiction
        intro no
        exact irr fun q h1 h2 h3 => no ⟨q, h1, h2, h3⟩
      obtain ⟨q, hq, hd, hP⟩ := this
      have q2 : 0 < q := by have := hq.1; omega
      have r : Rep M q (n / q) (M.length / q) := by
        apply Classical.byContradiction
        intro no
        exact p.stop q2 hd no hP
      obtain ⟨p2, e2⟩ := p.step q2 hd r
      obtain ⟨a, A, h⟩ := ih (n / q) (Nat.div_lt_self p.pos hq.1) _ p2
      refine ⟨a, A, h.pat, h.eq.trans e2, fun m hm hP2 => h.min m hm ?_⟩
      rw [e2]
      exact hP2
/-- r makes the pattern of length a no shorter -/
def Irr (f : Nat → Bool) (a r : Nat) : Prop := r ∣ a → ¬ Per.P f (a / r)
theorem Irr.step {f : Nat → Bool} {a r k : Nat} (h : Irr f a r) (d : k ∣ a) (hk : 0 < k) (hr : 0 < r) : Irr f (a / k) r := fun hd hP => by
  obtain ⟨b, rfl⟩ := d
  rw [Nat.mul_div_cancel_left _ hk] at hd hP
  obtain ⟨c, rfl⟩ := hd
  rw [Nat.mul_div_cancel_left _ hr] at hP
  have e : k * (r * c) = r * (k * c) := Nat.mul_left_comm ..
  refine h ⟨k * c, e⟩ ?_
  rw [e, Nat.mul_div_cancel_left _ hr]
  exact hP.dvd (Nat.dvd_mul_left _ _)
abbrev sSho : Stmt := s_shortest
theorem scSho : FnScope ["period", "marks", "prime"] ["period", "marks"] (defScope sSho) := ⟨rfl, rfl, rfl, by decide +kernel, rfl, by decide +kernel, by decide +kernel⟩
def RSho (ds : List D) (d : D) : Prop := ∃ (n a : Nat) (M A : List Nat), ds = [natD n, .tup (M.map natD)] ∧ Per.Pat n M ∧ n < 1073741824 ∧ M.length ≤ 100000 ∧ Per.Lst n M a A ∧ d = .tup [natD a, .tup (A.map natD)]
/-- the loop: a, A tells the set of n, M, the r of done make it no shorter -/
structure Shr (n : Nat) (M : List Nat) (done : List Nat) (a : Nat) (A : List Nat) : Prop where
  pat : Per.Pat a A
  eq : Per.fn a A = Per.fn n M
  dv : a ∣ n
  len : A.length ≤ M.length
  irr : ∀ r ∈ done, Irr (Per.fn n M) a r
section
variable {P : Program} {w : World} {K : PySem.W.Frag} {mg : Str → Option Value} {base : Heap}
theorem ok_shortest {f f1 f2 : Addr} {fd fd1 fd2 : FuncData} (Fn : Fun K "shortest" "shortest" sSho f fd) (F1 : FnG γ P w K mg base CX0 1 f1 fd1 ["number"] (spE K GPri RPri)) (m1 : mg "primes_of" = some (.ref f1)) (k1 : PySem.W.keepIn K (.ref f1) = true) (b1 : Binds K fd1 ["number"] [])
    (F2 : FnG γ P w K mg base CX0 1 f2 fd2 ["period", "marks", "parts"] (spR K RRep)) (m2 : mg "repeats" = some (.ref f2)) (k2 : PySem.W.keepIn K (.ref f2) = true) (b2 : Binds K fd2 ["period", "marks", "parts"] []) (mL : mg "len" = none) : FnG γ P w K mg base CX0 2 f fd ["period", "marks"] (spR K RSho) := by
  refine okR Fn scSho (fun ds d ⟨n, a, M, A, e, _⟩ => by rw [e]; rfl) fun cdv A0 outer s H B ow ds d Q E hgd hrm hR kQ => ?_
  obtain ⟨n, a0, M, A00, rfl, pat, hn, hM, hL, rfl⟩ := hR
  have npos := pat.pos
  refine' rn_forE (fun ds => ∃ L : List Nat, ds = L.map natD ∧ (∀ r, Per.Prm r → r ∣ n → r ∈ L) ∧ (∀ r ∈ L, 2 ≤ r ∧ r ≤ n)) (g := gName 2) (f := fun d env => env.set 2 (some d)) (fun ds i env ow' => ow = ow' ∧ ∃ (a : Nat) (A L : List Nat) (z : Option D), ds = L.map natD ∧ env = [some (natD a), some (.tup (A.map natD)), z] ∧ Shr n M (L.take i) a A) PassesOwn.never rfl ?hi (pg_name scSho.nd rfl (.inl rfl)) (fun ow d => gd_name 2) ?h0 ?hs ?hd
  case hi =>
    refine Vm.imp (vm_E F1 hgd hrm rfl m1 k1 b1 (va_cons (ve_var (i := 0) rfl rfl (by walk_at "vis")) va_nil) ⟨n, rfl, npos, hn⟩) ?_
    rintro d ow2 ⟨rfl, n2, L, e, rfl, h1, h2, h3⟩
    have e2 : natD n = natD n2 := by simpa using e
    have e3 : n = n2 := by
      have : (n : Int) = (n2 : Int) := by injection e2
      omega
    subst e3
    exact ⟨rfl, _, rfl, L, rfl, h1, h2⟩
  case h0 =>
    rintro ds ⟨L, rfl, _⟩
    exact ⟨rfl, n, M, L, none, rfl, rfl, pat, rfl, Nat.dvd_refl n, Nat.le_refl _, fun r hr => absurd hr (by simp)⟩
  case hs =>
    rintro ds B1 i d env' ow' ⟨L0, hL0, hall, hge⟩ e1 hd ⟨rfl, a, A, L, z, rfl, rfl, S⟩
    have eL : L = L0 := by
      have y : L.map toI = L0.map toI := by
        have x := congrArg (fun l : List D => l.map fun d => match d with | .int i => i | _ => 0) hL0
        simp only [List.map_map] at x
        exact x
      exact ints_inj.mp y
    subst eL
    obtain ⟨r, hr, rfl⟩ : ∃ r, L[i]? = some r ∧ d = natD r := by
      rw [List.getElem?_map] at hd
      cases q : L[i]? with
      | none => rw [q] at hd; cases hd
      | some r => rw [q] at hd; exact ⟨r, rfl, (Option.some.inj hd).symm⟩
    have rL : r ∈ L := List.mem_of_getElem? hr
    obtain ⟨r2, rn⟩ := hge r rL
    refine' rn_while (fun m env ow' => ow = ow' ∧ ∃ A : List Nat, env = [some (natD m), some (.tup (A.map natD)), some (natD r)] ∧ Shr n M (L.take i) m A) PassesOwn.never ⟨a, rfl, A, rfl, S⟩ ?hs2
    case hs2 =>
      rintro B2 m env2 ow2 e2 ⟨rfl, A, rfl, S⟩
      have mle : m ≤ n := Nat.le_of_dvd npos S.dv
      have Al : A.length ≤ 100000 := Nat.le_trans S.len hM
      refine ⟨decide ((m : Int) % (r : Int) = 0) && decide (Per.Rep A r (m / r) (A.length / r)), ?_, fun t B3 e3 => ?_, fun t B3 e3 => ?_⟩
      · refine vt_w (vw_and ?_ (fun _ => vw_and1 (vt_val ?_)) (pw_all_and _ _))
        · exact vt_comp (ve_bin (ve_var (i := 0) rfl rfl (by walk_at "vis")) (ve_var (i := 2) rfl rfl (by walk_at "vis")) (bo_mod (by omega))) ve_int co_eqI
        · exact ve_R F2 hgd hrm rfl m2 k2 b2 (va_cons (ve_var (i := 0) rfl rfl (by walk_at "vis")) (va_cons (ve_var (i := 1) rfl rfl (by walk_at "vis")) (va_cons (ve_var (i := 2) rfl rfl (by walk_at "vis")) va_nil))) ⟨m, r, A, rfl, by omega, by omega, Al, rfl⟩
      · rw [Bool.and_eq_true] at t
        have dv : r ∣ m := mod_dvd.mp (of_decide_eq_true t.1)
        have rep := of_decide_eq_true t.2
        obtain ⟨p2, eq2⟩ := S.pat.step (by omega) dv rep
        have lt : m / r < m := Nat.div_lt_self S.pat.pos r2
        refine' rn_set (i := 0) (d := natD (m / r)) scSho.nd rfl (by first | exact .inl rfl | exact .inr rfl) ?h ?k
        case h => exact ve_bin (ve_var (i := 0) rfl rfl (by walk_at "vis")) (ve_var (i := 2) rfl rfl (by walk_at "vis")) (bo_div (by omega) (by omega))
        case k =>
        intro B4 e4
        have hlen : (((A.map natD).length : Nat) : Int) = ((A.length : Nat) : Int) := by rw [List.length_map]
        refine' rn_set (i := 1) (d := .tup ((A.take (A.length / r)).map natD)) scSho.nd rfl (by first | exact .inl rfl | exact .inr rfl) ?h ?k
        case h =>
          refine ve_is (ve_sliceT (ve_var (d := .tup (A.map natD)) (i := 1) rfl rfl (by walk_at "vis")) vp_none (vp_some (n := ((A.length / r : Nat) : Int)) ?_)) ?_
          · exact ve_is (ve_bin (ve_bi (va_cons (ve_var (d := .tup (A.map natD)) (i := 1) rfl rfl (by walk_at "vis")) va_nil) rfl mL boot_len fo_lenT) (ve_var (i := 2) rfl rfl (by walk_at "vis")) (bo_div (by omega) (by omega))) (by rw [hlen]; rfl)
          · rw [cut_to (by rw [List.length_map]; exact Nat.div_le_self _ _), ← List.map_take]
        case k =>
        intro B5 e5
        refine rn_nextW ?_ (e3.trans (e4.trans e5))
        refine ⟨m / r, lt, rfl, _, rfl, p2, eq2.trans S.eq, Nat.dvd_trans ⟨r, by rw [Nat.mul_comm]; exact (Nat.mul_div_cancel' dv).symm⟩ S.dv, Nat.le_trans (by rw [List.length_take]; exact Nat.min_le_right _ _) S.len, fun q hq => (S.irr q hq).step dv (by omega) ?_⟩
        have := hge q (List.mem_of_mem_take hq)
        omega
      · refine rn_nextW ?_ (e2.trans e3)
        refine ⟨rfl, m, A, L, _, rfl, rfl, S.pat, S.eq, S.dv, S.len, fun q hq => ?_⟩
        rw [List.take_add_one, hr] at hq
        rcases List.mem_append.mp hq with z | z
        · exact S.irr q z
        · have e : q = r := by simpa using z
          subst e
          intro dv hP
          have y : decide ((m : Int) % (q : Int) = 0) = true := decide_eq_true (mod_dvd.mpr dv)
          rw [y, Bool.true_and] at t
          refine S.pat.stop (by omega) dv (of_decide_eq_false t) ?_
          rw [S.eq]
          exact hP
  case hd =>
    rintro ds B1 env' ow' ⟨L0, hL0, hall, hge⟩ e1 ⟨rfl, a, A, L, z, rfl, rfl, S⟩
    have eL : L = L0 := by
      have y : L.map toI = L0.map toI := by
        have x := congrArg (fun l : List D => l.map fun d => match d with | .int i => i | _ => 0) hL0
        simp only [List.map_map] at x
        exact x
      exact ints_inj.mp y
    subst eL
    have done : L.take (L.map natD).length = L := by rw [List.length_map, List.take_length]
    have lst : Per.Lst n M a A := Per.Lst.of_irr S.pat S.eq fun q hq hd hP => by
      have qL := hall q hq (Nat.dvd_trans hd S.dv)
      refine S.irr q (by rw [done]; exact qL) hd ?_
      rw [← S.eq]
      exact hP
    obtain ⟨ea, eA⟩ := Per.Lst.uniq hL lst
    subst ea
    subst eA
    exact rn_ret (ve_tup (va_cons (ve_var (i := 0) rfl rfl (by walk_at "vis")) (va_cons (ve_var (i := 1) rfl rfl (by walk_at "vis")) va_nil)) (by show 2 ≤ 100000; decide)) (kQ.ex e1)
end
end K2
set_option Elab.async false
set_option linter.all false
set_option maxRecDepth 100000
set_option maxHeartbeats 4000000
namespace K2
open PySem L2 Vd
open PySem.Spec PyProof.Rows
/-! the walk over data -/
local macro_rules | `(tactic| walk_at "vis") => `(tactic| first | exact Or.inl rfl | exact Or.inr (Or.inl rfl) | exact Or.inr (Or.inr rfl))
local macro_rules | `(tactic| walk_at "none") => `(tactic| first | assumption)
local macro_rules | `(tactic| walk_at "num") => `(tactic| first | decide | omega)
local macro_rules | `(tactic| walk_at "vr") => `(tactic| first
  | exact bo_add | exact bo_sub | exact bo_mulR (by decide) | exact bo_mulL (by decide) | exact bo_mod (by walk_at "num") | exact bo_div (by walk_at "num") (by walk_at "num") | exact bo_pow (by decide) (by decide) (by decide) | exact bo_cat (by walk_at "num") | exact bo_mulR (by omega) | exact bo_mulL (by omega))
local macro_rules | `(tactic| walk_at "vq") => `(tactic| first
  | exact co_lt | exact co_le | exact co_gt | exact co_ge | exact co_eqI | exact co_neI | exact co_eqS | exact co_neS)
local macro_rules | `(tactic| walk_at "vx") => `(tactic| first
  | exact xo_own (by assumption) rfl | exact xo_lst rfl | exact xo_tup rfl)
local macro_rules | `(tactic| walk_at "vf") => `(tactic| first
  | exact fo_abs | exact fo_lenL | exact fo_lenT | exact fo_lenO (by assumption) | exact fo_divmod (by walk_at "num") (by walk_at "num") | exact fo_max rfl | exact fo_min rfl)
local macro_rules | `(tactic| walk_at "vn") => `(tactic| first
  | exact ve_var (i := 0) rfl rfl (by walk_at "vis") | exact ve_var (i := 1) rfl rfl (by walk_at "vis") | exact ve_var (i := 2) rfl rfl (by walk_at "vis") | exact ve_var (i := 3) rfl rfl (by walk_at "vis") | exact ve_var (i := 4) rfl rfl (by walk_at "vis") | exact ve_var (i := 5) rfl rfl (by walk_at "vis") | exact ve_var (i := 6) rfl rfl (by walk_at "vis") | exact ve_var (i := 7) rfl rfl (by walk_at "vis"))
local macro_rules | `(tactic| walk_at "vd") => `(tactic| first
  | exact ve_int | exact ve_bl | exact ve_non | exact ve_str
  | (refine' ve_bin ?ha ?hb ?hr; (case ha => walk_at "vd"); (case hb => walk_at "vd"); (case hr => walk_at "vr"))
  | (refine' ve_sub ?ha ?hb (fun _ _ => rfl) ?hr; (case ha => walk_at "vd"); (case hb => walk_at "vd"); (case hr => walk_at "vx"))
  | (refine' ve_ty (id := "int") ?ha rfl ?hm boot_int ?hr; (case ha => walk_at "va"); (case hm => walk_at "none"); (case hr => exact to_int))
  | (refine' ve_bi ?ha rfl ?hm ?hv ?hr; (case hv => first | exact boot_abs | exact boot_len | exact boot_divmod | exact boot_max | exact boot_min); (case ha => walk_at "va"); (case hm => walk_at "none"); (case hr => walk_at "vf"))
  | (refine' ve_tup ?ha ?hl; (case ha => walk_at "va"); (case hl => walk_at "num"))
  | (refine' ve_lst ?ha ?hl; (case ha => walk_at "va"); (case hl => walk_at "num"))
  | (refine' ve_comp ?ha ?hb ?hr; (case ha => walk_at "vd"); (case hb => walk_at "vd"); (case hr => walk_at "vq"))
  | walk_at "vn")
local macro_rules | `(tactic| walk_at "va") => `(tactic| first | exact va_nil | (refine' va_cons ?ha ?hb; (case ha => walk_at "vd"); (case hb => walk_at "va")))
local macro_rules | `(tactic| walk_at "vt") => `(tactic| first
  | (refine' vt_comp ?ha ?hb ?hr; (case ha => walk_at "vd"); (case hb => walk_at "vd"); (case hr => walk_at "vq"))
  | (refine' vt_val ?hv; case hv => walk_at "vd"))
/-! ### marked_from -/
/-- o is the least marked number from low on -/
def NextIs (n : Nat) (M : List Nat) (low : Nat) : Option Nat → Prop
  | none => M = []
  | some x => low ≤ x ∧ Per.fn n M x = true ∧ ∀ y, low ≤ y → Per.fn n M y = true → x ≤ y
theorem NextIs.uniq {n low : Nat} {M : List Nat} : ∀ {o p : Option Nat}, NextIs n M low o → NextIs n M low p → o = p
  | none, none, _, _ => rfl
  | some x, some y, h, k => by
    have a := h.2.2 y k.1 k.2.1
    have b := k.2.2 x h.1 h.2.1
    rw [show x = y by omega]
  | none, some y, h, k => by
    have z := k.2.1
    rw [show M = [] from h] at z
    simp [Per.fn] at z
  | some y, none, k, h => by
    have z := k.2.1
    rw [show M = [] from h] at z
    simp [Per.fn] at z
theorem asc_toI {M : List Nat} (a : Per.Asc M) : AscI (M.map toI) := by
  unfold AscI
  rw [List.pairwise_map]
  exact a.imp fun h => by
    show ((_ : Nat) : Int) < ((_ : Nat) : Int)
    omega
def optD : Option Nat → D
  | none => .non
  | some x => natD x
section
open Per
variable {n low : Nat} {M : List Nat}
theorem next_here (p : Pat n M) (c : Nat) (hc : c = cnt (M.map toI) ((low % n : Nat) : Int)) (lt : c < M.length) : NextIs n M low (some (low / n * n + M[c])) := by
  have asc := asc_toI p.asc
  have len : (M.map toI).length = M.length := List.length_map ..
  have z := cnt_at (M.map toI) ((low % n : Nat) : Int) (by rw [len, ← hc]; exact lt)
  have ge : low % n ≤ M[c] := by
    have e : (M.map toI)[cnt (M.map toI) ((low % n : Nat) : Int)]'(by rw [len, ← hc]; exact lt) = ((M[c] : Nat) : Int) := by
      simp only [← hc, List.getElem_map]
      rfl
    rw [e] at z
    omega
  have hlt : M[c] < n := p.lt _ (List.getElem_mem lt)
  have dm := Nat.div_add_mod low n
  have dm' : low / n * n + low % n = low := by rw [Nat.mul_comm]; exact dm
  refine ⟨by omega, fn_mem.mpr ?_, fun y hy hf => ?_⟩
  · rw [Nat.mul_comm, Nat.mul_add_mod, Nat.mod_eq_of_lt hlt]
    exact List.getElem_mem lt
  · have hm := fn_mem.mp hf
    have dy : y / n * n + y % n = y := by rw [Nat.mul_comm]; exact Nat.div_add_mod y n
    by_cases q : y / n ≤ low / n
    · have q2 : low / n ≤ y / n := Nat.div_le_div_right hy
      have e : y / n = low / n := by omega
      rw [e] at dy
      obtain ⟨j, hj, ej⟩ := List.getElem_of_mem hm
      have cj : c ≤ j := by
        apply Classical.byContradiction
        intro no
        have w := cnt_lt (M.map toI) ((low % n : Nat) : Int) j (by rw [len]; exact hj) (by omega)
        rw [List.getElem_map] at w
        have w2 : ((M[j] : Nat) : Int) < ((low % n : Nat) : Int) := w
        omega
      have mono : M[c] ≤ M[j] := by
        by_cases e2 : c = j
        · subst e2
          exact Nat.le_refl _
        · exact Nat.le_of_lt (List.pairwise_iff_getElem.mp p.asc c j lt hj (by omega))
      omega
    · have z2 : (low / n + 1) * n ≤ y / n * n := Nat.mul_le_mul_right n (by omega)
      rw [Nat.succ_mul] at z2
      omega
theorem next_round (p : Pat n M) (c : Nat) (hc : c = cnt (M.map toI) ((low % n : Nat) : Int)) (eq : c = M.length) (h0 : 0 < M.length) : NextIs n M low (some ((low / n + 1) * n + M[0])) := by
  have len : (M.map toI).length = M.length := List.length_map ..
  have all : ∀ x ∈ M, x < low % n := by
    intro x hx
    obtain ⟨j, hj, ej⟩ := List.getElem_of_mem hx
    have w := cnt_lt (M.map toI) ((low % n : Nat) : Int) j (by rw [len]; exact hj) (by omega)
    rw [List.getElem_map] at w
    have w2 : ((M[j] : Nat) : Int) < ((low % n : Nat) : Int) := w
    omega
  have hlt : M[0] < n := p.lt _ (List.getElem_mem h0)
  have ml : low % n < n := Nat.mod_lt _ p.pos
  have dm' : low / n * n + low % n = low := by rw [Nat.mul_comm]; exact Nat.div_add_mod low n
  have sm : (low / n + 1) * n = low / n * n + n := Nat.succ_mul _ _
  refine ⟨by omega, fn_mem.mpr ?_, fun y hy hf => ?_⟩
  · rw [Nat.mul_comm, Nat.mul_add_mod, Nat.mod_eq_of_lt hlt]
    exact List.getElem_mem h0
  · have hm := fn_mem.mp hf
    have dy : y / n * n + y % n = y := by rw [Nat.mul_comm]; exact Nat.div_add_mod y n
    have q2 : low / n ≤ y / n := Nat.div_le_div_right hy
    by_cases q : y / n = low / n
    · have := all _ hm
      rw [q] at dy
      omega
    · have z2 : (low / n + 1) * n ≤ y / n * n := Nat.mul_le_mul_right n (by omega)
      obtain ⟨j, hj, ej⟩ := List.getElem_of_mem hm
      have mono : M[0] ≤ M[j] := by
        by_cases e2 : 0 = j
        · subst e2
          exact Nat.le_refl _
        · exact Nat.le_of_lt (List.pairwise_iff_getElem.mp p.asc 0 j h0 hj (by omega))
      omega
end
abbrev sMar : Stmt := s_marked_from
theorem scMar : FnScope ["period", "marks", "low", "rounds", "rest", "at"] ["period", "marks", "low"] (defScope sMar) := ⟨rfl, rfl, rfl, by decide +kernel, rfl, by decide +kernel, by decide +kernel⟩
def RMar (ds : List D) (d : D) : Prop := ∃ (n low : Nat) (M : List Nat) (o : Option Nat), ds = [natD n, .tup (M.map natD), natD low] ∧ Per.Pat n M ∧ n < 1073741824 ∧ NextIs n M low o ∧ d = optD o
theorem atD {M : List Nat} {c : Nat} (h : c < M.length) : L2.atI (M.map natD) (c : Int) = some (natD M[c]) := by
  unfold L2.atI L2.ixN
  rw [if_pos (by omega), if_pos (by rw [List.length_map]; omega)]
  simp [h]
section
variable {P : Program} {w : World} {K : PySem.W.Frag} {mg : Str → Option Value} {base : Heap}
theorem ok_marked {f f1 : Addr} {fd fd1 : FuncData} (Fn : Fun K "marked_from" "marked_from" sMar f fd) (F1 : FnG γ P w K mg base CX0 1 f1 fd1 ["row", "value"] (spR K RPla)) (m1 : mg "place" = some (.ref f1)) (k1 : PySem.W.keepIn K (.ref f1) = true) (b1 : Binds K fd1 ["row", "value"] []) (mL : mg "len" = none) (mD : mg "divmod" = none) :
    FnG γ P w K mg base CX0 2 f fd ["period", "marks", "low"] (spR K RMar) := by
  refine okR Fn scMar (fun ds d ⟨n, low, M, o, e, _⟩ => by rw [e]; rfl) fun cdv A0 outer s H B ow ds d Q E hgd hrm hR kQ => ?_
  obtain ⟨n, low, M, o, rfl, pat, hn, hO, rfl⟩ := hR
  have npos := pat.pos
  have hlen : (((M.map natD).length : Nat) : Int) = ((M.length : Nat) : Int) := by rw [List.length_map]
  refine' rn_if (t := decide ((M.length : Int) = 0)) ?h ?h1 ?h2
  case h => exact vt_comp (ve_is (ve_bi (va_cons (ve_var (d := .tup (M.map natD)) (i := 1) rfl rfl (by walk_at "vis")) va_nil) rfl mL boot_len fo_lenT) (by rw [hlen])) ve_int co_eqI
  case h1 =>
    intro t B1 e1
    have z := of_decide_eq_true t
    have e : M = [] := List.eq_nil_of_length_eq_zero (by omega)
    have eo : o = none := NextIs.uniq hO (show NextIs n M low none from e)
    subst eo
    exact rn_ret ve_non (kQ.ex e1)
  case h2 =>
    intro t B1 e1
    have z := of_decide_eq_false t
    have h0 : 0 < M.length := by omega
    refine rn_go ?_
    refine' rn_asg (g := gTup K 2 (gCons (gName 3) (gCons (gName 4) gNil))) (f := fun env => (env.set 3 (some (natD (low / n)))).set 4 (some (natD (low % n)))) (d := .tup [natD (low / n), natD (low % n)]) (pg_tup rfl (pgs_cons (pg_name scMar.nd rfl (.inl rfl)) (pgs_cons (pg_name scMar.nd rfl (.inl rfl)) pgs_nil))) ?h (gd_two 3 4) ?k
    case h => exact ve_bi (va_cons (ve_var (d := natD low) (i := 2) rfl rfl (by walk_at "vis")) (va_cons (ve_var (d := natD n) (i := 0) rfl rfl (by walk_at "vis")) va_nil)) rfl mD boot_divmod (fo_divmod (by omega) (by omega))
    case k =>
    intro B2 e2
    obtain ⟨c, hc⟩ : ∃ c, c = cnt (M.map toI) ((low % n : Nat) : Int) := ⟨_, rfl⟩
    have cle : c ≤ M.length := by
      rw [hc]
      have := cnt_le (M.map toI) ((low % n : Nat) : Int)
      rwa [List.length_map] at this
    refine' rn_set (i := 5) (d := natD c) scMar.nd rfl (by first | exact .inl rfl | exact .inr rfl) ?h ?k
    case h => exact ve_R F1 hgd hrm rfl m1 k1 b1 (va_cons (ve_var (d := .tup (M.map natD)) (i := 1) rfl rfl (by walk_at "vis")) (va_cons (ve_var (d := natD (low % n)) (i := 4) rfl rfl (by walk_at "vis")) va_nil)) ⟨M.map toI, ((low % n : Nat) : Int), by rw [natD_ints], asc_toI pat.asc, by rw [hc]⟩
    case k =>
    intro B3 e3
    refine' rn_if (t := decide ((c : Int) = (M.length : Int))) ?h ?h1 ?h2
    case h => exact vt_comp (ve_var (i := 5) rfl rfl (by walk_at "vis")) (ve_is (ve_bi (va_cons (ve_var (d := .tup (M.map natD)) (i := 1) rfl rfl (by walk_at "vis")) va_nil) rfl mL boot_len fo_lenT) (by rw [hlen])) co_eqI
    case h1 =>
      intro t1 B4 e4
      have eq : c = M.length := by
        have := of_decide_eq_true t1
        omega
      have eo : o = some ((low / n + 1) * n + M[0]) := NextIs.uniq hO (next_round pat c hc eq h0)
      subst eo
      refine rn_ret (ve_is (ve_bin (ve_bin (ve_bin (ve_var (d := natD (low / n)) (i := 3) rfl rfl (by walk_at "vis")) ve_int bo_add) (ve_var (d := natD n) (i := 0) rfl rfl (by walk_at "vis")) (bo_mulR (by omega))) (ve_sub (ve_var (d := .tup (M.map natD)) (i := 1) rfl rfl (by walk_at "vis")) ve_int (fun _ _ => rfl) (xo_tup (atD h0))) bo_add) rfl) (kQ.ex (e1.trans (e2.trans (e3.trans e4))))
    case h2 =>
      intro t1 B4 e4
      have lt : c < M.length := by
        have := of_decide_eq_false t1
        omega
      have eo : o = some (low / n * n + M[c]) := NextIs.uniq hO (next_here pat c hc lt)
      subst eo
      refine rn_go ?_
      exact rn_ret (ve_is (ve_bin (ve_bin (ve_var (d := natD (low / n)) (i := 3) rfl rfl (by walk_at "vis")) (ve_var (d := natD n) (i := 0) rfl rfl (by walk_at "vis")) (bo_mulR (by omega))) (ve_sub (ve_var (d := .tup (M.map natD)) (i := 1) rfl rfl (by walk_at "vis")) (ve_var (d := natD c) (i := 5) rfl rfl (by walk_at "vis")) (fun _ _ => rfl) (xo_tup (atD lt))) bo_add) rfl) (kQ.ex (e1.trans (e2.trans (e3.trans e4))))
end
end K2
set_option Elab.async false
set_option linter.all false
set_option maxRecDepth 100000
set_option maxHeartbeats 4000000
namespace K2
open PySem L2 Vd
open PySem.Spec PyProof.Rows
/-! the walk over data -/
local macro_rules | `(tactic| walk_at "vis") => `(tactic| first | exact Or.inl rfl | exact Or.inr (Or.inl rfl) | exact Or.inr (Or.inr rfl))
local macro_rules | `(tactic| walk_at "none") => `(tactic| first | assumption)
local macro_rules | `(tactic| walk_at "num") => `(tactic| first | decide | omega)
local macro_rules | `(tactic| walk_at "vr") => `(tactic| first
  | exact bo_add | exact bo_sub | exact bo_mulR (by decide) | exact bo_mulL (by decide) | exact bo_mod (by walk_at "num") | exact bo_div (by walk_at "num") (by walk_at "num") | exact bo_pow (by decide) (by decide) (by decide) | exact bo_cat (by walk_at "num") | exact bo_mulR (by omega) | exact bo_mulL (by omega))
local macro_rules | `(tactic| walk_at "vq") => `(tactic| first
  | exact co_lt | exact co_le | exact co_gt | exact co_ge | exact co_eqI | exact co_neI | exact co_eqS | exact co_neS)
local macro_rules | `(tactic| walk_at "vx") => `(tactic| first
  | exact xo_own (by assumption) rfl | exact xo_lst rfl | exact xo_tup rfl)
local macro_rules | `(tactic| walk_at "vf") => `(tactic| first
  | exact fo_abs | exact fo_lenL | exact fo_lenT | exact fo_lenO (by assumption) | exact fo_divmod (by walk_at "num") (by walk_at "num") | exact fo_max rfl | exact fo_min rfl)
local macro_rules | `(tactic| walk_at "vn") => `(tactic| first
  | exact ve_var (i := 0) rfl rfl (by walk_at "vis") | exact ve_var (i := 1) rfl rfl (by walk_at "vis") | exact ve_var (i := 2) rfl rfl (by walk_at "vis") | exact ve_var (i := 3) rfl rfl (by walk_at "vis") | exact ve_var (i := 4) rfl rfl (by walk_at "vis") | exact ve_var (i := 5) rfl rfl (by walk_at "vis") | exact ve_var (i := 6) rfl rfl (by walk_at "vis") | exact ve_var (i := 7) rfl rfl (by walk_at "vis"))
local macro_rules | `(tactic| walk_at "vd") => `(tactic| first
  | exact ve_int | exact ve_bl | exact ve_non | exact ve_str
  | (refine' ve_bin ?ha ?hb ?hr; (case ha => walk_at "vd"); (case hb => walk_at "vd"); (case hr => walk_at "vr"))
  | (refine' ve_sub ?ha ?hb (fun _ _ => rfl) ?hr; (case ha => walk_at "vd"); (case hb => walk_at "vd"); (case hr => walk_at "vx"))
  | (refine' ve_ty (id := "int") ?ha rfl ?hm boot_int ?hr; (case ha => walk_at "va"); (case hm => walk_at "none"); (case hr => exact to_int))
  | (refine' ve_bi ?ha rfl ?hm ?hv ?hr; (case hv => first | exact boot_abs | exact boot_len | exact boot_divmod | exact boot_max | exact boot_min); (case ha => walk_at "va"); (case hm => walk_at "none"); (case hr => walk_at "vf"))
  | (refine' ve_tup ?ha ?hl; (case ha => walk_at "va"); (case hl => walk_at "num"))
  | (refine' ve_lst ?ha ?hl; (case ha => walk_at "va"); (case hl => walk_at "num"))
  | (refine' ve_comp ?ha ?hb ?hr; (case ha => walk_at "vd"); (case hb => walk_at "vd"); (case hr => walk_at "vq"))
  | walk_at "vn")
local macro_rules | `(tactic| walk_at "va") => `(tactic| first | exact va_nil | (refine' va_cons ?ha ?hb; (case ha => walk_at "vd"); (case hb => walk_at "va")))
local macro_rules | `(tactic| walk_at "vt") => `(tactic| first
  | (refine' vt_comp ?ha ?hb ?hr; (case ha => walk_at "vd"); (case hb => walk_at "vd"); (case hr => walk_at "vq"))
  | (refine' vt_val ?hv; case hv => walk_at "vd"))
/-! ### first_unfit -/
def D.under : D → D → Bool
  | .int a, .int b => decide (a < b)
  | _, _ => false
theorem within_int {a b : Int} : ∀ {d : D}, D.within a b d = true → ∃ y, d = .int y
  | .int y, _ => ⟨y, rfl⟩
/-- the item at i is an integer from 0 to m, above the one ahead -/
def good (m : Int) (l : List D) (i : Nat) : Bool := D.within 0 m (l.getD i .non) && (decide (i = 0) || D.under (l.getD (i - 1) .non) (l.getD i .non))
def FuIs (m : Int) (l : List D) : Option Nat → Prop
  | none => ∀ j, j < l.length → good m l j = true
  | some i => i < l.length ∧ (∀ j, j < i → good m l j = true) ∧ good m l i = false
theorem FuIs.uniq {m : Int} {l : List D} : ∀ {o p : Option Nat}, FuIs m l o → FuIs m l p → o = p
  | none, none, _, _ => rfl
  | none, some i, h, k => by
    have a := h i k.1
    rw [k.2.2] at a
    cases a
  | some i, none, k, h => by
    have a := h i k.1
    rw [k.2.2] at a
    cases a
  | some i, some j, h, k => by
    have a : ¬ i < j := fun q => by
      have z := k.2.1 i q
      rw [h.2.2] at z
      cases z
    have b : ¬ j < i := fun q => by
      have z := h.2.1 j q
      rw [k.2.2] at z
      cases z
    rw [show i = j by omega]
abbrev sFu : Stmt := s_first_unfit
theorem scFu : FnScope ["row", "most", "at", "value"] ["row", "most"] (defScope sFu) := ⟨rfl, rfl, rfl, by decide +kernel, rfl, by decide +kernel, by decide +kernel⟩
def RFu (ds : List D) (d : D) : Prop := ∃ (l : List D) (m : Int) (o : Option Nat), ds = [.tup l, .int m] ∧ (∀ v ∈ l, v.kind.isSome = true) ∧ FuIs m l o ∧ d = optD o
section
variable {P : Program} {w : World} {K : PySem.W.Frag} {mg : Str → Option Value} {base : Heap}
theorem ok_unfit {f f1 : Addr} {fd fd1 : FuncData} (Fn : Fun K "first_unfit" "first_unfit" sFu f fd) (F1 : FnG γ P w K mg base CX0 2 f1 fd1 ["value", "least", "most"] (spR K RIsW)) (m1 : mg "is_within" = some (.ref f1)) (k1 : PySem.W.keepIn K (.ref f1) = true) (b1 : Binds K fd1 ["value", "least", "most"] []) (mEn : mg "enumerate" = none) :
    FnG γ P w K mg base CX0 3 f fd ["row", "most"] (spR K RFu) := by
  refine okR Fn scFu (fun ds d ⟨l, m, o, e, _⟩ => by rw [e]; rfl) fun cdv A0 outer s H B ow ds d Q E hgd hrm hR kQ => ?_
  obtain ⟨l, m, o, rfl, hk, hO, rfl⟩ := hR
  refine' rn_for (ds := enumD 0 l) (g := gTup K 2 (gCons (gName 2) (gCons (gName 3) gNil))) (f := fun d env => match d with | .tup [a, b] => (env.set 2 (some a)).set 3 (some b) | _ => env) (fun n env ow' => ow = ow' ∧ (∀ j, j < n → good m l j = true) ∧ ∃ a b : Option D, env = [some (.tup l), some (.int m), a, b]) PassesOwn.never rfl ?hi (pg_tup rfl (pgs_cons (pg_name scFu.nd rfl (.inl rfl)) (pgs_cons (pg_name scFu.nd rfl (.inl rfl)) pgs_nil))) ?hgd ⟨rfl, fun j h => absurd h (Nat.not_lt_zero _), none, none, rfl⟩ ?hs ?hd
  case hi => exact vi_enumT rfl mEn (ve_var (i := 0) rfl rfl (by walk_at "vis"))
  case hgd =>
    intro ow' d hd
    obtain ⟨n, hn⟩ := List.mem_iff_getElem?.mp hd
    obtain ⟨x, hx, rfl⟩ := enumD_get hn
    exact gd_two 2 3
  case hs =>
    rintro B1 i d env' ow' e1 hd ⟨rfl, ih, a, b, rfl⟩
    obtain ⟨v, hv, rfl⟩ := enumD_get hd
    have hi : i < l.length := (List.getElem?_eq_some_iff.mp hv).1
    have e0 : ((0 + i : Nat) : Int) = (i : Int) := by simp
    rw [e0]
    have gv : l.getD i .non = v := by simp [hv]
    have kv : v.kind.isSome = true := hk v (List.mem_of_getElem? hv)
    have ret : ∀ B2, Ex B B2 → good m l i = false → ∀ {F2 H2 u}, Ex B2 F2 → Wo K ow F2 H2 → Rp K F2 u (natD i) → Q u H2 := fun B2 e2 no F2 H2 u x2 w2 r2 => by
      have eo : o = some i := FuIs.uniq hO ⟨hi, ih, no⟩
      subst eo
      exact kQ F2 H2 u (e2.trans x2) w2 r2
    refine' rn_if (t := !D.within 0 m v) ?h ?h1 ?h2
    case h => exact vt_not (vt_val (ve_R F1 hgd hrm rfl m1 k1 b1 (va_cons (ve_var (i := 3) rfl rfl (by walk_at "vis")) (va_cons ve_int (va_cons (ve_var (i := 1) rfl rfl (by walk_at "vis")) va_nil))) ⟨v, 0, m, rfl, kv, rfl⟩))
    case h1 =>
      intro t B2 e2
      have no : good m l i = false := by
        unfold good
        rw [gv]
        cases q : D.within 0 m v with
        | false => rfl
        | true => rw [q] at t; cases t
      exact rn_ret (ve_var (d := natD i) (i := 2) rfl rfl (by walk_at "vis")) (fun F2 H2 u x2 w2 r2 => ret _ (e1.trans e2) no x2 w2 r2)
    case h2 =>
      intro t B2 e2
      have wi : D.within 0 m v = true := by
        cases q : D.within 0 m v with
        | true => rfl
        | false => rw [q] at t; cases t
      obtain ⟨x, rfl⟩ := within_int wi
      refine rn_go ?_
      have prev : 0 < i → ∃ y, l[i - 1]? = some (.int y) := fun pos => by
        have g := ih (i - 1) (by omega)
        unfold good at g
        rw [Bool.and_eq_true] at g
        have lt : i - 1 < l.length := by omega
        have e : l.getD (i - 1) .non = l[i - 1] := by simp [lt]
        rw [e] at g
        have w1 := g.1
        obtain ⟨y, hy⟩ := within_int w1
        exact ⟨y, by rw [List.getElem?_eq_getElem lt, hy]⟩
      by_cases pos : 0 < i
      · obtain ⟨y, hy⟩ := prev pos
        have gy : l.getD (i - 1) .non = .int y := by simp [hy]
        have gd : good m l i = decide (y < x) := by
          unfold good
          rw [gv, gy, wi, Bool.true_and, decide_eq_false (by omega), Bool.false_or]
          rfl
        refine' rn_if (t := decide ((0 : Int) < (i : Int)) && decide (x ≤ y)) ?h ?h1 ?h2
        case h =>
          refine vt_w (vw_and (vt_comp (ve_var (d := natD i) (i := 2) rfl rfl (by walk_at "vis")) ve_int co_gt) (fun _ => vw_and1 (vt_comp (ve_var (d := .int x) (i := 3) rfl rfl (by walk_at "vis")) (ve_sub (d := .int y) (ve_var (d := .tup l) (i := 0) rfl rfl (by walk_at "vis")) (ve_is (ve_bin (ve_var (d := natD i) (i := 2) rfl rfl (by walk_at "vis")) ve_int bo_sub) (by rfl : _ = D.int ((i : Int) - 1))) (fun _ _ => rfl) (xo_tup ?_)) co_le)) (pw_all_and _ _))
          have e : (i : Int) - 1 = ((i - 1 : Nat) : Int) := by omega
          rw [e]
          unfold L2.atI L2.ixN
          rw [if_pos (by omega), if_pos (by omega)]
          simpa using hy
        case h1 =>
          intro t2 B3 e3
          rw [Bool.and_eq_true] at t2
          have no : good m l i = false := by
            rw [gd]
            have := of_decide_eq_true t2.2
            exact decide_eq_false (by omega)
          exact rn_ret (ve_var (d := natD i) (i := 2) rfl rfl (by walk_at "vis")) (fun F2 H2 u x2 w2 r2 => ret _ (e1.trans (e2.trans e3)) no x2 w2 r2)
        case h2 =>
          intro t2 B3 e3
          have yes : good m l i = true := by
            rw [gd]
            rw [decide_eq_true (by omega), Bool.true_and] at t2
            have := of_decide_eq_false t2
            exact decide_eq_true (by omega)
          refine rn_go ?_
          refine rn_nextW ?_ (e2.trans e3)
          refine ⟨rfl, fun j hj => ?_, _, _, rfl⟩
          by_cases c : j = i
          · rw [c]; exact yes
          · exact ih j (by omega)
      · have z : i = 0 := by omega
        refine' rn_if (t := decide ((0 : Int) < (i : Int)) && false) ?h ?h1 ?h2
        case h =>
          refine vt_w (vw_and (vt_comp (ve_var (d := natD i) (i := 2) rfl rfl (by walk_at "vis")) ve_int co_gt) (fun t3 => ?_) (pw_all_and _ _))
          have := of_decide_eq_true t3
          omega
        case h1 =>
          intro t2
          rw [Bool.and_false] at t2
          cases t2
        case h2 =>
          intro t2 B3 e3
          have yes : good m l i = true := by
            unfold good
            rw [gv, wi, decide_eq_true z]
            rfl
          refine rn_go ?_
          refine rn_nextW ?_ (e2.trans e3)
          refine ⟨rfl, fun j hj => ?_, _, _, rfl⟩
          by_cases c : j = i
          · rw [c]; exact yes
          · exact ih j (by omega)
  case hd =>
    rintro B1 env' ow' e1 ⟨rfl, ih, a, b, rfl⟩
    rw [enumD_len] at ih
    have eo : o = none := FuIs.uniq hO (show FuIs m l none from ih)
    subst eo
    exact rn_ret ve_non (kQ.ex e1)
end
end K2
set_option Elab.async false
set_option linter.all false
set_option maxRecDepth 100000
set_option maxHeartbeats 4000000
/-! Objects of own classes: their fields, methods, properties, from promises that want no text under way. -/
namespace Vd
open PySem L2
open PySem.Spec PyProof.Rows
section
variable {X : Cx} {env : List (Option D)} {ow : Ow} {o e : Expr} {es : List Expr} {d : D} {ds : List D} {pos apos : Pos} {C g p : Addr} {fl : List (Str × D)} {f m : Str} {fd : FuncData} {ps : List Str} {k : Nat} {R : List D → D → Prop}
theorem ve_at (c : Cls X.K C) (n : NoAttr X.K C f) (h : Ve X e env ow (.ins C fl)) (hl : fl.lookup f = some d) (hb : attributeBase e f X.env (eval e X.env) = eval e X.env := by rfl) : Ve X (.Attribute e f pos) env ow d := .mk fun σ F H Q s w k0 => wpe (pe_fld pe_can hb) (h σ F H _ s w fun F1 H1 v e1 w1 r1 => by
  cases r1 with
  | ins g1 r2 =>
    obtain ⟨y, hy, ry⟩ := r2.look hl
    exact ⟨_, _, _, _, y, rfl, w1.ex _ _ g1, c, n, hy, (k0.ex e1).here w1 ry⟩)
/-- a method, called with at least one argument -/
theorem pe_methG {sp : Sp} {te : TE} {ta : TA} {pl : Sem Bool} (he : PE X o te) (c : Cls X.K C) (hm : Meth X.K C m g) (F : FnG γ X.prog X.w X.K X.mg X.base CX0 k g fd ps sp) (hgd : γ X.A.guards) (hr : Room k X.A) (hb : Binds X.K fd ps []) (ha : PA X (e :: es) ta)
    (hst : starEach (e :: es) X.env = (false, eval e X.env) :: starEach es X.env := by rfl) (hpl : (backTo pos (starEach es X.env)).any (·.1) = false := by rfl)
    (ht : eval (.Call (.Attribute o m apos) (e :: es) [] pos) X.env = (do let ov ← eval o X.env; standAt apos.atName; let (fn, first) ← holding [ov] (getMethod ov m pl); callWith pos fn first (backTo pos (starEach (e :: es) X.env)) (backToKw pos (keywordEach [] X.env))) := by rfl) :
    PE X (.Call (.Attribute o m apos) (e :: es) [] pos) (tMeth C m sp [] E0 te ta) := by
  refine ⟨fun pins s σ H Q I h => PySem.W.methodCall_KW (pl := pl) (thn (he.run pins s σ H _ I h) fun u s1 ⟨x, H1, I1, rx, a, dx, fs, ex, ea, l, q⟩ => ?_) ht⟩
  subst ex
  obtain rfl : u = Value.ref a := rx
  refine getmeth_ok I1 ea c hm l (PySem.W.callWith_K (first := [.ref a]) (h₀ := X.base) I.ok.mod.kin hm.kp (thn (ha.run pos pins s1 σ H1 _ I1 q) fun us s2 ⟨vs, H2, I2, r, q2⟩ => ⟨I2.kIn, ?_⟩) hst hpl)
  exact run_fnG (us := .ref a :: us) (vs := .ref a :: vs) F hgd hr hb .nil pass0 I2 (.cons rfl r) q2
theorem pe_meth0G {sp : Sp} {te : TE} {pl : Sem Bool} (he : PE X o te) (c : Cls X.K C) (hm : Meth X.K C m g) (F : FnG γ X.prog X.w X.K X.mg X.base CX0 k g fd ps sp) (hgd : γ X.A.guards) (hr : Room k X.A) (hb : Binds X.K fd ps [])
    (ht : eval (.Call (.Attribute o m apos) [] [] pos) X.env = (do let ov ← eval o X.env; standAt apos.atName; let (fn, first) ← holding [ov] (getMethod ov m pl); callWith pos fn first (backTo pos (starEach [] X.env)) (backToKw pos (keywordEach [] X.env))) := by rfl) :
    PE X (.Call (.Attribute o m apos) [] [] pos) (tMeth C m sp [] E0 te tNil) := by
  refine ⟨fun pins s σ H Q I h => PySem.W.methodCall_KW (pl := pl) (thn (he.run pins s σ H _ I h) fun u s1 ⟨x, H1, I1, rx, a, dx, fs, ex, ea, l, q⟩ => ?_) ht⟩
  subst ex
  obtain rfl : u = Value.ref a := rx
  exact getmeth_ok I1 ea c hm l (PySem.W.callWith_K0 (first := [.ref a]) I1.kIn hm.kp (run_fnG (us := [.ref a]) (vs := [.ref a]) F hgd hr hb .nil pass0 I1 (.cons rfl .nil) q))
/-- o.m(e, ..) of a frozen object that has no field m -/
theorem ve_meth {pl : Sem Bool} (c : Cls X.K C) (hm : Meth X.K C m g) (F : FnG γ X.prog X.w X.K X.mg X.base CX0 k g fd ps (spR X.K R)) (hgd : γ X.A.guards) (hr : Room k X.A) (hb : Binds X.K fd ps []) (ho : Ve X o env ow (.ins C fl)) (hn : fl.lookup m = none) (ha : Va X (e :: es) env ow ds) (hR : R (.ins C fl :: ds) d)
    (hst : starEach (e :: es) X.env = (false, eval e X.env) :: starEach es X.env := by rfl) (hpl : (backTo pos (starEach es X.env)).any (·.1) = false := by rfl)
    (ht : eval (.Call (.Attribute o m apos) (e :: es) [] pos) X.env = (do let ov ← eval o X.env; standAt apos.atName; let (fn, first) ← holding [ov] (getMethod ov m pl); callWith pos fn first (backTo pos (starEach (e :: es) X.env)) (backToKw pos (keywordEach [] X.env))) := by rfl) :
    Ve X (.Call (.Attribute o m apos) (e :: es) [] pos) env ow d := .mk fun σ F0 H Q s w k0 => wpe (pe_methG pe_can c hm F hgd hr hb pa_can hst hpl ht) (ho σ F0 H _ s w fun F1 H1 v e1 w1 r1 => by
  have keep := r1
  cases r1 with
  | @ins a C2 dx fs l g1 r2 =>
    refine ⟨a, dx, fs, rfl, w1.ex _ _ g1, r2.none hn, ha σ F1 H1 _ (s.mono e1) w1 fun F2 H2 vs e2 w2 r3 => ?_⟩
    rw [List.append_nil]
    exact ⟨F2, ow, _, d, w2, .cons (keep.mono e2) r3, hR, k0.ex (e1.trans e2)⟩)
theorem ve_meth0 {pl : Sem Bool} (c : Cls X.K C) (hm : Meth X.K C m g) (F : FnG γ X.prog X.w X.K X.mg X.base CX0 k g fd ps (spR X.K R)) (hgd : γ X.A.guards) (hr : Room k X.A) (hb : Binds X.K fd ps []) (ho : Ve X o env ow (.ins C fl)) (hn : fl.lookup m = none) (hR : R [.ins C fl] d)
    (ht : eval (.Call (.Attribute o m apos) [] [] pos) X.env = (do let ov ← eval o X.env; standAt apos.atName; let (fn, first) ← holding [ov] (getMethod ov m pl); callWith pos fn first (backTo pos (starEach [] X.env)) (backToKw pos (keywordEach [] X.env))) := by rfl) :
    Ve X (.Call (.Attribute o m apos) [] [] pos) env ow d := .mk fun σ F0 H Q s w k0 => wpe (pe_meth0G pe_can c hm F hgd hr hb ht) (ho σ F0 H _ s w fun F1 H1 v e1 w1 r1 => by
  have keep := r1
  cases r1 with
  | @ins a C2 dx fs l g1 r2 =>
    exact ⟨a, dx, fs, rfl, w1.ex _ _ g1, r2.none hn, ⟨F1, ow, _, d, w1, .cons keep .nil, hR, k0.ex e1⟩⟩)
end
end Vd
set_option Elab.async false
set_option linter.all false
set_option maxRecDepth 100000
set_option maxHeartbeats 4000000
/-! Properties, fields stored, objects that are done being made. -/
namespace Vd
open PySem L2
open PySem.Spec PyProof.Rows
section
variable {X : Cx} {env : List (Option D)} {ow : Ow} {o e : Expr} {d : D} {pos : Pos} {C g p a : Addr} {fl : List (Str × D)} {f : Str} {fd : FuncData} {ps : List Str} {k : Nat} {R : List D → D → Prop}
theorem getpropG {sp : Sp} {dx : Addr} {fs : List (Str × V)} {pins : List (Addr × Obj)} {σ : L2.St} {H : Hp} {s : Shared} {Q : VK} {b : Bool} {E2 : Value → Shared → Prop} (I : Inv X pins σ H s) (ea : H a = some (.ins C dx fs)) (c : Cls X.K C) (hp : PropOf X.K C f p g)
    (F : FnG γ X.prog X.w X.K X.mg X.base CX0 k g fd ps sp) (hgd : γ X.A.guards) (hr : Room (k + 1) X.A) (hb : Binds X.K fd ps []) (h : sp [.ref a] H Q E0) : wpAny (model X.prog X.w) X.A (getAttr (.ref a) f b) (EP X pins σ Q) E2 s := by
  obtain ⟨mA, O, _⟩ := ins_get I.hok ea
  obtain ⟨od, J, _⟩ := O.look
  obtain ⟨more, isP⟩ := hp.rec_
  have J1 := I.tok (s.toks + 1)
  have one : (([Value.ref a] : List Value) ++ []).length = ps.length := by
    rw [← F.len _ _ _ _ h]
    rfl
  have isC : (PySem.W.clsIn X.K C).isSome = true := by
    obtain ⟨cd, z, _⟩ := PySem.W.any_some c.hd
    rw [z]
    rfl
  have pg := PySem.W.plainGet_of (c.get f)
  refine PySem.W.get_bind I.kIn J pg.1 (PySem.W.findObj_data isC hp.at_ hp.get hp.tak) pg.2 (wpAny_call (PySem.W.prop_get (s := { s with toks := s.toks + 1 }) I.kIn isP ?_))
  have bnd := hb { s with toks := s.toks + 1 } [.ref a] J1.kIn one
  rw [List.append_nil] at bnd
  refine codeAny_mono (F.run X.A.in1 X.stack { s with toks := s.toks + 1 } H ⟨[.ref a], []⟩ [.ref a] [.ref a] Q E0 hgd hr.in1 J1.env0.in1 bnd (.cons rfl .nil) h) fun r s' hq => ?_
  match r, hq with
  | .error er, hq => exact False.elim hq
  | .ok (.ret u), hq =>
    obtain ⟨v, H', I3, rv, q3⟩ := J1.after hq
    show wpAny _ _ (handedOut u) _ _ _
    rw [PySem.W.handedOut_of (handed_of rv)]
    exact wpAny_pure ⟨v, H', I3, rv, q3⟩
  | .ok .next, hq => exact False.elim hq
  | .ok .brk, hq => exact False.elim hq
  | .ok .cont, hq => exact False.elim hq
theorem ve_prop (c : Cls X.K C) (hp : PropOf X.K C f p g) (F : FnG γ X.prog X.w X.K X.mg X.base CX0 k g fd ps (spR X.K R)) (hgd : γ X.A.guards) (hr : Room (k + 1) X.A) (hb : Binds X.K fd ps []) (h : Ve X e env ow (.ins C fl)) (hR : R [.ins C fl] d) (hab : attributeBase e f X.env (eval e X.env) = eval e X.env := by rfl) :
    Ve X (.Attribute e f pos) env ow d := .mk fun σ F0 H Q s w k0 => by
  have pe : PE X (.Attribute e f pos) (fun σ H Q => WpE X e σ H fun x H1 => ∃ a dx fs, x = .ref a ∧ H1 a = some (.ins C dx fs) ∧ spR X.K R [.ref a] H1 Q E0) := by
    refine ⟨fun pins s σ H Q I hh => attr_of hab (thn (pe_can.run pins s σ H _ I hh) fun u s1 ⟨x, H1, I1, rx, a, dx, fs, ex, ea, q⟩ => ?_)⟩
    subst ex
    obtain rfl : u = Value.ref a := rx
    exact getpropG I1 ea c hp F hgd hr hb q
  refine wpe pe (h σ F0 H _ s w fun F1 H1 v e1 w1 r1 => ?_)
  have keep := r1
  cases r1 with
  | @ins a C2 dx fs l g1 r2 => exact ⟨a, dx, fs, rfl, w1.ex _ _ g1, F1, ow, _, d, w1, .cons keep .nil, hR, k0.ex e1⟩
end
/-! fields stored in an object that is being made -/
def putD (f : Str) (v : D) : List (Str × D) → List (Str × D)
  | [] => [(f, v)]
  | (g, x) :: r => if g = f then (g, v) :: r else (g, x) :: putD f v r
theorem Rpf.put {K : PySem.W.Frag} {F : Hp} {f : Str} {y : V} {d : D} (h : Rp K F y d) : ∀ {fs : List (Str × V)} {l : List (Str × D)}, Rpf K F fs l → Rpf K F (putF f y fs) (putD f d l)
  | [], [], .nil => .cons h .nil
  | (g, x) :: fs, (_, z) :: l, .cons r rs => by
    unfold putF putD
    by_cases q : g = f
    · rw [if_pos q, if_pos q]
      exact .cons h rs
    · rw [if_neg q, if_neg q]
      exact .cons r (Rpf.put h rs)
section
variable {X : Cx} {B : Hp} {env : List (Option D)} {ow : Ow} {o e : Expr} {d : D} {pos p2 : Pos} {C q : Addr} {fl : List (Str × D)} {f : Str} {Dn : Ends} {rest : List Stmt}
/-- o.f = e -/
theorem rn_fld (c : Cls X.K C) (n : NoAttr X.K C f) (h : Ve X e env ow d) (ho : Ve X o env ow (.ob (.ref q))) (hq : ow q = some (.ins C fl)) (hl : fl.length < 1000) (k : ∀ B', Ex B B' → Rn X B' rest Dn env (ou ow q (.ins C (putD f d fl))))
    (hs : swapsWith e (some (.Attribute o f p2)) pos.line X.env = pure false := by rfl) : Rn X B (.Assign [.Attribute o f p2] e pos :: rest) Dn env ow :=
  rn_one ⟨_, ps_fld pe_can pe_can hs, fun σ F H eB s w => h σ F H _ s w fun F1 H1 v e1 w1 r1 => ho σ F1 H1 _ (s.mono e1) w1 fun F2 H2 u e2 w2 r2 => by
    cases r2
    obtain ⟨_, dx, fs, hH, rf⟩ := w2.own q _ hq
    exact ⟨q, C, dx, fs, rfl, hH, c, n, by rw [rf.length]; exact hl, k F2 (eB.trans (e1.trans e2)) _ F2 _ (Evl.Ex.refl F2) (s.mono (e1.trans e2)) (w2.setI (fs0 := fs) hq (rf.put (r1.mono e2)))⟩⟩
/-- from here on an owned object is plain data -/
theorem rn_freezeI {j : Nat} (hj : env[j]? = some (some (.ob (.ref q)))) (hq : ow q = some (.ins C fl)) (k : ∀ B', Ex B B' → Rn X B' rest Dn (env.set j (some (.ins C fl))) (oz ow q)) : Rn X B rest Dn env ow := .mk fun σ F H eB s w => by
  obtain ⟨n, dx, fs, g, sx⟩ := w.own q _ hq
  obtain ⟨v, h1, h2⟩ := s.at_ j _ hj
  cases h2
  have e1 : Ex F (upd F q (.ins C dx fs)) := Evl.Ex.new n
  have w1 : Wo X.K (oz ow q) (upd F q (.ins C dx fs)) H := (w.drop (ow' := oz ow q) fun a o h => by
    by_cases z : a = q
    · subst z
      rw [oz_same] at h
      cases h
    · rw [oz_ne z] at h
      exact h).freeze n g oz_same
  have s1 : Sl X.K (upd F q (.ins C dx fs)) (σ.set j (some (.ref q))) (env.set j (some (.ins C fl))) := (s.mono e1).set (.ins upd_same (sx.mono e1)) j
  have z : σ.set j (some (.ref q)) = σ := by
    apply List.ext_getElem?
    intro m
    rw [List.getElem?_set]
    by_cases y : j = m
    · subst y
      rw [if_pos rfl, h1, if_pos (List.getElem?_eq_some_iff.mp h1).1]
    · rw [if_neg y]
  rw [z] at s1
  exact k _ (eB.trans e1) σ _ H (Evl.Ex.refl _) s1 w1
end
end Vd
set_option Elab.async false
set_option linter.all false
set_option maxRecDepth 100000
set_option maxHeartbeats 4000000
/-! C(a, .., k = v, ..) where __init__ has *v and parameters behind it. -/
namespace Vd
open PySem L2
open PySem.Spec PyProof.Rows
/-- t looks names up in the dict at D, one behind another, and goes on as r -/
def Asks {α : Type} (D : Addr) : List (Str × Value) → Sem α → Sem α → Prop
  | [], t, r => t = r
  | q :: l, t, r => ∃ (β γ : Type) (k1 : Option Value → Sem β) (k2 : β → Sem γ) (k3 : γ → Sem α) (a : β), t = ((nsGet D q.1 >>= k1) >>= k2) >>= k3 ∧ k1 (some q.2) = pure a ∧ Asks D l (k2 a >>= k3) r
theorem Asks.run {α : Type} {K : PySem.W.Frag} {M : Model} {h : Heap} {D : Addr} (X : K.In h) : ∀ {l : List (Str × Value)} {t r : Sem α}, (∀ q ∈ l, PySem.W.nsIn K D q.1 = some (some q.2)) → Asks D l t r →
    ∀ {A : Around} {Q : α → Shared → Prop} {E : Value → Shared → Prop} {s : Shared}, (∀ b o, h.get? b = some o → s.heap.get? b = some o) → wpAny M A r Q E s → wpAny M A t Q E s
  | [], t, r, _, e => fun _ q => by
    rw [show t = r from e]
    exact q
  | q :: l, t, r, hl, e => fun kp z => by
    obtain ⟨β, γ, k1, k2, k3, a, e1, e2, e3⟩ := e
    have look : PySem.W.Looks M h (nsGet D q.1 >>= k1) a := (PySem.W.looks_nsIn X (hl q (List.mem_cons_self ..))).andThen (PySem.W.Looks.of_pure e2)
    have rest := Asks.run X (fun p hp => hl p (List.mem_cons_of_mem _ hp)) e3 kp z
    rw [e1, bind_assoc]
    exact wpAny_bind (look _ _ _ _ kp rest)
/-- a promise of such an __init__: x the object, vs and zs what is passed by position and by the names ks -/
def InS (γ : Gds) (P : Program) (w : World) (K : PySem.W.Frag) (mg : Str → Option Value) (base : Heap) (k : Nat) (f : Addr) (ks : List Str) (sp : Addr → List V → List V → Hp → VK → Prop) : Prop :=
  ∀ (A : Around) (outer : List Env) (s : Shared) (H : Hp) (us ws : List Value) (vs zs : List V) (x : Addr) (Q : VK), γ A.guards → Room k A → Env0 P w K mg base A outer s H → Vals vs us → Vals zs ws → zs.length = ks.length → sp x vs zs H Q →
    codeAny (model P w) A (.call (.ref f) ⟨.ref x :: us, ks.zip ws⟩) (CR CX0 outer P w H s Q E0) s
/-- told by data: ds by position, kd by name, fl the fields of the object behind it -/
def spI (K : PySem.W.Frag) (C : Addr) (R : List D → List D → List (Str × D) → Prop) : Addr → List V → List V → Hp → VK → Prop := fun x vs zs H Q => ∃ F ow ds kd fl, Wo K (ou ow x (.ins C [])) F H ∧ Rps K F vs ds ∧ Rps K F zs kd ∧ R ds kd fl ∧ ds.length ≤ 100000 ∧ ∀ F2 H2, Ex F F2 → Wo K (ou ow x (.ins C fl)) F2 H2 → Q .non H2
section
variable {P : Program} {w : World} {K : PySem.W.Frag} {mg : Str → Option Value} {base : Heap} {k : Nat} {f C D0 : Addr} {name qual pv : Str} {st : Stmt} {doc pm cdv ct oc : Value} {an od : Option Addr} {osl : Array (Option Value)} {N ps : List Str} {ks ms : List Str} {mv : List Value} {mz : List V} {md : List D}
theorem okS {R : List D → List D → List (Str × D) → Prop} (lk : K.lookup f = some ⟨oc, od, .func (PySem.W.fnOf name qual (defArgs st) (defBody st) (defScope st) .none (.ref D0) doc pm an cdv ct), osl⟩) (hcd : PySem.W.codeIn K cdv qual = true)
    (S : FnScope N ((("self" : Str) :: ps) ++ [pv]) (defScope st)) (hms : ∀ q ∈ ms.zip mv, PySem.W.nsIn K D0 q.1 = some (some q.2)) (rm : Vals mz mv) (rd : ∀ F, Rps K F mz md)
    (g : {α : Type} → List α → List α → List α) (gr : ∀ {zs : List V} {ws : List Value}, Vals zs ws → Vals (g zs mz) (g ws mv)) (gd : ∀ {F : Hp} {zs : List V} {kd : List D}, Rps K F zs kd → Rps K F (g zs mz) (g kd md)) (gl : ∀ ws : List Value, ws.length = ks.length → (g ws mv).length = ps.length)
    (hbind : ∀ (x : Value) (us ws : List Value), ws.length = ks.length → Asks D0 (ms.zip mv) (bindArgs (PySem.W.fnOf name qual (defArgs st) (defBody st) (defScope st) .none (.ref D0) doc pm an cdv ct) ⟨x :: us, ks.zip ws⟩) (newTuple us >>= fun t => pure (((("self" : Str) :: ps).zip (x :: g ws mv)) ++ [(pv, t)])))
    (body : ∀ (A : Around) (outer : List Env) (s : Shared) (H B : Hp) (ow : Ow) (x : Addr) (ds kd : List D) (fl : List (Str × D)) (Q : VK), γ A.guards → Room k (A.deeper (envOfC qual (defScope st) s.heap.objs.size f cdv)) → R ds kd fl → (∀ F2 H2, Ex B F2 → Wo K (ou ow x (.ins C fl)) F2 H2 → Q .non H2) →
      Rn (cxOf CX0 P w K mg base N qual (defScope st) f cdv A outer s H E0).nox B (defBody st) { nx := fun _ H' => Q .non H', rt := Q } (env0 N ((.ob (.ref x) :: g kd md) ++ [.tup ds])) (ou ow x (.ins C []))) :
    InS γ P w K mg base (k + 1) f ks (spI K C R) := by
  intro A outer s H us ws vs zs x Q hgd hr e0 r rz hl hsp
  obtain ⟨F, ow, ds, kd, fl, wo, rds, rkd, hR, hsz, kQ⟩ := hsp
  have KX : K.In s.heap := e0.mod.kin.keeps fun b o e => (e0.bs b o e).1
  have wl : ws.length = ks.length := by rw [← rz.length]; exact hl
  have usz : us.length ≤ sizeLine := by
    rw [← r.length, rds.length]
    exact Evl.sz_of hsz
  have hn : H s.heap.objs.size = Option.none := e0.hok.fresh (Nat.le_refl _)
  have r1 : Vals (V.ref x :: g zs mz) (Value.ref x :: g ws mv) := .cons rfl (gr rz)
  have l1 : (Value.ref x :: g ws mv).length = (("self" : Str) :: ps).length := by rw [List.length_cons, gl ws wl, List.length_cons]
  refine StX.run_bnd lk hcd S hr e0 (G := fun xs H2 => ∃ p, H p = Option.none ∧ xs = (V.ref x :: g zs mz) ++ [V.ref p] ∧ H2 = upd H p (.tup vs)) (fun A2 E2 Q2 hh => ?_) fun s2 H2 xs ⟨p, hp, ex, eH⟩ hr2 => ?_
  · refine Asks.run KX hms (hbind (.ref x) us ws wl) (fun b o e => e) (wpAny_bind (wpAny_newTuple (wpAny_pure ?_) usz))
    have new : ObjOk P w (upd H s.heap.objs.size (.tup vs)) (s.heap.push ({ cls := .type "tuple", data := .seq us.toArray } : Obj)) s.heap.objs.size (.tup vs) := ⟨by rw [r.length]; exact usz, us, r, ⟨_, Heap.get?_push_size _ rfl, rfl, _, rfl⟩⟩
    have un := StX.un_laid (fs := frs outer) (s := s) (o := ({ cls := .type "tuple", data := .seq us.toArray } : Obj)) (u := .tup vs) hn
    have z := hh _ _ ((V.ref x :: g zs mz) ++ [V.ref s.heap.objs.size]) ((Value.ref x :: g ws mv) ++ [Value.ref s.heap.objs.size]) (StX.env0_laid e0 new) un rfl (fun _ _ y => y) (r1.append (.cons rfl .nil))
      (by rw [List.length_append, List.length_append, r1.length, l1] <;> rfl) ⟨_, hn, rfl, rfl⟩
    rw [List.zip_append l1.symm] at z
    exact z
  · subst ex
    subst eH
    have w2 := wo.new (o := .tup vs) hp
    have e2 := wo.exnew (o := .tup vs) hp
    have b := body A outer s2 (upd H p (.tup vs)) (upd F p (.tup vs)) ow x ds kd fl Q hgd hr2 hR (fun F3 H3 e3 w3 => kQ F3 H3 (e2.trans e3) w3)
    refine ⟨_, pss_can.nox, b _ _ _ (Evl.Ex.refl _) (Sl.start ?_) w2⟩
    exact Rps.append (.cons (.ob _) (gd (rkd.mono e2))) (.cons (.tup (SqT.of upd_same) (rds.mono e2)) .nil)
end
end Vd
set_option Elab.async false
set_option linter.all false
set_option maxRecDepth 100000
set_option maxHeartbeats 4000000
/-! The making of such an object, as an expression. -/
namespace Vd
open PySem L2
open PySem.Spec PyProof.Rows
/-- values of keywords -/
def Vk (X : Cx) (kws : List Keyword) (env : List (Option D)) (ow : Ow) (kd : List D) : Prop := ∃ t, PK X kws t ∧ ∀ (σ : L2.St) (F H : Hp) (Q : List V → Hp → Prop), Sl X.K F σ env → Wo X.K ow F H → PostA X.K ow F kd Q → t σ H Q
section
variable {X : Cx} {env : List (Option D)} {ow : Ow} {e : Expr} {es : List Expr} {kws : List Keyword} {d : D} {ds kd : List D} {pos p kpos : Pos} {nm : Option Str} {C f : Addr} {k : Nat} {ks : List Str} {fl : List (Str × D)} {x : Str} {R : List D → List D → List (Str × D) → Prop}
theorem vk_nil : Vk X [] env ow [] := ⟨_, pk_nil, fun σ F H Q s w k => k F H [] (Evl.Ex.refl F) w .nil⟩
theorem vk_cons (h : Ve X e env ow d) (hs : Vk X kws env ow kd) : Vk X (⟨nm, e, kpos⟩ :: kws) env ow (d :: kd) := by
  obtain ⟨t, pt, q⟩ := hs
  refine ⟨_, pk_cons pe_can pt, fun σ F H Q s w k => h σ F H _ s w fun F1 H1 y e1 w1 r1 => q σ F1 H1 _ (s.mono e1) w1 fun F2 H2 ys e2 w2 r2 => k F2 H2 _ (e1.trans e2) w2 (.cons (r1.mono e2) r2)⟩
theorem run_mkS {pins : List (Addr × Obj)} {σ : L2.St} {H : Hp} {s : Shared} {Q : VK} {us ws : List Value} {vs zs : List V} (M : Mk X.K C f) (Fi : InS γ X.prog X.w X.K X.mg X.base k f ks (spI X.K C R)) (hgd : γ X.A.guards) (hr : Room (k + 1) X.A)
    (I : Inv X pins σ H s) (r : Vals vs us) (rz : Vals zs ws) (hl : zs.length = ks.length)
    (h : ∀ a dx, H a = none → H dx = none → dx ≠ a → spI X.K C R a vs zs (upd (upd H dx (.own a)) a (.ins C dx [])) (fun v H2 => v = .non ∧ Q (.ref a) H2)) :
    wpAny (model X.prog X.w) X.A (call (.ref C) us (ks.zip ws)) (EP X pins σ Q) X.xe s := by
  have hq := h (s.heap.objs.size + 1) s.heap.objs.size (I.hok.fresh (Nat.le_succ _)) (I.hok.fresh (Nat.le_refl _)) (Nat.ne_of_lt (Nat.lt_succ_self _))
  have J := Inv.made (C := C) I
  have run := Fi (X.A.under (.builtin "type.__call__" ⟨.ref C :: us, ks.zip ws⟩)) X.stack _ _ us ws vs zs (s.heap.objs.size + 1) _ (by exact hgd) (hr.make C us (ks.zip ws)) (J.env0.make C us (ks.zip ws)) r rz hl hq
  refine wpAny_call (make_map (f := f) I.kIn M.makes M.init (beq_iff_eq.mp M.fn) (codeAny_mono run fun r s' hq' => ?_))
  match r, hq' with
  | .error e, z => exact z.elim
  | .ok (.ret u), z =>
    obtain ⟨v, H', I3, rv, ev, q3⟩ := J.after z
    subst ev
    exact ⟨rv, ⟨V.ref (s.heap.objs.size + 1), H', I3, rfl, q3⟩⟩
  | .ok .next, z => exact False.elim z
  | .ok .brk, z => exact False.elim z
  | .ok .cont, z => exact False.elim z
/-- what the making comes to -/
theorem made {F2 H2 : Hp} {vs zs : List V} {Q : VK} (w2 : Wo X.K ow F2 H2) (r : Rps X.K F2 vs ds) (rz : Rps X.K F2 zs kd) (hR : R ds kd fl) (hz : ds.length ≤ 100000) (k0 : Post X.K ow F2 (.ins C fl) Q) (a dx : Addr) (ha : H2 a = none) (hd : H2 dx = none) (hne : dx ≠ a) :
    spI X.K C R a vs zs (upd (upd H2 dx (.own a)) a (.ins C dx [])) (fun v H3 => v = .non ∧ Q (.ref a) H3) := by
  have w3 := w2.new (o := .own a) hd
  have e3 := w2.exnew (o := .own a) hd
  have ha3 : upd H2 dx (.own a) a = none := by rw [upd_ne (Ne.symm hne)]; exact ha
  have oa : ow a = none := w2.ofree ha
  have w4 : Wo X.K (ou ow a (.ins C [])) (upd F2 dx (.own a)) (upd (upd H2 dx (.own a)) a (.ins C dx [])) := by
    have y := w3.grow (o := .ins C dx []) ha3
    refine ⟨y.ex, fun b o q => ?_⟩
    by_cases z : b = a
    · subst z
      rw [ou_same] at q
      cases q
      exact ⟨w3.free ha3, dx, [], upd_same, .nil⟩
    · rw [ou_ne z] at q
      exact y.own b o q
  refine ⟨_, ow, ds, kd, fl, w4, r.mono e3, rz.mono e3, hR, hz, fun F4 H4 e4 w5 => ⟨rfl, ?_⟩⟩
  obtain ⟨n, dx2, fs, g, sx⟩ := w5.own a _ ou_same
  have w6 : Wo X.K ow (upd F4 a (.ins C dx2 fs)) H4 := (w5.drop (ow' := ow) fun b o hb => by
    have z : b ≠ a := fun y => by rw [y, oa] at hb; cases hb
    rw [ou_ne z]
    exact hb).freeze n g oa
  have e5 : Ex F4 (upd F4 a (.ins C dx2 fs)) := Evl.Ex.new n
  exact k0 _ H4 _ (e3.trans (e4.trans e5)) w6 (.ins upd_same (sx.mono e5))
/-- C(k = v, ..) -/
theorem ve_mk0 (M : Mk X.K C f) (Fi : InS γ X.prog X.w X.K X.mg X.base k f ks (spI X.K C R)) (hgd : γ X.A.guards) (hr : Room (k + 1) X.A) (hg : Gl X x) (hm : X.mg x = some (.ref C)) (hk : Vk X kws env ow kd) (hkl : kd.length = ks.length) (hR : R [] kd fl)
    (hall : (backToKw pos (keywordEach kws X.env)).all (·.1.isSome) = true := by rfl) (hks : (backToKw pos (keywordEach kws X.env)).filterMap (·.1) = ks := by rfl) (hdb : (x == ("__debug__" : Str)) = false := by decide)
    (hpl : ((backTo pos (starEach [] X.env)).any (·.1) || (backToKw pos (keywordEach kws X.env)).any (·.1.isNone)) = false := by rfl) : Ve X (.Call (.Name x p) [] kws pos) env ow (.ins C fl) := .mk fun σ F H Q s w k0 => by
  obtain ⟨tk, pk, q⟩ := hk
  have pe : PE X (.Call (.Name x p) [] kws pos) (fun σ H Q => tk σ H fun zs H2 => zs.length = ks.length ∧ ∀ a dx, H2 a = none → H2 dx = none → dx ≠ a → spI X.K C R a [] zs (upd (upd H2 dx (.own a)) a (.ins C dx [])) (fun v H3 => v = .non ∧ Q (.ref a) H3)) := by
    refine ⟨fun pins s σ H Q I h => wpAny_Call_Name_kw (ld_glob I hg hm (PySem.W.callWith_KW0 (h₀ := X.base) I.ok.mod.kin M.kp hall (thn (pk.run pos pins s σ H _ I h) fun ws s2 ⟨zs, H2, I2, rz, l2, q2⟩ => ⟨I2.kIn, ?_⟩) hpl) hdb)⟩
    rw [hks]
    exact run_mkS (us := []) (vs := []) M Fi hgd hr I2 .nil rz l2 q2
  refine wpe pe (q σ F H _ s w fun F2 H2 zs e2 w2 rz => ⟨by rw [rz.length]; exact hkl, fun a dx ha hd hne => made w2 .nil rz hR (Nat.zero_le _) (k0.ex e2) a dx ha hd hne⟩)
/-- C(e, .., k = v, ..) -/
theorem ve_mk (M : Mk X.K C f) (Fi : InS γ X.prog X.w X.K X.mg X.base k f ks (spI X.K C R)) (hgd : γ X.A.guards) (hr : Room (k + 1) X.A) (hg : Gl X x) (hm : X.mg x = some (.ref C)) (ha : Va X (e :: es) env ow ds) (hk : Vk X kws env ow kd) (hkl : kd.length = ks.length) (hz : ds.length ≤ 100000) (hR : R ds kd fl)
    (hall : (backToKw pos (keywordEach kws X.env)).all (·.1.isSome) = true := by rfl) (hks : (backToKw pos (keywordEach kws X.env)).filterMap (·.1) = ks := by rfl) (hdb : (x == ("__debug__" : Str)) = false := by decide)
    (he : starEach (e :: es) X.env = (false, eval e X.env) :: starEach es X.env := by rfl) (hpl : ((backTo pos (starEach (e :: es) X.env)).any (·.1) || (backToKw pos (keywordEach kws X.env)).any (·.1.isNone)) = false := by rfl) : Ve X (.Call (.Name x p) (e :: es) kws pos) env ow (.ins C fl) := .mk fun σ F H Q s w k0 => by
  obtain ⟨tk, pk, q⟩ := hk
  have pe : PE X (.Call (.Name x p) (e :: es) kws pos) (fun σ H Q => WpA X (e :: es) σ H fun vs H1 => tk σ H1 fun zs H2 => zs.length = ks.length ∧ ∀ a dx, H2 a = none → H2 dx = none → dx ≠ a → spI X.K C R a vs zs (upd (upd H2 dx (.own a)) a (.ins C dx [])) (fun v H3 => v = .non ∧ Q (.ref a) H3)) := by
    refine ⟨fun pins s σ H Q I h => wpAny_Call_Name_kw (ld_glob I hg hm (PySem.W.callWith_KW (h₀ := X.base) I.ok.mod.kin M.kp hall (thn (pa_can.run pos pins s σ H _ I h) fun us s1 ⟨vs, H1, I1, r, q1⟩ => ?_) hpl he) hdb)⟩
    refine thn (pk.run pos pins s1 σ H1 _ I1 q1) fun ws s2 ⟨zs, H2, I2, rz, l2, q2⟩ => ⟨I2.kIn, ?_⟩
    rw [hks]
    exact run_mkS M Fi hgd hr I2 r rz l2 q2
  refine wpe pe (ha σ F H _ s w fun F1 H1 vs e1 w1 r1 => q σ F1 H1 _ (s.mono e1) w1 fun F2 H2 zs e2 w2 rz => ⟨by rw [rz.length]; exact hkl, fun a dx ha2 hd hne => made w2 (r1.mono e2) rz hR hz (k0.ex (e1.trans e2)) a dx ha2 hd hne⟩)
end
end Vd
set_option Elab.async false
set_option linter.all false
set_option maxRecDepth 100000
set_option maxHeartbeats 4000000
namespace K2
open PySem L2 Vd
open PySem.Spec PyProof.Rows
/-! the walk over data -/
local macro_rules | `(tactic| walk_at "vis") => `(tactic| first | exact Or.inl rfl | exact Or.inr (Or.inl rfl) | exact Or.inr (Or.inr rfl))
local macro_rules | `(tactic| walk_at "none") => `(tactic| first | assumption)
local macro_rules | `(tactic| walk_at "num") => `(tactic| first | decide | omega)
local macro_rules | `(tactic| walk_at "vr") => `(tactic| first
  | exact bo_add | exact bo_sub | exact bo_mulR (by decide) | exact bo_mulL (by decide) | exact bo_mod (by walk_at "num") | exact bo_div (by walk_at "num") (by walk_at "num") | exact bo_pow (by decide) (by decide) (by decide) | exact bo_cat (by walk_at "num") | exact bo_mulR (by omega) | exact bo_mulL (by omega))
local macro_rules | `(tactic| walk_at "vq") => `(tactic| first
  | exact co_lt | exact co_le | exact co_gt | exact co_ge | exact co_eqI | exact co_neI | exact co_eqS | exact co_neS)
local macro_rules | `(tactic| walk_at "vx") => `(tactic| first
  | exact xo_own (by assumption) rfl | exact xo_lst rfl | exact xo_tup rfl)
local macro_rules | `(tactic| walk_at "vf") => `(tactic| first
  | exact fo_abs | exact fo_lenL | exact fo_lenT | exact fo_lenO (by assumption) | exact fo_divmod (by walk_at "num") (by walk_at "num") | exact fo_max rfl | exact fo_min rfl)
local macro_rules | `(tactic| walk_at "vn") => `(tactic| first
  | exact ve_var (i := 0) rfl rfl (by walk_at "vis") | exact ve_var (i := 1) rfl rfl (by walk_at "vis") | exact ve_var (i := 2) rfl rfl (by walk_at "vis") | exact ve_var (i := 3) rfl rfl (by walk_at "vis") | exact ve_var (i := 4) rfl rfl (by walk_at "vis") | exact ve_var (i := 5) rfl rfl (by walk_at "vis") | exact ve_var (i := 6) rfl rfl (by walk_at "vis") | exact ve_var (i := 7) rfl rfl (by walk_at "vis"))
local macro_rules | `(tactic| walk_at "vd") => `(tactic| first
  | exact ve_int | exact ve_bl | exact ve_non | exact ve_str
  | (refine' ve_bin ?ha ?hb ?hr; (case ha => walk_at "vd"); (case hb => walk_at "vd"); (case hr => walk_at "vr"))
  | (refine' ve_sub ?ha ?hb (fun _ _ => rfl) ?hr; (case ha => walk_at "vd"); (case hb => walk_at "vd"); (case hr => walk_at "vx"))
  | (refine' ve_ty (id := "int") ?ha rfl ?hm boot_int ?hr; (case ha => walk_at "va"); (case hm => walk_at "none"); (case hr => exact to_int))
  | (refine' ve_bi ?ha rfl ?hm ?hv ?hr; (case hv => first | exact boot_abs | exact boot_len | exact boot_divmod | exact boot_max | exact boot_min); (case ha => walk_at "va"); (case hm => walk_at "none"); (case hr => walk_at "vf"))
  | (refine' ve_tup ?ha ?hl; (case ha => walk_at "va"); (case hl => walk_at "num"))
  | (refine' ve_lst ?ha ?hl; (case ha => walk_at "va"); (case hl => walk_at "num"))
  | (refine' ve_comp ?ha ?hb ?hr; (case ha => walk_at "vd"); (case hb => walk_at "vd"); (case hr => walk_at "vq"))
  | walk_at "vn")
local macro_rules | `(tactic| walk_at "va") => `(tactic| first | exact va_nil | (refine' va_cons ?ha ?hb; (case ha => walk_at "vd"); (case hb => walk_at "va")))
local macro_rules | `(tactic| walk_at "vt") => `(tactic| first
  | (refine' vt_comp ?ha ?hb ?hr; (case ha => walk_at "vd"); (case hb => walk_at "vd"); (case hr => walk_at "vq"))
  | (refine' vt_val ?hv; case hv => walk_at "vd"))
theorem co_notN {X : Cx} {ow : Ow} {b : Expr} {d : D} {t : Bool} (h : ∀ {K : PySem.W.Frag} {F : Hp} {x : V}, Rp K F x d → (!decide (x = .non)) = t) : CmpOk X ow .IsNot b d .non (.bl t) := ⟨_, op_notN, nomark _, .mk fun F H x y Q w r1 r2 k => by
  cases r2
  have z := h r1
  exact ⟨rfl, by rw [z]; exact k.here w (.bl _)⟩⟩
theorem co_notN0 {X : Cx} {ow : Ow} {b : Expr} : CmpOk X ow .IsNot b .non .non (.bl false) := co_notN fun r => by cases r; rfl
/-! ### Times(..) -/
abbrev sIni : Stmt := s_Times___init__
theorem scIni : FnScope ["self", "period", "marks", "numbers", "at", "number", "mark"] ((("self" : Str) :: ["period", "marks"]) ++ [("numbers" : Str)]) (defScope sIni) := ⟨rfl, rfl, rfl, by decide +kernel, rfl, by decide +kernel, by decide +kernel⟩
/-- the fields of a set of times -/
def tmD (ns : List Nat) (a : Nat) (A : List Nat) : List (Str × D) := [("_numbers", .tup (ns.map natD)), ("_pattern", .tup [natD a, .tup (A.map natD)])]
structure IniOk (ns : List Nat) (n : Nat) (M : List Nat) (a : Nat) (A : List Nat) : Prop where
  asc : Per.Asc ns
  lt : ∀ x ∈ ns, x ≤ 1000000000000000000000000000000
  pat : Per.Pat n M
  le : n ≤ 1000
  lst : Per.Lst n M a A
def RIni (g : List D → List D) (ds kd : List D) (fl : List (Str × D)) : Prop := ∃ (ns : List Nat) (n : Nat) (M : List Nat) (a : Nat) (A : List Nat), ds = ns.map natD ∧ ns.length ≤ 100000 ∧ g kd = [natD n, .tup (M.map natD)] ∧ IniOk ns n M a A ∧ fl = tmD ns a A
theorem good_asc {m : Int} {l : List Nat} (a : Per.Asc l) (h : ∀ x ∈ l, (x : Int) ≤ m) : FuIs m (l.map natD) none := fun j hj => by
  rw [List.length_map] at hj
  have e : (l.map natD).getD j .non = natD l[j] := by simp [hj]
  unfold good
  rw [e, Bool.and_eq_true]
  have m1 := h _ (List.getElem_mem hj)
  refine ⟨decide_eq_true ⟨by omega, m1⟩, ?_⟩
  by_cases z : j = 0
  · rw [decide_eq_true z, Bool.true_or]
  · have e2 : (l.map natD).getD (j - 1) .non = natD l[j - 1] := by
      have : j - 1 < l.length := by omega
      simp [this]
    rw [e2, decide_eq_false z, Bool.false_or]
    have lt := List.pairwise_iff_getElem.mp a (j - 1) j (by omega) hj (by omega)
    exact decide_eq_true (by omega)
theorem kinds_nat {l : List Nat} : ∀ v ∈ l.map natD, v.kind.isSome = true := by
  intro v hv
  obtain ⟨n, _, rfl⟩ := List.mem_map.mp hv
  rfl
theorem asc_len {n : Nat} {M : List Nat} (p : Per.Pat n M) : M.length ≤ n := by
  have e : M = (List.range n).filter (fun x => decide (x ∈ M)) := by
    refine Per.asc_ext p.asc ((List.pairwise_lt_range).filter _) fun x => ?_
    rw [List.mem_filter, List.mem_range]
    exact ⟨fun h => ⟨p.lt x h, decide_eq_true h⟩, fun h => of_decide_eq_true h.2⟩
  rw [e]
  exact Nat.le_trans (List.length_filter_le _ _) (by rw [List.length_range]; exact Nat.le_refl _)
section
variable {P : Program} {w : World} {K : PySem.W.Frag} {mg : Str → Option Value} {base : Heap}
/-- what __init__ leans on -/
structure IniEnv (γ : Gds) (P : Program) (w : World) (K : PySem.W.Frag) (mg : Str → Option Value) (base : Heap) (C : Addr) : Prop where
  fu : ∃ f fd, FnG γ P w K mg base CX0 3 f fd ["row", "most"] (spR K RFu) ∧ mg "first_unfit" = some (.ref f) ∧ PySem.W.keepIn K (.ref f) = true ∧ Binds K fd ["row", "most"] []
  wi : ∃ f fd, FnG γ P w K mg base CX0 2 f fd ["value", "least", "most"] (spR K RIsW) ∧ mg "is_within" = some (.ref f) ∧ PySem.W.keepIn K (.ref f) = true ∧ Binds K fd ["value", "least", "most"] []
  sh : ∃ f fd, FnG γ P w K mg base CX0 2 f fd ["period", "marks"] (spR K RSho) ∧ mg "shortest" = some (.ref f) ∧ PySem.W.keepIn K (.ref f) = true ∧ Binds K fd ["period", "marks"] []
  cls : Cls K C
  n1 : NoAttr K C "_numbers"
  n2 : NoAttr K C "_pattern"
  g1 : ∃ t, mg "GREATEST" = some (.int 1000000000000000000000000000000 t)
  g2 : ∃ t, mg "MOST_PERIOD" = some (.int 1000 t)
  mI : mg "isinstance" = none
  mT : mg "tuple" = none
  mN : mg "int" = none
theorem ve_cst {X : Cx} {env : List (Option D)} {ow : Ow} {x : Str} {pos : Pos} {i : Int} (h : ∃ t, X.mg x = some (.int i t)) (hg : Gl X x) (hx : (x == ("__debug__" : Str)) = false) : Ve X (.Name x pos) env ow (.int i) := by
  obtain ⟨t, e⟩ := h
  exact ve_glob (v := .int i) hg e ⟨t, rfl⟩ (fun _ => .int _) hx
theorem init_body {qual : Str} {f C : Addr} {cdv : Value} {md : List D} (T : IniEnv γ P w K mg base C) (g : {α : Type} → List α → List α → List α) (A : Around) (outer : List Env) (s : Shared) (H B : Hp) (ow : Ow) (x : Addr) (ds kd : List D) (fl : List (Str × D)) (Q : VK) (hgd : γ A.guards) (hr : Room 3 (A.deeper (envOfC qual (defScope sIni) s.heap.objs.size f cdv)))
    (hR : RIni (fun kd => g kd md) ds kd fl) (kQ : ∀ F2 H2, Ex B F2 → Wo K (ou ow x (.ins C fl)) F2 H2 → Q .non H2) :
    Rn (cxOf CX0 P w K mg base ["self", "period", "marks", "numbers", "at", "number", "mark"] qual (defScope sIni) f cdv A outer s H E0).nox B (defBody sIni) { nx := fun _ H' => Q .non H', rt := Q } (env0 ["self", "period", "marks", "numbers", "at", "number", "mark"] ((.ob (.ref x) :: g kd md) ++ [.tup ds])) (ou ow x (.ins C [])) := by
  obtain ⟨ns, n, M, a, A0, rfl, hns, hkd, ok, rfl⟩ := hR
  obtain ⟨f1, fd1, F1, m1, k1, b1⟩ := T.fu
  obtain ⟨f2, fd2, F2, m2, k2, b2⟩ := T.wi
  obtain ⟨f3, fd3, F3, m3, k3, b3⟩ := T.sh
  have mI := T.mI
  have mT := T.mT
  have mN := T.mN
  have npos := ok.pat.pos
  have nle := ok.le
  have Ml : M.length ≤ 1000 := Nat.le_trans (asc_len ok.pat) nle
  have hr2 : Room 2 (A.deeper (envOfC qual (defScope sIni) s.heap.objs.size f cdv)) := hr.mono (by decide)
  have hkd2 : g kd md = [natD n, .tup (M.map natD)] := hkd
  rw [hkd2]
  refine' rn_set (i := 4) (d := .non) scIni.nd rfl (by first | exact .inl rfl | exact .inr rfl) ?h ?k
  case h => exact ve_R F1 hgd hr rfl m1 k1 b1 (va_cons (ve_var (d := .tup (ns.map natD)) (i := 3) rfl rfl (by walk_at "vis")) (va_cons (ve_cst T.g1 rfl (by decide)) va_nil)) ⟨ns.map natD, _, none, rfl, kinds_nat, good_asc ok.asc (fun x hx => by have := ok.lt x hx; omega), rfl⟩
  case k =>
  intro B1 e1
  refine' rn_if (t := false) ?h (fun z => nomatch z) ?h2
  case h => exact vt_comp (ve_var (i := 4) rfl rfl (by walk_at "vis")) ve_non co_notN0
  case h2 =>
  intro _ B2 e2
  refine rn_go ?_
  refine' rn_if (t := !true) ?h (fun z => nomatch z) ?h2
  case h => exact vt_not (vt_val (ve_R F2 hgd hr2 rfl m2 k2 b2 (va_cons (ve_var (d := natD n) (i := 1) rfl rfl (by walk_at "vis")) (va_cons ve_int (va_cons (ve_cst T.g2 rfl (by decide)) va_nil))) ⟨natD n, 1, 1000, rfl, rfl, by
    have : D.within 1 1000 (natD n) = true := decide_eq_true (by omega)
    rw [this]⟩))
  case h2 =>
  intro _ B3 e3
  refine rn_go ?_
  refine' rn_if (t := !true || false) ?h (fun z => nomatch z) ?h2
  case h =>
    refine vt_w (vw_or (vt_not (vt_val ?_)) (fun _ => vw_or1 ?_) (pw_all_or _ _))
    · exact ve_bi (va_cons (ve_var (d := .tup (M.map natD)) (i := 2) rfl rfl (by walk_at "vis")) (va_cons (ve_bty rfl mT boot_tuple) va_nil)) rfl mI boot_isinstance fo_isTup
    · refine vt_comp (d1 := .non) (ve_R F1 hgd hr rfl m1 k1 b1 (va_cons (ve_var (d := .tup (M.map natD)) (i := 2) rfl rfl (by walk_at "vis")) (va_cons (ve_bin (ve_var (d := natD n) (i := 1) rfl rfl (by walk_at "vis")) ve_int bo_sub) va_nil)) ⟨M.map natD, _, none, rfl, kinds_nat, good_asc ok.pat.asc (fun x hx => by have := ok.pat.lt x hx; omega), rfl⟩) ve_non co_notN0
  case h2 =>
  intro _ B4 e4
  refine rn_go ?_
  have comp : ∀ (l : List Nat), l.length ≤ 100000 → ((l.map natD).filter (fun _ => true)).map (fun d => d) = l.map natD := fun l _ => by
    rw [List.filter_eq_self.mpr (fun _ _ => rfl), List.map_id']
  refine' rn_fld (d := .tup (ns.map natD)) (q := x) (fl := []) T.cls T.n1 ?h ?ho ou_same (by show 0 < 1000; decide) ?k
  case ho => exact ve_var (i := 0) rfl rfl (by walk_at "vis")
  case h =>
    refine ve_ty (va_cons (ve_is (ve_lc (j := 5) (fun _ => true) (fun d => d) (ds := ns.map natD) rfl scIni.nd (vi_tup (ve_var (i := 3) rfl rfl (by walk_at "vis"))) (blkOk_by (N := ["self", "period", "marks", "numbers", "at", "number", "mark"]) (sc := defScope sIni) (by decide +kernel)) ?_ (fun _ _ _ _ _ => pg_name scIni.nd rfl (.inl rfl)) (fun _ _ _ _ _ _ _ _ _ => vts_nil) ?_) (by rw [comp ns hns])) va_nil) rfl mT boot_tuple to_tupL
    · rw [List.length_map]; exact hns
    · intro d ow' hd _ sub s0 H0 C0 cl fp
      obtain ⟨m, hm, rfl⟩ := List.mem_map.mp hd
      exact ve_ty (va_cons (ve_var (d := natD m) (i := 5) rfl rfl (by walk_at "vis")) va_nil) rfl mN boot_int to_int
  case k =>
  intro B5 e5
  refine' rn_fld (d := .tup [natD a, .tup (A0.map natD)]) (q := x) (fl := [("_numbers", .tup (ns.map natD))]) T.cls T.n2 ?h ?ho ou_same (by show 1 < 1000; decide) ?k
  case ho => exact ve_var (i := 0) rfl rfl (by walk_at "vis")
  case h =>
    refine ve_R F3 hgd hr2 rfl m3 k3 b3 (va_cons (ve_ty (va_cons (ve_var (d := natD n) (i := 1) rfl rfl (by walk_at "vis")) va_nil) rfl mN boot_int to_int) (va_cons (ve_ty (va_cons (ve_is (ve_lc (j := 6) (fun _ => true) (fun d => d) (ds := M.map natD) rfl scIni.nd (vi_tup (ve_var (i := 2) rfl rfl (by walk_at "vis"))) (blkOk_by (N := ["self", "period", "marks", "numbers", "at", "number", "mark"]) (sc := defScope sIni) (by decide +kernel)) ?_ (fun _ _ _ _ _ => pg_name scIni.nd rfl (.inl rfl)) (fun _ _ _ _ _ _ _ _ _ => vts_nil) ?_) (by rw [comp M (by omega)])) va_nil) rfl mT boot_tuple to_tupL) va_nil))
      ⟨n, a, M, A0, rfl, ok.pat, by omega, by omega, ok.lst, rfl⟩
    · rw [List.length_map]; omega
    · intro d ow' hd _ sub s0 H0 C0 cl fp
      obtain ⟨m, hm, rfl⟩ := List.mem_map.mp hd
      exact ve_ty (va_cons (ve_var (d := natD m) (i := 6) rfl rfl (by walk_at "vis")) va_nil) rfl mN boot_int to_int
  case k =>
  intro B6 e6
  refine rn_end fun σ F3 H3 e7 s3 w3 => kQ F3 H3 (e1.trans (e2.trans (e3.trans (e4.trans (e5.trans (e6.trans e7)))))) ?_
  have z := w3
  rw [ou_ou, ou_ou] at z
  exact z
end
end K2
set_option Elab.async false
set_option linter.all false
set_option maxRecDepth 100000
set_option maxHeartbeats 4000000
namespace K2
open PySem L2 Vd
open PySem.Spec PyProof.Rows
/-! the forms in which a set is made -/
def gPM {α : Type} (a b : List α) : List α := a
def gMP {α : Type} (a b : List α) : List α := a.reverse
def gP {α : Type} (a b : List α) : List α := a ++ b
def gM {α : Type} (a b : List α) : List α := b ++ a
def g0 {α : Type} (a b : List α) : List α := b
theorem Vals.rev {a : List V} {b : List Value} (r : Vals a b) : Vals a.reverse b.reverse := by
  induction r with
  | nil => exact .nil
  | cons h t ih =>
    rw [List.reverse_cons, List.reverse_cons]
    exact ih.append (.cons h .nil)
theorem Rps.rev {K : PySem.W.Frag} {F : Hp} : ∀ {a : List V} {b : List D}, Rps K F a b → Rps K F a.reverse b.reverse
  | _, _, .nil => .nil
  | _, _, .cons h t => by
    rw [List.reverse_cons, List.reverse_cons]
    exact (Rps.rev t).append (.cons h .nil)
section
variable {P : Program} {w : World} {K : PySem.W.Frag} {mg : Str → Option Value} {base : Heap} {C f D0 : Addr} {doc pm cdv ct oc : Value} {an od : Option Addr} {osl : Array (Option Value)}
/-- the defaults 1 and () -/
structure Dfl (K : PySem.W.Frag) (D0 T0 : Addr) (t : Tok) : Prop where
  p : PySem.W.nsIn K D0 "period" = some (some (.int 1 t))
  m : PySem.W.nsIn K D0 "marks" = some (some (.ref T0))
  tup : ∀ F : Hp, SqT K F T0 []
theorem ini_PM (T : IniEnv γ P w K mg base C) (lk : K.lookup f = some ⟨oc, od, .func (PySem.W.fnOf "__init__" "Times.__init__" (defArgs sIni) (defBody sIni) (defScope sIni) .none (.ref D0) doc pm an cdv ct), osl⟩) (hcd : PySem.W.codeIn K cdv "Times.__init__" = true) :
    InS γ P w K mg base 4 f ["period", "marks"] (spI K C (RIni fun kd => gPM kd [])) :=
  okS (ps := ["period", "marks"]) (ms := []) (mv := []) (mz := []) (md := []) lk hcd scIni (fun q hq => by cases hq) .nil (fun _ => .nil) gPM (fun r => r) (fun r => r) (fun ws h => h)
    (fun x us ws h => match ws, h with | [a, b], _ => by cases us <;> rfl) (init_body T gPM)
theorem ini_MP (T : IniEnv γ P w K mg base C) (lk : K.lookup f = some ⟨oc, od, .func (PySem.W.fnOf "__init__" "Times.__init__" (defArgs sIni) (defBody sIni) (defScope sIni) .none (.ref D0) doc pm an cdv ct), osl⟩) (hcd : PySem.W.codeIn K cdv "Times.__init__" = true) :
    InS γ P w K mg base 4 f ["marks", "period"] (spI K C (RIni fun kd => gMP kd [])) :=
  okS (ps := ["period", "marks"]) (ms := []) (mv := []) (mz := []) (md := []) lk hcd scIni (fun q hq => by cases hq) .nil (fun _ => .nil) gMP (fun r => Vals.rev r) (fun r => Rps.rev r) (fun ws h => by unfold gMP; rw [List.length_reverse]; exact h)
    (fun x us ws h => match ws, h with | [a, b], _ => by cases us <;> rfl) (init_body T gMP)
theorem ini_P {T0 : Addr} {t : Tok} (T : IniEnv γ P w K mg base C) (df : Dfl K D0 T0 t) (lk : K.lookup f = some ⟨oc, od, .func (PySem.W.fnOf "__init__" "Times.__init__" (defArgs sIni) (defBody sIni) (defScope sIni) .none (.ref D0) doc pm an cdv ct), osl⟩) (hcd : PySem.W.codeIn K cdv "Times.__init__" = true) :
    InS γ P w K mg base 4 f ["period"] (spI K C (RIni fun kd => gP kd [.tup []])) :=
  okS (ps := ["period", "marks"]) (ms := ["marks"]) (mv := [.ref T0]) (mz := [.ref T0]) (md := [.tup []]) lk hcd scIni (fun q hq => by simp at hq; subst hq; exact df.m) (.cons rfl .nil) (fun F => .cons (.tup (df.tup F) .nil) .nil) gP (fun r => r.append (.cons rfl .nil)) (fun r => Rps.append r (.cons (.tup (df.tup _) .nil) .nil)) (fun ws h => by unfold gP; rw [List.length_append, h]; rfl)
    (fun x us ws h => match ws, h with | [a], _ => by cases us <;> exact ⟨_, _, _, _, _, _, rfl, rfl, rfl⟩) (init_body T gP)
theorem ini_M {T0 : Addr} {t : Tok} (T : IniEnv γ P w K mg base C) (df : Dfl K D0 T0 t) (lk : K.lookup f = some ⟨oc, od, .func (PySem.W.fnOf "__init__" "Times.__init__" (defArgs sIni) (defBody sIni) (defScope sIni) .none (.ref D0) doc pm an cdv ct), osl⟩) (hcd : PySem.W.codeIn K cdv "Times.__init__" = true) :
    InS γ P w K mg base 4 f ["marks"] (spI K C (RIni fun kd => gM kd [natD 1])) :=
  okS (ps := ["period", "marks"]) (ms := ["period"]) (mv := [.int 1 t]) (mz := [.int 1]) (md := [natD 1]) lk hcd scIni (fun q hq => by simp at hq; subst hq; exact df.p) (.cons ⟨_, rfl⟩ .nil) (fun F => .cons (.int 1) .nil) gM (fun r => .cons ⟨_, rfl⟩ r) (fun r => .cons (.int 1) r) (fun ws h => by show ws.length + 1 = 2; rw [h]; rfl)
    (fun x us ws h => match ws, h with | [a], _ => by cases us <;> exact ⟨_, _, _, _, _, _, rfl, rfl, rfl⟩) (init_body T gM)
theorem ini_0 {T0 : Addr} {t : Tok} (T : IniEnv γ P w K mg base C) (df : Dfl K D0 T0 t) (lk : K.lookup f = some ⟨oc, od, .func (PySem.W.fnOf "__init__" "Times.__init__" (defArgs sIni) (defBody sIni) (defScope sIni) .none (.ref D0) doc pm an cdv ct), osl⟩) (hcd : PySem.W.codeIn K cdv "Times.__init__" = true) :
    InS γ P w K mg base 4 f [] (spI K C (RIni fun kd => g0 kd [natD 1, .tup []])) :=
  okS (ps := ["period", "marks"]) (ms := ["period", "marks"]) (mv := [.int 1 t, .ref T0]) (mz := [.int 1, .ref T0]) (md := [natD 1, .tup []]) lk hcd scIni (fun q hq => by
      simp at hq
      rcases hq with rfl | rfl
      · exact df.p
      · exact df.m) (.cons ⟨_, rfl⟩ (.cons rfl .nil)) (fun F => .cons (.int 1) (.cons (.tup (df.tup F) .nil) .nil)) g0 (fun _ => .cons ⟨_, rfl⟩ (.cons rfl .nil)) (fun _ => .cons (.int 1) (.cons (.tup (df.tup _) .nil) .nil)) (fun ws h => rfl)
    (fun x us ws h => match ws, h with | [], _ => by cases us <;> exact ⟨_, _, _, _, _, _, rfl, rfl, ⟨_, _, _, _, _, _, rfl, rfl, rfl⟩⟩) (init_body T g0)
end
end K2
set_option Elab.async false
set_option linter.all false
set_option maxRecDepth 100000
set_option maxHeartbeats 4000000
namespace K2
open PySem L2 Vd
open PySem.Spec PyProof.Rows
/-! the walk over data -/
local macro_rules | `(tactic| walk_at "vis") => `(tactic| first | exact Or.inl rfl | exact Or.inr (Or.inl rfl) | exact Or.inr (Or.inr rfl))
local macro_rules | `(tactic| walk_at "none") => `(tactic| first | assumption)
local macro_rules | `(tactic| walk_at "num") => `(tactic| first | decide | omega)
local macro_rules | `(tactic| walk_at "vr") => `(tactic| first
  | exact bo_add | exact bo_sub | exact bo_mulR (by decide) | exact bo_mulL (by decide) | exact bo_mod (by walk_at "num") | exact bo_div (by walk_at "num") (by walk_at "num") | exact bo_pow (by decide) (by decide) (by decide) | exact bo_cat (by walk_at "num") | exact bo_mulR (by omega) | exact bo_mulL (by omega))
local macro_rules | `(tactic| walk_at "vq") => `(tactic| first
  | exact co_lt | exact co_le | exact co_gt | exact co_ge | exact co_eqI | exact co_neI | exact co_eqS | exact co_neS)
local macro_rules | `(tactic| walk_at "vx") => `(tactic| first
  | exact xo_own (by assumption) rfl | exact xo_lst rfl | exact xo_tup rfl)
local macro_rules | `(tactic| walk_at "vf") => `(tactic| first
  | exact fo_abs | exact fo_lenL | exact fo_lenT | exact fo_lenO (by assumption) | exact fo_divmod (by walk_at "num") (by walk_at "num") | exact fo_max rfl | exact fo_min rfl)
local macro_rules | `(tactic| walk_at "vn") => `(tactic| first
  | exact ve_var (i := 0) rfl rfl (by walk_at "vis") | exact ve_var (i := 1) rfl rfl (by walk_at "vis") | exact ve_var (i := 2) rfl rfl (by walk_at "vis") | exact ve_var (i := 3) rfl rfl (by walk_at "vis") | exact ve_var (i := 4) rfl rfl (by walk_at "vis") | exact ve_var (i := 5) rfl rfl (by walk_at "vis") | exact ve_var (i := 6) rfl rfl (by walk_at "vis") | exact ve_var (i := 7) rfl rfl (by walk_at "vis"))
local macro_rules | `(tactic| walk_at "vd") => `(tactic| first
  | exact ve_int | exact ve_bl | exact ve_non | exact ve_str
  | (refine' ve_bin ?ha ?hb ?hr; (case ha => walk_at "vd"); (case hb => walk_at "vd"); (case hr => walk_at "vr"))
  | (refine' ve_sub ?ha ?hb (fun _ _ => rfl) ?hr; (case ha => walk_at "vd"); (case hb => walk_at "vd"); (case hr => walk_at "vx"))
  | (refine' ve_ty (id := "int") ?ha rfl ?hm boot_int ?hr; (case ha => walk_at "va"); (case hm => walk_at "none"); (case hr => exact to_int))
  | (refine' ve_bi ?ha rfl ?hm ?hv ?hr; (case hv => first | exact boot_abs | exact boot_len | exact boot_divmod | exact boot_max | exact boot_min); (case ha => walk_at "va"); (case hm => walk_at "none"); (case hr => walk_at "vf"))
  | (refine' ve_tup ?ha ?hl; (case ha => walk_at "va"); (case hl => walk_at "num"))
  | (refine' ve_lst ?ha ?hl; (case ha => walk_at "va"); (case hl => walk_at "num"))
  | (refine' ve_comp ?ha ?hb ?hr; (case ha => walk_at "vd"); (case hb => walk_at "vd"); (case hr => walk_at "vq"))
  | walk_at "vn")
local macro_rules | `(tactic| walk_at "va") => `(tactic| first | exact va_nil | (refine' va_cons ?ha ?hb; (case ha => walk_at "vd"); (case hb => walk_at "va")))
local macro_rules | `(tactic| walk_at "vt") => `(tactic| first
  | (refine' vt_comp ?ha ?hb ?hr; (case ha => walk_at "vd"); (case hb => walk_at "vd"); (case hr => walk_at "vq"))
  | (refine' vt_val ?hv; case hv => walk_at "vd"))
/-! ### the properties of a set of times -/
theorem look_n {ns : List Nat} {a : Nat} {A : List Nat} : (tmD ns a A).lookup ("_numbers" : Str) = some (D.tup (ns.map natD)) := rfl
theorem look_p {ns : List Nat} {a : Nat} {A : List Nat} : (tmD ns a A).lookup ("_pattern" : Str) = some (D.tup [natD a, D.tup (A.map natD)]) := rfl
def RSelf (C : Addr) (g : List Nat → Nat → List Nat → D) (ds : List D) (d : D) : Prop := ∃ (ns : List Nat) (a : Nat) (A : List Nat), ds = [.ins C (tmD ns a A)] ∧ A.length ≤ 100000 ∧ ns.length ≤ 100000 ∧ d = g ns a A
section
variable {P : Program} {w : World} {K : PySem.W.Frag} {mg : Str → Option Value} {base : Heap}
theorem ve_num {X : Cx} {env : List (Option D)} {ow : Ow} {e : Expr} {pos : Pos} {C : Addr} {ns A : List Nat} {a : Nat} (c : Cls X.K C) (n1 : NoAttr X.K C "_numbers") (h : Ve X e env ow (.ins C (tmD ns a A))) (hb : attributeBase e "_numbers" X.env (eval e X.env) = eval e X.env := by rfl) : Ve X (.Attribute e "_numbers" pos) env ow (.tup (ns.map natD)) := ve_at c n1 h look_n hb
theorem ve_pat {X : Cx} {env : List (Option D)} {ow : Ow} {e : Expr} {pos : Pos} {C : Addr} {ns A : List Nat} {a : Nat} (c : Cls X.K C) (n2 : NoAttr X.K C "_pattern") (h : Ve X e env ow (.ins C (tmD ns a A))) (hb : attributeBase e "_pattern" X.env (eval e X.env) = eval e X.env := by rfl) : Ve X (.Attribute e "_pattern" pos) env ow (.tup [natD a, .tup (A.map natD)]) := ve_at c n2 h look_p hb
abbrev sPer : Stmt := s_Times_period
theorem scPer : FnScope ["self"] ["self"] (defScope sPer) := ⟨rfl, rfl, rfl, by decide +kernel, rfl, by decide +kernel, by decide +kernel⟩
abbrev sMks : Stmt := s_Times_marks
theorem scMks : FnScope ["self"] ["self"] (defScope sMks) := ⟨rfl, rfl, rfl, by decide +kernel, rfl, by decide +kernel, by decide +kernel⟩
abbrev sNbs : Stmt := s_Times_numbers
theorem scNbs : FnScope ["self"] ["self"] (defScope sNbs) := ⟨rfl, rfl, rfl, by decide +kernel, rfl, by decide +kernel, by decide +kernel⟩
abbrev sEnd : Stmt := s_Times_endless
theorem scEnd : FnScope ["self"] ["self"] (defScope sEnd) := ⟨rfl, rfl, rfl, by decide +kernel, rfl, by decide +kernel, by decide +kernel⟩
abbrev sMny : Stmt := s_Times_many
theorem scMny : FnScope ["self"] ["self"] (defScope sMny) := ⟨rfl, rfl, rfl, by decide +kernel, rfl, by decide +kernel, by decide +kernel⟩
theorem ok_period {f C : Addr} {fd : FuncData} (Fn : Fun K "period" "Times.period" sPer f fd) (c : Cls K C) (n1 : NoAttr K C "_numbers") (n2 : NoAttr K C "_pattern") : FnG γ P w K mg base CX0 1 f fd ["self"] (spR K (RSelf C (fun ns a A => natD a))) := by
  refine okR Fn scPer (fun ds d ⟨ns, a, A, e, _⟩ => by rw [e]; rfl) fun cdv A0 outer s H B ow ds d Q E hgd hrm hR kQ => ?_
  obtain ⟨ns, a, A, rfl, hA, hns, rfl⟩ := hR
  exact rn_ret (ve_sub (ve_pat c n2 (ve_var (i := 0) rfl rfl (by walk_at "vis"))) ve_int (fun _ _ => rfl) (xo_tup rfl)) kQ
theorem ok_marks {f C : Addr} {fd : FuncData} (Fn : Fun K "marks" "Times.marks" sMks f fd) (c : Cls K C) (n1 : NoAttr K C "_numbers") (n2 : NoAttr K C "_pattern") : FnG γ P w K mg base CX0 1 f fd ["self"] (spR K (RSelf C (fun ns a A => .tup (A.map natD)))) := by
  refine okR Fn scMks (fun ds d ⟨ns, a, A, e, _⟩ => by rw [e]; rfl) fun cdv A0 outer s H B ow ds d Q E hgd hrm hR kQ => ?_
  obtain ⟨ns, a, A, rfl, hA, hns, rfl⟩ := hR
  exact rn_ret (ve_sub (ve_pat c n2 (ve_var (i := 0) rfl rfl (by walk_at "vis"))) ve_int (fun _ _ => rfl) (xo_tup rfl)) kQ
theorem ok_numbers {f C : Addr} {fd : FuncData} (Fn : Fun K "numbers" "Times.numbers" sNbs f fd) (c : Cls K C) (n1 : NoAttr K C "_numbers") (n2 : NoAttr K C "_pattern") : FnG γ P w K mg base CX0 1 f fd ["self"] (spR K (RSelf C (fun ns a A => .tup (ns.map natD)))) := by
  refine okR Fn scNbs (fun ds d ⟨ns, a, A, e, _⟩ => by rw [e]; rfl) fun cdv A0 outer s H B ow ds d Q E hgd hrm hR kQ => ?_
  obtain ⟨ns, a, A, rfl, hA, hns, rfl⟩ := hR
  exact rn_ret (ve_num c n1 (ve_var (i := 0) rfl rfl (by walk_at "vis"))) kQ
theorem ok_endless {f C : Addr} {fd : FuncData} (Fn : Fun K "endless" "Times.endless" sEnd f fd) (c : Cls K C) (n1 : NoAttr K C "_numbers") (n2 : NoAttr K C "_pattern") (mL : mg "len" = none) : FnG γ P w K mg base CX0 1 f fd ["self"] (spR K (RSelf C (fun ns a A => .bl (decide (A ≠ []))))) := by
  refine okR Fn scEnd (fun ds d ⟨ns, a, A, e, _⟩ => by rw [e]; rfl) fun cdv A0 outer s H B ow ds d Q E hgd hrm hR kQ => ?_
  obtain ⟨ns, a, A, rfl, hA, hns, rfl⟩ := hR
  refine rn_ret (ve_is (ve_comp (ve_bi (va_cons (ve_sub (ve_pat c n2 (ve_var (i := 0) rfl rfl (by walk_at "vis"))) ve_int (fun _ _ => rfl) (xo_tup (d := .tup (A.map natD)) rfl)) va_nil) rfl mL boot_len fo_lenT) ve_int co_gt) ?_) kQ
  congr 1
  apply decide_eq_decide.mpr
  rw [List.length_map]
  cases A with
  | nil => simp
  | cons x l => simp
theorem ok_many {f C : Addr} {fd : FuncData} (Fn : Fun K "many" "Times.many" sMny f fd) (c : Cls K C) (n1 : NoAttr K C "_numbers") (n2 : NoAttr K C "_pattern") (mL : mg "len" = none) : FnG γ P w K mg base CX0 1 f fd ["self"] (spR K (RSelf C (fun ns a A => if A = [] then natD ns.length else .non))) := by
  refine okR Fn scMny (fun ds d ⟨ns, a, A, e, _⟩ => by rw [e]; rfl) fun cdv A0 outer s H B ow ds d Q E hgd hrm hR kQ => ?_
  obtain ⟨ns, a, A, rfl, hA, hns, rfl⟩ := hR
  refine' rn_if (t := decide (A ≠ [])) ?h ?h1 ?h2
  case h =>
    refine vt_is (vt_comp (ve_bi (va_cons (ve_sub (ve_pat c n2 (ve_var (i := 0) rfl rfl (by walk_at "vis"))) ve_int (fun _ _ => rfl) (xo_tup (d := .tup (A.map natD)) rfl)) va_nil) rfl mL boot_len fo_lenT) ve_int co_gt) ?_
    apply decide_eq_decide.mpr
    rw [List.length_map]
    cases A with
    | nil => simp
    | cons x l => simp
  case h1 =>
    intro t B1 e1
    have kQ2 : Post K ow B (if A = [] then natD ns.length else D.non) Q := kQ
    rw [if_neg (of_decide_eq_true t)] at kQ2
    exact rn_ret ve_non (kQ2.ex e1)
  case h2 =>
    intro t B1 e1
    have z : A = [] := Classical.byContradiction fun q => of_decide_eq_false t q
    have kQ2 : Post K ow B (if A = [] then natD ns.length else D.non) Q := kQ
    rw [if_pos z] at kQ2
    refine rn_go ?_
    exact rn_ret (ve_is (ve_bi (va_cons (ve_num c n1 (ve_var (i := 0) rfl rfl (by walk_at "vis"))) va_nil) rfl mL boot_len fo_lenT) (by rw [List.length_map])) (kQ2.ex e1)
end
end K2
set_option Elab.async false
set_option linter.all false
set_option maxRecDepth 100000
set_option maxHeartbeats 4000000
namespace K2
open PySem L2 Vd
open PySem.Spec PyProof.Rows
/-! the walk over data -/
local macro_rules | `(tactic| walk_at "vis") => `(tactic| first | exact Or.inl rfl | exact Or.inr (Or.inl rfl) | exact Or.inr (Or.inr rfl))
local macro_rules | `(tactic| walk_at "none") => `(tactic| first | assumption)
local macro_rules | `(tactic| walk_at "num") => `(tactic| first | decide | omega)
local macro_rules | `(tactic| walk_at "vr") => `(tactic| first
  | exact bo_add | exact bo_sub | exact bo_mulR (by decide) | exact bo_mulL (by decide) | exact bo_mod (by walk_at "num") | exact bo_div (by walk_at "num") (by walk_at "num") | exact bo_pow (by decide) (by decide) (by decide) | exact bo_cat (by walk_at "num") | exact bo_mulR (by omega) | exact bo_mulL (by omega))
local macro_rules | `(tactic| walk_at "vq") => `(tactic| first
  | exact co_lt | exact co_le | exact co_gt | exact co_ge | exact co_eqI | exact co_neI | exact co_eqS | exact co_neS)
local macro_rules | `(tactic| walk_at "vx") => `(tactic| first
  | exact xo_own (by assumption) rfl | exact xo_lst rfl | exact xo_tup rfl)
local macro_rules | `(tactic| walk_at "vf") => `(tactic| first
  | exact fo_abs | exact fo_lenL | exact fo_lenT | exact fo_lenO (by assumption) | exact fo_divmod (by walk_at "num") (by walk_at "num") | exact fo_max rfl | exact fo_min rfl)
local macro_rules | `(tactic| walk_at "vn") => `(tactic| first
  | exact ve_var (i := 0) rfl rfl (by walk_at "vis") | exact ve_var (i := 1) rfl rfl (by walk_at "vis") | exact ve_var (i := 2) rfl rfl (by walk_at "vis") | exact ve_var (i := 3) rfl rfl (by walk_at "vis") | exact ve_var (i := 4) rfl rfl (by walk_at "vis") | exact ve_var (i := 5) rfl rfl (by walk_at "vis") | exact ve_var (i := 6) rfl rfl (by walk_at "vis") | exact ve_var (i := 7) rfl rfl (by walk_at "vis"))
local macro_rules | `(tactic| walk_at "vd") => `(tactic| first
  | exact ve_int | exact ve_bl | exact ve_non | exact ve_str
  | (refine' ve_bin ?ha ?hb ?hr; (case ha => walk_at "vd"); (case hb => walk_at "vd"); (case hr => walk_at "vr"))
  | (refine' ve_sub ?ha ?hb (fun _ _ => rfl) ?hr; (case ha => walk_at "vd"); (case hb => walk_at "vd"); (case hr => walk_at "vx"))
  | (refine' ve_ty (id := "int") ?ha rfl ?hm boot_int ?hr; (case ha => walk_at "va"); (case hm => walk_at "none"); (case hr => exact to_int))
  | (refine' ve_bi ?ha rfl ?hm ?hv ?hr; (case hv => first | exact boot_abs | exact boot_len | exact boot_divmod | exact boot_max | exact boot_min); (case ha => walk_at "va"); (case hm => walk_at "none"); (case hr => walk_at "vf"))
  | (refine' ve_tup ?ha ?hl; (case ha => walk_at "va"); (case hl => walk_at "num"))
  | (refine' ve_lst ?ha ?hl; (case ha => walk_at "va"); (case hl => walk_at "num"))
  | (refine' ve_comp ?ha ?hb ?hr; (case ha => walk_at "vd"); (case hb => walk_at "vd"); (case hr => walk_at "vq"))
  | walk_at "vn")
local macro_rules | `(tactic| walk_at "va") => `(tactic| first | exact va_nil | (refine' va_cons ?ha ?hb; (case ha => walk_at "vd"); (case hb => walk_at "va")))
local macro_rules | `(tactic| walk_at "vt") => `(tactic| first
  | (refine' vt_comp ?ha ?hb ?hr; (case ha => walk_at "vd"); (case hb => walk_at "vd"); (case hr => walk_at "vq"))
  | (refine' vt_val ?hv; case hv => walk_at "vd"))
/-! ### the least element from a number on -/
/-- whether x is in the set -/
def inT (ns : List Nat) (a : Nat) (A : List Nat) (x : Nat) : Bool := Per.fn a A x != decide (x ∈ ns)
def NextT (ns : List Nat) (a : Nat) (A : List Nat) (low : Nat) : Option Nat → Prop
  | none => ∀ y, low ≤ y → inT ns a A y = false
  | some x => low ≤ x ∧ inT ns a A x = true ∧ ∀ y, low ≤ y → inT ns a A y = true → x ≤ y
theorem NextT.uniq {ns : List Nat} {a : Nat} {A : List Nat} {low : Nat} : ∀ {o p : Option Nat}, NextT ns a A low o → NextT ns a A low p → o = p
  | none, none, _, _ => rfl
  | some x, some y, h, k => by
    have z1 := h.2.2 y k.1 k.2.1
    have z2 := k.2.2 x h.1 h.2.1
    rw [show x = y by omega]
  | none, some y, h, k => by
    have z := h y k.1
    rw [k.2.1] at z
    cases z
  | some y, none, k, h => by
    have z := h y k.1
    rw [k.2.1] at z
    cases z
/-- i is the place of the first of the numbers from cur on -/
structure AtIs (ns : List Nat) (cur i : Nat) : Prop where
  le : i ≤ ns.length
  lo : ∀ j (h : j < ns.length), j < i → ns[j] < cur
  hi : ∀ j (h : j < ns.length), i ≤ j → cur ≤ ns[j]
theorem AtIs.out {ns : List Nat} {cur i : Nat} (h : AtIs ns cur i) (e : ¬ i < ns.length) {y : Nat} (hy : cur ≤ y) : ¬ y ∈ ns := fun m => by
  obtain ⟨j, hj, ej⟩ := List.getElem_of_mem m
  have := h.lo j hj (by omega)
  omega
theorem AtIs.gap {ns : List Nat} {cur i : Nat} (a : Per.Asc ns) (h : AtIs ns cur i) (e : i < ns.length) {y : Nat} (hy : cur ≤ y) (hl : y < ns[i]) : ¬ y ∈ ns := fun m => by
  obtain ⟨j, hj, ej⟩ := List.getElem_of_mem m
  by_cases c : j < i
  · have := h.lo j hj c
    omega
  · by_cases d : j = i
    · subst d
      omega
    · have := List.pairwise_iff_getElem.mp a i j e hj (by omega)
      omega
theorem AtIs.next {ns : List Nat} {cur i : Nat} (a : Per.Asc ns) (h : AtIs ns cur i) (e : i < ns.length) : AtIs ns (ns[i] + 1) (i + 1) :=
  ⟨e, fun j hj q => by
    by_cases d : j = i
    · subst d
      omega
    · have := List.pairwise_iff_getElem.mp a j i hj e (by omega)
      omega, fun j hj q => by
    have := List.pairwise_iff_getElem.mp a i j e hj (by omega)
    omega⟩
theorem at_cnt {ns : List Nat} (a : Per.Asc ns) (cur : Nat) : AtIs ns cur (cnt (ns.map toI) (cur : Int)) := by
  have len : (ns.map toI).length = ns.length := List.length_map ..
  have le := cnt_le (ns.map toI) (cur : Int)
  rw [len] at le
  refine ⟨le, fun j hj q => ?_, fun j hj q => ?_⟩
  · have z := cnt_lt (ns.map toI) (cur : Int) j (by rw [len]; exact hj) q
    rw [List.getElem_map] at z
    have y : ((ns[j] : Nat) : Int) < (cur : Int) := z
    omega
  · have lt : cnt (ns.map toI) (cur : Int) < (ns.map toI).length := by rw [len]; omega
    have z := cnt_at (ns.map toI) (cur : Int) lt
    rw [List.getElem_map] at z
    have y : ¬ ((ns[cnt (ns.map toI) (cur : Int)]'(by omega) : Nat) : Int) < (cur : Int) := z
    by_cases d : j = cnt (ns.map toI) (cur : Int)
    · subst d
      omega
    · have := List.pairwise_iff_getElem.mp a (cnt (ns.map toI) (cur : Int)) j (by omega) hj (by omega)
      omega
theorem nextis_ex (a : Nat) (A : List Nat) (p : Per.Pat a A) (low : Nat) : ∃ o, NextIs a A low o := by
  by_cases e : A = []
  · exact ⟨none, e⟩
  · have h0 : 0 < A.length := List.length_pos_iff.mpr e
    have cle : cnt (A.map toI) ((low % a : Nat) : Int) ≤ A.length := by
      have := cnt_le (A.map toI) ((low % a : Nat) : Int)
      rwa [List.length_map] at this
    by_cases lt : cnt (A.map toI) ((low % a : Nat) : Int) < A.length
    · exact ⟨_, next_here p _ rfl lt⟩
    · exact ⟨_, next_round p _ rfl (by omega) h0⟩
theorem NextIs.gap {n low : Nat} {M : List Nat} {o : Option Nat} (h : NextIs n M low o) {y : Nat} (hy : low ≤ y) (hl : ∀ x, o = some x → y < x) : Per.fn n M y = false := by
  cases q : Per.fn n M y with
  | false => rfl
  | true =>
    cases o with
    | none =>
      rw [show M = [] from h] at q
      simp [Per.fn] at q
    | some x =>
      have := h.2.2 y hy q
      have := hl x rfl
      omega
theorem co_isN {X : Cx} {ow : Ow} {b : Expr} {d : D} {t : Bool} (h : ∀ {K : PySem.W.Frag} {F : Hp} {x : V}, Rp K F x d → decide (x = .non) = t) : CmpOk X ow .Is b d .non (.bl t) := ⟨_, op_isN, nomark _, .mk fun F H x y Q w r1 r2 k => by
  cases r2
  have z := h r1
  exact ⟨rfl, by rw [z]; exact k.here w (.bl _)⟩⟩
abbrev sLst : Stmt := s_Times__least_from
theorem scLst : FnScope ["self", "low", "period", "marks", "numbers", "at", "marked"] ["self", "low"] (defScope sLst) := ⟨rfl, rfl, rfl, by decide +kernel, rfl, by decide +kernel, by decide +kernel⟩
def RLst (C : Addr) (ds : List D) (d : D) : Prop := ∃ (ns : List Nat) (a : Nat) (A : List Nat) (low : Nat) (o : Option Nat), ds = [.ins C (tmD ns a A), natD low] ∧ Per.Asc ns ∧ Per.Pat a A ∧ a < 1073741824 ∧ NextT ns a A low o ∧ d = optD o
theorem eqOk_nat (n : Nat) : (natD n).eqOk = true := rfl
theorem eqOk_opt : ∀ o : Option Nat, (optD o).eqOk = true
  | none => rfl
  | some _ => rfl
theorem eqv_opt (n : Nat) : ∀ o : Option Nat, PyData.eqv (natD n).py (optD o).py = decide (o = some n)
  | none => rfl
  | some m => by
    show ((n : Int) == (m : Int)) = decide (some m = some n)
    by_cases h : n = m
    · subst h
      simp
    · have h1 : ¬ (n : Int) = (m : Int) := by omega
      have h2 : ¬ m = n := fun z => h z.symm
      simp [h1, h2]
section
variable {P : Program} {w : World} {K : PySem.W.Frag} {mg : Str → Option Value} {base : Heap}
theorem ok_least {f f1 f2 C : Addr} {fd fd1 fd2 : FuncData} (Fn : Fun K "_least_from" "Times._least_from" sLst f fd) (c : Cls K C) (n1 : NoAttr K C "_numbers") (n2 : NoAttr K C "_pattern") (F1 : FnG γ P w K mg base CX0 1 f1 fd1 ["row", "value"] (spR K RPla)) (m1 : mg "place" = some (.ref f1)) (k1 : PySem.W.keepIn K (.ref f1) = true) (b1 : Binds K fd1 ["row", "value"] [])
    (F2 : FnG γ P w K mg base CX0 2 f2 fd2 ["period", "marks", "low"] (spR K RMar)) (m2 : mg "marked_from" = some (.ref f2)) (k2 : PySem.W.keepIn K (.ref f2) = true) (b2 : Binds K fd2 ["period", "marks", "low"] []) (mL : mg "len" = none) : FnG γ P w K mg base CX0 3 f fd ["self", "low"] (spR K (RLst C)) := by
  refine okR Fn scLst (fun ds d ⟨ns, a, A, low, o, e, _⟩ => by rw [e]; rfl) fun cdv A0 outer s H B ow ds d Q E hgd hrm hR kQ => ?_
  obtain ⟨ns, a, A, low, o, rfl, asc, pat, ha, hO, rfl⟩ := hR
  have hr1 : Room 1 (A0.deeper (envOfC "Times._least_from" (defScope sLst) s.heap.objs.size f cdv)) := hrm.mono (by decide)
  have hu64 : A0.units + 3 + 64 < cLine := by
    have z := hrm.un
    have z2 : A0.units + 3 + 16 * 2 + 200 < cLine := z
    omega
  have hlen : (((ns.map natD).length : Nat) : Int) = ((ns.length : Nat) : Int) := by rw [List.length_map]
  refine' rn_asg (g := gTup K 2 (gCons (gName 2) (gCons (gName 3) gNil))) (f := fun env => (env.set 2 (some (natD a))).set 3 (some (.tup (A.map natD)))) (d := .tup [natD a, .tup (A.map natD)]) (pg_tup rfl (pgs_cons (pg_name scLst.nd rfl (.inl rfl)) (pgs_cons (pg_name scLst.nd rfl (.inl rfl)) pgs_nil))) (ve_pat c n2 (ve_var (i := 0) rfl rfl (by walk_at "vis"))) (gd_two 2 3) ?k
  case k =>
  intro B1 e1
  refine' rn_set (i := 4) (d := .tup (ns.map natD)) scLst.nd rfl (by first | exact .inl rfl | exact .inr rfl) (ve_num c n1 (ve_var (i := 0) rfl rfl (by walk_at "vis"))) ?k
  case k =>
  intro B2 e2
  refine' rn_set (i := 5) (d := natD (cnt (ns.map toI) (low : Int))) scLst.nd rfl (by first | exact .inl rfl | exact .inr rfl) ?h ?k
  case h => exact ve_R F1 hgd hr1 rfl m1 k1 b1 (va_cons (ve_var (d := .tup (ns.map natD)) (i := 4) rfl rfl (by walk_at "vis")) (va_cons (ve_var (d := natD low) (i := 1) rfl rfl (by walk_at "vis")) va_nil)) ⟨ns.map toI, (low : Int), by rw [natD_ints], asc_toI asc, rfl⟩
  case k =>
  intro B3 e3
  obtain ⟨m0, hm0⟩ := nextis_ex a A pat low
  refine' rn_set (i := 6) (d := optD m0) scLst.nd rfl (by first | exact .inl rfl | exact .inr rfl) ?h ?k
  case h => exact ve_R F2 hgd hrm rfl m2 k2 b2 (va_cons (ve_var (d := natD a) (i := 2) rfl rfl (by walk_at "vis")) (va_cons (ve_var (d := .tup (A.map natD)) (i := 3) rfl rfl (by walk_at "vis")) (va_cons (ve_var (d := natD low) (i := 1) rfl rfl (by walk_at "vis")) va_nil))) ⟨a, low, A, m0, rfl, pat, ha, hm0, rfl⟩
  case k =>
  intro B4 e4
  refine' rn_while (fun m env ow' => ow = ow' ∧ ∃ (i cur : Nat) (mk : Option Nat), env = [some (.ins C (tmD ns a A)), some (natD low), some (natD a), some (.tup (A.map natD)), some (.tup (ns.map natD)), some (natD i), some (optD mk)] ∧ m = ns.length - i ∧ AtIs ns cur i ∧ NextIs a A cur mk ∧ low ≤ cur ∧ ∀ y, low ≤ y → y < cur → inT ns a A y = false) PassesOwn.never
    ⟨_, rfl, cnt (ns.map toI) (low : Int), low, m0, rfl, rfl, at_cnt asc low, hm0, Nat.le_refl _, fun y h1 h2 => by omega⟩ ?hs
  case hs =>
    rintro B5 m env' ow' e5 ⟨rfl, i, cur, mk, rfl, rfl, hAt, hMk, hcur, hno⟩
    refine ⟨decide ((i : Int) < (ns.length : Int)) && decide (∃ h : i < ns.length, mk = some ns[i]), ?_, fun t B6 e6 => ?_, fun t B6 e6 => ?_⟩
    · refine vt_w (vw_and (vt_comp (ve_var (d := natD i) (i := 5) rfl rfl (by walk_at "vis")) (ve_is (ve_bi (va_cons (ve_var (d := .tup (ns.map natD)) (i := 4) rfl rfl (by walk_at "vis")) va_nil) rfl mL boot_len fo_lenT) (by rw [hlen])) co_lt) (fun t => vw_and1 ?_) (pw_all_and _ _))
      have lt : i < ns.length := by
        have := of_decide_eq_true t
        omega
      refine vt_is (vt_comp (ve_sub (ve_var (d := .tup (ns.map natD)) (i := 4) rfl rfl (by walk_at "vis")) (ve_var (d := natD i) (i := 5) rfl rfl (by walk_at "vis")) (fun _ _ => rfl) (xo_tup (atD lt))) (ve_var (d := optD mk) (i := 6) rfl rfl (by walk_at "vis")) (co_eqD hu64 (eqOk_nat _) (eqOk_opt _))) ?_
      rw [eqv_opt]
      apply decide_eq_decide.mpr
      exact ⟨fun z => ⟨lt, z⟩, fun ⟨_, z⟩ => z⟩
    · rw [Bool.and_eq_true] at t
      obtain ⟨lt, em⟩ := of_decide_eq_true t.2
      subst em
      obtain ⟨m2', hm2⟩ := nextis_ex a A pat (ns[i] + 1)
      refine' rn_set (i := 6) (d := optD m2') scLst.nd rfl (by first | exact .inl rfl | exact .inr rfl) ?h ?k
      case h => exact ve_R F2 hgd hrm rfl m2 k2 b2 (va_cons (ve_var (d := natD a) (i := 2) rfl rfl (by walk_at "vis")) (va_cons (ve_var (d := .tup (A.map natD)) (i := 3) rfl rfl (by walk_at "vis")) (va_cons (ve_is (ve_bin (ve_var (d := natD ns[i]) (i := 6) rfl rfl (by walk_at "vis")) ve_int bo_add) (by rfl : _ = natD (ns[i] + 1))) va_nil))) ⟨a, ns[i] + 1, A, m2', rfl, pat, ha, hm2, rfl⟩
      case k =>
      intro B7 e7
      refine' rn_addTo (j := 5) (n := (i : Int)) scLst.nd rfl (by first | exact .inl rfl | exact .inr rfl) rfl ve_int ?k
      case k =>
      intro B8 e8
      refine rn_nextW ?_ (e6.trans (e7.trans e8))
      have hmk := hMk
      refine ⟨_, ?_, rfl, i + 1, ns[i] + 1, m2', rfl, rfl, hAt.next asc lt, hm2, ?_, fun y h1 h2 => ?_⟩
      · omega
      · have := hAt.hi i lt (Nat.le_refl _)
        omega
      · by_cases c1 : y < cur
        · exact hno y h1 c1
        · unfold inT
          by_cases c2 : y = ns[i]
          · have f1 : Per.fn a A y = true := by rw [c2]; exact hmk.2.1
            have f2 : y ∈ ns := by rw [c2]; exact List.getElem_mem lt
            rw [f1, decide_eq_true f2]
            rfl
          · have f1 : Per.fn a A y = false := hMk.gap (by omega) fun x hx => by
              have : ns[i] = x := Option.some.inj hx
              omega
            have f2 : ¬ y ∈ ns := hAt.gap asc lt (by omega) (by omega)
            rw [f1, decide_eq_false f2]
            rfl
    · have ne : ∀ h : i < ns.length, mk ≠ some ns[i] := fun h z => by
        rw [decide_eq_true (by omega), decide_eq_true ⟨h, z⟩] at t
        cases t
      refine' rn_if (t := decide ((i : Int) < (ns.length : Int)) && decide (∃ h : i < ns.length, ∀ x, mk = some x → ns[i] < x)) ?h ?h1 ?h2
      case h =>
        refine vt_w (vw_and (vt_comp (ve_var (d := natD i) (i := 5) rfl rfl (by walk_at "vis")) (ve_is (ve_bi (va_cons (ve_var (d := .tup (ns.map natD)) (i := 4) rfl rfl (by walk_at "vis")) va_nil) rfl mL boot_len fo_lenT) (by rw [hlen])) co_lt) (fun t => vw_and1 ?_) (pw_all_and _ _))
        have lt : i < ns.length := by
          have := of_decide_eq_true t
          omega
        cases mk with
        | none =>
          refine vt_is (vt_w (vw_or (t := true) (u := false) (vt_comp (ve_var (d := D.non) (i := 6) rfl rfl (by walk_at "vis")) ve_non (co_isN (t := true) fun r => by cases r; rfl)) (fun z => nomatch z) (pw_all_or _ _))) ?_
          exact (decide_eq_true (show ∃ h : i < ns.length, ∀ x, (none : Option Nat) = some x → ns[i] < x from ⟨lt, fun x hx => nomatch hx⟩)).symm
        | some x =>
          refine vt_is (vt_w (vw_or (t := false) (u := decide ((ns[i] : Int) < (x : Int))) (vt_comp (ve_var (d := natD x) (i := 6) rfl rfl (by walk_at "vis")) ve_non (co_isN (t := false) fun r => by cases r; rfl)) (fun _ => vw_or1 ?_) (pw_all_or _ _))) ?_
          · exact vt_comp (ve_sub (ve_var (d := .tup (ns.map natD)) (i := 4) rfl rfl (by walk_at "vis")) (ve_var (d := natD i) (i := 5) rfl rfl (by walk_at "vis")) (fun _ _ => rfl) (xo_tup (atD lt))) (ve_var (d := natD x) (i := 6) rfl rfl (by walk_at "vis")) co_lt
          · rw [Bool.false_or]
            apply decide_eq_decide.mpr
            constructor
            · intro h
              exact ⟨lt, fun y hy => by have : x = y := Option.some.inj hy; omega⟩
            · rintro ⟨_, h⟩
              have := h x rfl
              omega
      case h1 =>
        intro t2 B7 e7
        rw [Bool.and_eq_true] at t2
        obtain ⟨lt, less⟩ := of_decide_eq_true t2.2
        have eo : o = some ns[i] := NextT.uniq hO (by
          have ge := hAt.hi i lt (Nat.le_refl _)
          refine ⟨by omega, ?_, fun y h1 h2 => ?_⟩
          · unfold inT
            rw [hMk.gap ge (fun x hx => less x hx), decide_eq_true (List.getElem_mem lt)]
            rfl
          · apply Classical.byContradiction
            intro q
            by_cases c1 : y < cur
            · rw [hno y h1 c1] at h2
              cases h2
            · unfold inT at h2
              rw [hMk.gap (by omega) (fun x hx => by have := less x hx; omega), decide_eq_false (hAt.gap asc lt (by omega) (by omega))] at h2
              cases h2)
        subst eo
        exact rn_ret (ve_sub (ve_var (d := .tup (ns.map natD)) (i := 4) rfl rfl (by walk_at "vis")) (ve_var (d := natD i) (i := 5) rfl rfl (by walk_at "vis")) (fun _ _ => rfl) (xo_tup (atD lt))) (kQ.ex (e1.trans (e2.trans (e3.trans (e4.trans (e5.trans (e6.trans e7)))))))
      case h2 =>
        intro t2 B7 e7
        have no : ∀ h : i < ns.length, ∃ x, mk = some x ∧ x < ns[i] := fun h => by
          apply Classical.byContradiction
          intro q
          rw [decide_eq_true (by omega), Bool.true_and] at t2
          refine of_decide_eq_false t2 ⟨h, fun x hx => ?_⟩
          apply Classical.byContradiction
          intro q2
          have q3 : x ≠ ns[i] := fun z => ne h (by rw [hx, z])
          exact q ⟨x, hx, by omega⟩
        have eo : o = mk := NextT.uniq hO (by
          cases mk with
          | none =>
            intro y h1
            have out : ¬ i < ns.length := fun h => by
              obtain ⟨x, hx, _⟩ := no h
              cases hx
            by_cases c1 : y < cur
            · exact hno y h1 c1
            · unfold inT
              rw [hMk.gap (by omega) (fun x hx => nomatch hx), decide_eq_false (hAt.out out (by omega))]
              rfl
          | some x =>
            have notin : ∀ y, cur ≤ y → y ≤ x → ¬ y ∈ ns := fun y h1 h2 => by
              by_cases lt : i < ns.length
              · obtain ⟨x2, hx2, l2⟩ := no lt
                have : x = x2 := Option.some.inj hx2
                exact hAt.gap asc lt h1 (by omega)
              · exact hAt.out lt h1
            refine ⟨Nat.le_trans hcur hMk.1, ?_, fun y h1 h2 => ?_⟩
            · unfold inT
              rw [hMk.2.1, decide_eq_false (notin x hMk.1 (Nat.le_refl _))]
              rfl
            · apply Classical.byContradiction
              intro q
              by_cases c1 : y < cur
              · rw [hno y h1 c1] at h2
                cases h2
              · unfold inT at h2
                rw [hMk.gap (by omega) (fun x2 hx => by have : x = x2 := Option.some.inj hx; omega), decide_eq_false (notin y (by omega) (by omega))] at h2
                cases h2)
        subst eo
        refine rn_go ?_
        exact rn_ret (ve_var (d := optD o) (i := 6) rfl rfl (by walk_at "vis")) (kQ.ex (e1.trans (e2.trans (e3.trans (e4.trans (e5.trans (e6.trans e7)))))))
end
end K2
set_option Elab.async false
set_option linter.all false
set_option maxRecDepth 100000
set_option maxHeartbeats 4000000
namespace K2
open PySem L2 Vd
open PySem.Spec PyProof.Rows
/-! the walk over data -/
local macro_rules | `(tactic| walk_at "vis") => `(tactic| first | exact Or.inl rfl | exact Or.inr (Or.inl rfl) | exact Or.inr (Or.inr rfl))
local macro_rules | `(tactic| walk_at "none") => `(tactic| first | assumption)
local macro_rules | `(tactic| walk_at "num") => `(tactic| first | decide | omega)
local macro_rules | `(tactic| walk_at "vr") => `(tactic| first
  | exact bo_add | exact bo_sub | exact bo_mulR (by decide) | exact bo_mulL (by decide) | exact bo_mod (by walk_at "num") | exact bo_div (by walk_at "num") (by walk_at "num") | exact bo_pow (by decide) (by decide) (by decide) | exact bo_cat (by walk_at "num") | exact bo_mulR (by omega) | exact bo_mulL (by omega))
local macro_rules | `(tactic| walk_at "vq") => `(tactic| first
  | exact co_lt | exact co_le | exact co_gt | exact co_ge | exact co_eqI | exact co_neI | exact co_eqS | exact co_neS)
local macro_rules | `(tactic| walk_at "vx") => `(tactic| first
  | exact xo_own (by assumption) rfl | exact xo_lst rfl | exact xo_tup rfl)
local macro_rules | `(tactic| walk_at "vf") => `(tactic| first
  | exact fo_abs | exact fo_lenL | exact fo_lenT | exact fo_lenO (by assumption) | exact fo_divmod (by walk_at "num") (by walk_at "num") | exact fo_max rfl | exact fo_min rfl)
local macro_rules | `(tactic| walk_at "vn") => `(tactic| first
  | exact ve_var (i := 0) rfl rfl (by walk_at "vis") | exact ve_var (i := 1) rfl rfl (by walk_at "vis") | exact ve_var (i := 2) rfl rfl (by walk_at "vis") | exact ve_var (i := 3) rfl rfl (by walk_at "vis") | exact ve_var (i := 4) rfl rfl (by walk_at "vis") | exact ve_var (i := 5) rfl rfl (by walk_at "vis") | exact ve_var (i := 6) rfl rfl (by walk_at "vis") | exact ve_var (i := 7) rfl rfl (by walk_at "vis"))
local macro_rules | `(tactic| walk_at "vd") => `(tactic| first
  | exact ve_int | exact ve_bl | exact ve_non | exact ve_str
  | (refine' ve_bin ?ha ?hb ?hr; (case ha => walk_at "vd"); (case hb => walk_at "vd"); (case hr => walk_at "vr"))
  | (refine' ve_sub ?ha ?hb (fun _ _ => rfl) ?hr; (case ha => walk_at "vd"); (case hb => walk_at "vd"); (case hr => walk_at "vx"))
  | (refine' ve_ty (id := "int") ?ha rfl ?hm boot_int ?hr; (case ha => walk_at "va"); (case hm => walk_at "none"); (case hr => exact to_int))
  | (refine' ve_bi ?ha rfl ?hm ?hv ?hr; (case hv => first | exact boot_abs | exact boot_len | exact boot_divmod | exact boot_max | exact boot_min); (case ha => walk_at "va"); (case hm => walk_at "none"); (case hr => walk_at "vf"))
  | (refine' ve_tup ?ha ?hl; (case ha => walk_at "va"); (case hl => walk_at "num"))
  | (refine' ve_lst ?ha ?hl; (case ha => walk_at "va"); (case hl => walk_at "num"))
  | (refine' ve_comp ?ha ?hb ?hr; (case ha => walk_at "vd"); (case hb => walk_at "vd"); (case hr => walk_at "vq"))
  | walk_at "vn")
local macro_rules | `(tactic| walk_at "va") => `(tactic| first | exact va_nil | (refine' va_cons ?ha ?hb; (case ha => walk_at "vd"); (case hb => walk_at "va")))
local macro_rules | `(tactic| walk_at "vt") => `(tactic| first
  | (refine' vt_comp ?ha ?hb ?hr; (case ha => walk_at "vd"); (case hb => walk_at "vd"); (case hr => walk_at "vq"))
  | (refine' vt_val ?hv; case hv => walk_at "vd"))
/-! ### first, in -/
abbrev sFst : Stmt := s_Times_first
theorem scFst : FnScope ["self"] ["self"] (defScope sFst) := ⟨rfl, rfl, rfl, by decide +kernel, rfl, by decide +kernel, by decide +kernel⟩
def RFst (C : Addr) (ds : List D) (d : D) : Prop := ∃ (ns : List Nat) (a : Nat) (A : List Nat) (o : Option Nat), ds = [.ins C (tmD ns a A)] ∧ Per.Asc ns ∧ Per.Pat a A ∧ a < 1073741824 ∧ NextT ns a A 0 o ∧ d = optD o
abbrev sCon : Stmt := s_Times___contains__
theorem scCon : FnScope ["self", "number", "period", "marks"] ["self", "number"] (defScope sCon) := ⟨rfl, rfl, rfl, by decide +kernel, rfl, by decide +kernel, by decide +kernel⟩
/-- whether a datum is in the set -/
def memT (ns : List Nat) (a : Nat) (A : List Nat) : D → Bool
  | .int i => decide (0 ≤ i) && inT ns a A i.toNat
  | _ => false
def RCon (C : Addr) (ds : List D) (d : D) : Prop := ∃ (ns : List Nat) (a : Nat) (A : List Nat) (v : D), ds = [.ins C (tmD ns a A), v] ∧ v.kind.isSome = true ∧ Per.Asc ns ∧ Per.Pat a A ∧ d = .bl (memT ns a A v)
theorem mem_toI {x : Nat} {l : List Nat} : ((x : Int) ∈ l.map toI) ↔ x ∈ l := by
  rw [List.mem_map]
  constructor
  · rintro ⟨y, hy, e⟩
    have e2 : (y : Int) = (x : Int) := e
    have : y = x := by omega
    exact this ▸ hy
  · intro h
    exact ⟨x, h, rfl⟩
section
variable {P : Program} {w : World} {K : PySem.W.Frag} {mg : Str → Option Value} {base : Heap}
theorem ok_first {f g C : Addr} {fd fd1 : FuncData} (Fn : Fun K "first" "Times.first" sFst f fd) (c : Cls K C) (hm : Meth K C "_least_from" g) (F1 : FnG γ P w K mg base CX0 3 g fd1 ["self", "low"] (spR K (RLst C))) (b1 : Binds K fd1 ["self", "low"] []) : FnG γ P w K mg base CX0 4 f fd ["self"] (spR K (RFst C)) := by
  refine okR Fn scFst (fun ds d ⟨ns, a, A, o, e, _⟩ => by rw [e]; rfl) fun cdv A0 outer s H B ow ds d Q E hgd hrm hR kQ => ?_
  obtain ⟨ns, a, A, o, rfl, asc, pat, ha, hO, rfl⟩ := hR
  exact rn_ret (ve_meth c hm F1 hgd hrm b1 (ve_var (d := .ins C (tmD ns a A)) (i := 0) rfl rfl (by walk_at "vis")) rfl (va_cons (ve_is ve_int (by rfl : D.int 0 = natD 0)) va_nil) ⟨ns, a, A, 0, o, rfl, asc, pat, ha, hO, rfl⟩) kQ
theorem ok_contains {f f1 f2 C : Addr} {fd fd1 fd2 : FuncData} (Fn : Fun K "__contains__" "Times.__contains__" sCon f fd) (c : Cls K C) (n1 : NoAttr K C "_numbers") (n2 : NoAttr K C "_pattern") (F1 : FnG γ P w K mg base CX0 1 f1 fd1 ["value"] (spR K RIsI)) (m1 : mg "is_integer" = some (.ref f1)) (k1 : PySem.W.keepIn K (.ref f1) = true) (b1 : Binds K fd1 ["value"] [])
    (F2 : FnG γ P w K mg base CX0 2 f2 fd2 ["row", "value"] (spR K RHol)) (m2 : mg "holds" = some (.ref f2)) (k2 : PySem.W.keepIn K (.ref f2) = true) (b2 : Binds K fd2 ["row", "value"] []) : FnG γ P w K mg base CX0 3 f fd ["self", "number"] (spR K (RCon C)) := by
  refine okR Fn scCon (fun ds d ⟨ns, a, A, v, e, _⟩ => by rw [e]; rfl) fun cdv A0 outer s H B ow ds d Q E hgd hrm hR kQ => ?_
  obtain ⟨ns, a, A, v, rfl, hk, asc, pat, rfl⟩ := hR
  have hr1 : Room 1 (A0.deeper (envOfC "Times.__contains__" (defScope sCon) s.heap.objs.size f cdv)) := hrm.mono (by decide)
  have hu64 : A0.units + 3 + 64 < cLine := by
    have z := hrm.un
    have z2 : A0.units + 3 + 16 * 2 + 200 < cLine := z
    omega
  by_cases hi : ∃ i, v = .int i
  · obtain ⟨i, rfl⟩ := hi
    refine' rn_if (t := !true || decide (i < 0)) ?h ?h1 ?h2
    case h =>
      refine vt_w (vw_or (vt_not (vt_val (ve_R F1 hgd hr1 rfl m1 k1 b1 (va_cons (ve_var (d := .int i) (i := 1) rfl rfl (by walk_at "vis")) va_nil) ⟨.int i, rfl, rfl, rfl⟩))) (fun _ => vw_or1 ?_) (pw_all_or _ _))
      exact vt_comp (ve_var (d := .int i) (i := 1) rfl rfl (by walk_at "vis")) ve_int co_lt
    case h1 =>
      intro t B1 e1
      have neg : i < 0 := of_decide_eq_true t
      have z : memT ns a A (.int i) = false := by
        show (decide (0 ≤ i) && inT ns a A i.toNat) = false
        rw [decide_eq_false (by omega), Bool.false_and]
      rw [z] at kQ
      exact rn_ret ve_bl (kQ.ex e1)
    case h2 =>
      intro t B1 e1
      have pos : ¬ i < 0 := of_decide_eq_false t
      obtain ⟨n, rfl⟩ : ∃ n : Nat, i = (n : Int) := ⟨i.toNat, by omega⟩
      have apos := pat.pos
      refine rn_go ?_
      refine' rn_asg (g := gTup K 2 (gCons (gName 2) (gCons (gName 3) gNil))) (f := fun env => (env.set 2 (some (natD a))).set 3 (some (.tup (A.map natD)))) (d := .tup [natD a, .tup (A.map natD)]) (pg_tup rfl (pgs_cons (pg_name scCon.nd rfl (.inl rfl)) (pgs_cons (pg_name scCon.nd rfl (.inl rfl)) pgs_nil))) (ve_pat c n2 (ve_var (i := 0) rfl rfl (by walk_at "vis"))) (gd_two 2 3) ?k
      case k =>
      intro B2 e2
      have z : memT ns a A (.int (n : Int)) = !(decide (((n % a : Nat) : Int) ∈ A.map toI) == decide ((n : Int) ∈ ns.map toI)) := by
        show (decide ((0 : Int) ≤ (n : Int)) && (decide (n % a ∈ A) != decide (n ∈ ns))) = _
        rw [decide_eq_true (show (0 : Int) ≤ (n : Int) by omega), Bool.true_and]
        have e1 : decide (((n % a : Nat) : Int) ∈ A.map toI) = decide (n % a ∈ A) := decide_eq_decide.mpr mem_toI
        have e2 : decide ((n : Int) ∈ ns.map toI) = decide (n ∈ ns) := decide_eq_decide.mpr mem_toI
        rw [e1, e2]
        rfl
      rw [z] at kQ
      refine rn_ret (ve_comp (d1 := .bl (decide (((n % a : Nat) : Int) ∈ A.map toI))) (d2 := .bl (decide ((n : Int) ∈ ns.map toI))) ?_ ?_ (co_neD hu64 rfl rfl)) (kQ.ex (e1.trans e2))
      · exact ve_R F2 hgd hrm rfl m2 k2 b2 (va_cons (ve_var (d := .tup (A.map natD)) (i := 3) rfl rfl (by walk_at "vis")) (va_cons (ve_is (ve_bin (ve_var (d := .int (n : Int)) (i := 1) rfl rfl (by walk_at "vis")) (ve_var (d := natD a) (i := 2) rfl rfl (by walk_at "vis")) (bo_mod (by omega))) (by rfl : _ = D.int ((n % a : Nat) : Int))) va_nil)) ⟨A.map toI, _, by rw [natD_ints], asc_toI pat.asc, rfl⟩
      · exact ve_R F2 hgd hrm rfl m2 k2 b2 (va_cons (ve_num c n1 (ve_var (i := 0) rfl rfl (by walk_at "vis"))) (va_cons (ve_var (d := .int (n : Int)) (i := 1) rfl rfl (by walk_at "vis")) va_nil)) ⟨ns.map toI, _, by rw [natD_ints], asc_toI asc, rfl⟩
  · have no : v.isInt = false := by
      cases v <;> first | rfl | exact absurd ⟨_, rfl⟩ hi
    have z : memT ns a A v = false := by
      cases v <;> first | rfl | exact absurd ⟨_, rfl⟩ hi
    rw [z] at kQ
    refine' rn_if (t := !v.isInt || false) ?h ?h1 ?h2
    case h =>
      refine vt_w (vw_or (vt_not (vt_val (ve_R F1 hgd hr1 rfl m1 k1 b1 (va_cons (ve_var (d := v) (i := 1) rfl rfl (by walk_at "vis")) va_nil) ⟨v, rfl, hk, rfl⟩))) (fun t => ?_) (pw_all_or _ _))
      rw [no] at t
      cases t
    case h1 =>
      intro t B1 e1
      exact rn_ret ve_bl (kQ.ex e1)
    case h2 =>
      intro t
      rw [no] at t
      cases t
end
end K2
set_option Elab.async false
set_option linter.all false
set_option maxRecDepth 100000
set_option maxHeartbeats 4000000
namespace K2
open PySem L2 Vd
open PySem.Spec PyProof.Rows
/-! the walk over data -/
local macro_rules | `(tactic| walk_at "vis") => `(tactic| first | exact Or.inl rfl | exact Or.inr (Or.inl rfl) | exact Or.inr (Or.inr rfl))
local macro_rules | `(tactic| walk_at "none") => `(tactic| first | assumption)
local macro_rules | `(tactic| walk_at "num") => `(tactic| first | decide | omega)
local macro_rules | `(tactic| walk_at "vr") => `(tactic| first
  | exact bo_add | exact bo_sub | exact bo_mulR (by decide) | exact bo_mulL (by decide) | exact bo_mod (by walk_at "num") | exact bo_div (by walk_at "num") (by walk_at "num") | exact bo_pow (by decide) (by decide) (by decide) | exact bo_cat (by walk_at "num") | exact bo_mulR (by omega) | exact bo_mulL (by omega))
local macro_rules | `(tactic| walk_at "vq") => `(tactic| first
  | exact co_lt | exact co_le | exact co_gt | exact co_ge | exact co_eqI | exact co_neI | exact co_eqS | exact co_neS)
local macro_rules | `(tactic| walk_at "vx") => `(tactic| first
  | exact xo_own (by assumption) rfl | exact xo_lst rfl | exact xo_tup rfl)
local macro_rules | `(tactic| walk_at "vf") => `(tactic| first
  | exact fo_abs | exact fo_lenL | exact fo_lenT | exact fo_lenO (by assumption) | exact fo_divmod (by walk_at "num") (by walk_at "num") | exact fo_max rfl | exact fo_min rfl)
local macro_rules | `(tactic| walk_at "vn") => `(tactic| first
  | exact ve_var (i := 0) rfl rfl (by walk_at "vis") | exact ve_var (i := 1) rfl rfl (by walk_at "vis") | exact ve_var (i := 2) rfl rfl (by walk_at "vis") | exact ve_var (i := 3) rfl rfl (by walk_at "vis") | exact ve_var (i := 4) rfl rfl (by walk_at "vis") | exact ve_var (i := 5) rfl rfl (by walk_at "vis") | exact ve_var (i := 6) rfl rfl (by walk_at "vis") | exact ve_var (i := 7) rfl rfl (by walk_at "vis"))
local macro_rules | `(tactic| walk_at "vd") => `(tactic| first
  | exact ve_int | exact ve_bl | exact ve_non | exact ve_str
  | (refine' ve_bin ?ha ?hb ?hr; (case ha => walk_at "vd"); (case hb => walk_at "vd"); (case hr => walk_at "vr"))
  | (refine' ve_sub ?ha ?hb (fun _ _ => rfl) ?hr; (case ha => walk_at "vd"); (case hb => walk_at "vd"); (case hr => walk_at "vx"))
  | (refine' ve_ty (id := "int") ?ha rfl ?hm boot_int ?hr; (case ha => walk_at "va"); (case hm => walk_at "none"); (case hr => exact to_int))
  | (refine' ve_bi ?ha rfl ?hm ?hv ?hr; (case hv => first | exact boot_abs | exact boot_len | exact boot_divmod | exact boot_max | exact boot_min); (case ha => walk_at "va"); (case hm => walk_at "none"); (case hr => walk_at "vf"))
  | (refine' ve_tup ?ha ?hl; (case ha => walk_at "va"); (case hl => walk_at "num"))
  | (refine' ve_lst ?ha ?hl; (case ha => walk_at "va"); (case hl => walk_at "num"))
  | (refine' ve_comp ?ha ?hb ?hr; (case ha => walk_at "vd"); (case hb => walk_at "vd"); (case hr => walk_at "vq"))
  | walk_at "vn")
local macro_rules | `(tactic| walk_at "va") => `(tactic| first | exact va_nil | (refine' va_cons ?ha ?hb; (case ha => walk_at "vd"); (case hb => walk_at "va")))
local macro_rules | `(tactic| walk_at "vt") => `(tactic| first
  | (refine' vt_comp ?ha ?hb ?hr; (case ha => walk_at "vd"); (case hb => walk_at "vd"); (case hr => walk_at "vq"))
  | (refine' vt_val ?hv; case hv => walk_at "vd"))
abbrev sSip : Stmt := s__law_sip
theorem scSip : FnScope ["cup", "many", "part"] ["cup", "many"] (defScope sSip) := ⟨rfl, rfl, rfl, by decide +kernel, rfl, by decide +kernel, by decide +kernel⟩
section
variable {P : Program} {w : World} {K : PySem.W.Frag} {mg : Str → Option Value} {base : Heap}
def GSip (ds : List D) : Prop := ∃ m : Int, ds = [.int m] ∧ 0 < m ∧ m < 1073741824
def RSip (ds : List D) (d : D) : Prop := ∃ m r : Int, ds = [.int m] ∧ d = .int r ∧ 0 ≤ r ∧ r < m
theorem ok_sip {f : Addr} {fd : FuncData} (Fn : Fun K "_law_sip" "_law_sip" sSip f fd) (mI : mg "int" = none) (mD : mg "divmod" = none) : FnG γ P w K mg base CX0 1 f fd ["cup", "many"] (spC K GSip RSip) := by
  refine okC Fn scSip (fun ds ⟨m, e, _⟩ => by rw [e]; rfl) fun cdv A outer s H B ow c ds Q E hgd hr hG hc k => ?_
  obtain ⟨m, rfl, hm0, hm1⟩ := hG
  obtain ⟨x, y, hx, hy, hco⟩ := hc
  refine' rn_seti (q := c) (n := 0) (j := 0) ?h ?ho ?hi hco rfl ?k (pg_sub pe_can pe_can set_list)
  case h => walk_at "vd"
  case ho => walk_at "vd"
  case hi => walk_at "vd"
  case k =>
  intro B' e1
  have ho2 : ou ow c (.lst ([D.int x, .int y].set 0 (.int ((x * 48271 + 11) % 2147483629)))) c = some (.lst [.int ((x * 48271 + 11) % 2147483629), .int y]) := ou_same
  refine' rn_if (t := decide (0 < y)) ?h ?h1 ?h2
  case h => walk_at "vt"
  case h1 =>
    intro ht B2 e2
    have hy0 : 0 < y := of_decide_eq_true ht
    refine' rn_setiName (q := c) (n := 1) (j := 1) (m := 2) rfl ?h ?ho ?hi ho2 rfl scSip.nd rfl (.inl rfl) ?k rfl rfl rfl (pg_tup rfl (pgs_cons (pg_sub pe_can pe_can set_list) (pgs_cons (pg_name scSip.nd rfl (.inl rfl)) pgs_nil)))
    case h => walk_at "vd"
    case ho => walk_at "vd"
    case hi => walk_at "vd"
    case k =>
    intro B3 e3
    refine rn_retC (ow0 := ow) (d := .int (y % m)) ?_ k (e1.trans (e2.trans e3)) ?_ ?_ ⟨m, _, rfl, rfl, Int.emod_nonneg _ (by omega), Int.emod_lt_of_pos _ hm0⟩
    · walk_at "vd"
    · intro b o n e
      rw [ou_ne n, ou_ne n]
      exact e
    · exact ⟨_, _, Int.emod_nonneg _ (by omega), Int.ediv_nonneg hy (by omega), ou_same⟩
  case h2 =>
    intro ht B2 e2
    refine rn_go ?_
    refine rn_retC (ow0 := ow) (d := .int (((x * 48271 + 11) % 2147483629 / 1021) % m)) ?_ k (e1.trans e2) ?_ ?_ ⟨m, _, rfl, rfl, Int.emod_nonneg _ (by omega), Int.emod_lt_of_pos _ hm0⟩
    · walk_at "vd"
    · intro b o n e
      rw [ou_ne n]
      exact e
    · exact ⟨_, _, Int.emod_nonneg _ (by omega), hy, ou_same⟩
abbrev sCup : Stmt := s__law_cup
theorem scCup : FnScope ["script", "spot", "cell", "one"] ["script", "spot"] (defScope sCup) := ⟨rfl, rfl, rfl, by decide +kernel, rfl, by decide +kernel, by decide +kernel⟩
theorem cut_ints (ns : List Int) (lo hi : Option Int) : ∃ L : List Int, Vd.cutD (ns.map D.int) lo hi = L.map D.int := by
  unfold Vd.cutD
  exact ⟨((ns.drop (HT.sIx (ns.map D.int).length 0 lo)).take (HT.sIx (ns.map D.int).length (ns.map D.int).length hi - HT.sIx (ns.map D.int).length 0 lo)), by rw [List.map_take, List.map_drop]⟩
theorem atI_nat {α : Type} {xs : List α} {n : Nat} (h : n < xs.length) : L2.atI xs (n : Int) = some xs[n] := by
  unfold L2.atI L2.ixN
  rw [if_pos (by omega), if_pos (by omega)]
  simp [h]
theorem atI_map {ns : List Int} {n : Nat} (h : n < ns.length) : L2.atI (ns.map D.int) (n : Int) = some (.int ns[n]) := by
  rw [atI_nat (by rw [List.length_map]; exact h)]
  simp
theorem ok_cup {f : Addr} {fd : FuncData} (Fn : Fun K "_law_cup" "_law_cup" sCup f fd) (mI : mg "int" = none) (mA : mg "abs" = none) (mL : mg "len" = none) : FnG γ P w K mg base CX0 1 f fd ["script", "spot"] (spCup K) := by
  refine okG Fn scCup (fun vs H Q E ⟨F, ow, v, ns, n, e, _⟩ => by rw [e]; rfl) fun cdv A outer s H vs Q E hgd hr ⟨F, ow, v, ns, n, e, wo, rv, k⟩ => ?_
  subst e
  refine ⟨F, ow, [.rol (ns.map D.int), .int n], wo, .cons rv (.cons (.int _) .nil), ?_⟩
  have hlen : ((ns.map D.int).length : Int) = ns.length := by rw [List.length_map]
  obtain ⟨L, hL⟩ := cut_ints ns none (some 2)
  obtain ⟨c0, hc0⟩ : ∃ c0 : Int, c0 = if h : n < ns.length then ns[n] else 7919 * n + 104729 := ⟨_, rfl⟩
  obtain ⟨L0, hL0⟩ : ∃ L0 : List Int, L0 = if n < ns.length then [] else L := ⟨_, rfl⟩
  refine' rn_set (i := 2) (d := .int c0) scCup.nd rfl (.inl rfl) ?h ?k
  case h =>
    refine' ve_if (t := decide ((n : Int) < ((ns.map D.int).length : Nat))) ?c ?a ?b
    case c =>
      refine' vt_comp ?ha ?hb co_lt
      case ha => walk_at "vd"
      case hb =>
        refine' ve_bi ?ha rfl ?hm ?hv ?hr
        case hv => exact boot_len
        case ha => walk_at "va"
        case hm => walk_at "none"
        case hr => exact fo_lenR
    case a =>
      intro t
      have h : n < ns.length := by
        have z := of_decide_eq_true t
        rw [hlen] at z
        omega
      rw [dif_pos h] at hc0
      subst hc0
      refine' ve_sub ?ha ?hb (fun _ _ => rfl) ?hr
      case ha => walk_at "vd"
      case hb => walk_at "vd"
      case hr => exact xo_rol (atI_map h)
    case b =>
      intro t
      have h : ¬ n < ns.length := by
        have z := of_decide_eq_false t
        rw [hlen] at z
        omega
      rw [dif_neg h] at hc0
      subst hc0
      walk_at "vd"
  case k =>
  intro B1 e1
  refine' rn_for (ds := L0.map D.int) (g := gName 3) (f := fun d env => env.set 3 (some d)) (fun i env ow' => ow' = ow ∧ ∃ (c : Int) (o : Option D), env = [some (.rol (ns.map D.int)), some (.int n), some (.int c), o]) PassesOwn.never rfl ?hi (pg_name scCup.nd rfl (.inl rfl)) (fun ow d _ => gd_name 3) ⟨rfl, c0, none, rfl⟩ ?hs ?hd
  case hi =>
    refine vi_list ?_
    refine' ve_if (t := decide (((ns.map D.int).length : Nat) ≤ (n : Int))) ?c ?a ?b
    case c =>
      refine' vt_comp ?ha ?hb co_ge
      case ha => walk_at "vd"
      case hb =>
        refine' ve_bi ?ha rfl ?hm ?hv ?hr
        case hv => exact boot_len
        case ha => walk_at "va"
        case hm => walk_at "none"
        case hr => exact fo_lenR
    case a =>
      intro t
      have h : ¬ n < ns.length := by
        have z := of_decide_eq_true t
        rw [hlen] at z
        omega
      rw [if_neg h] at hL0
      rw [hL0, ← hL]
      exact ve_sliceR (ve_var (i := 0) rfl rfl (by walk_at "vis")) vp_none (vp_some ve_int)
    case b =>
      intro t
      have h : n < ns.length := by
        have z := of_decide_eq_false t
        rw [hlen] at z
        omega
      rw [if_pos h] at hL0
      rw [hL0]
      exact ve_lst va_nil (Nat.zero_le _)
  case hs =>
    rintro B2 i d env' ow' e2 hd ⟨rfl, c, o, rfl⟩
    obtain ⟨j, hj⟩ : ∃ j : Int, d = .int j := by
      rw [List.getElem?_map] at hd
      cases q : L0[i]? with
      | none => rw [q] at hd; cases hd
      | some j => rw [q] at hd; cases hd; exact ⟨j, rfl⟩
    subst hj
    refine' rn_set (i := 2) (d := .int ((c * 31 + j) % 1000000007)) scCup.nd rfl (.inl rfl) ?h ?k
    case h => walk_at "vd"
    case k =>
      intro B3 e3
      refine rn_nextW ?_ e3
      exact ⟨rfl, _, some (.int j), rfl⟩
  case hd =>
    rintro B2 env' ow' e2 ⟨rfl, c, o, rfl⟩
    refine' rn_retL (ds := [.int ((c * 4099 + 271 * n + 17) % 2147483629), .int (if decide (c < 0) || decide ((10 : Int) ^ (18 : Int).toNat ≤ c) then (if c < 0 then -c else c) else 0)]) ?h ?hl ?k
    case h =>
      refine' va_cons ?ha (va_cons ?hb va_nil)
      case ha => walk_at "vd"
      case hb =>
        refine' ve_if (t := decide (c < 0) || decide ((10 : Int) ^ (18 : Int).toNat ≤ c)) ?c ?a ?b
        case c =>
          refine vt_w (vw_or ?_ (fun _ => vw_or1 ?_) (pw_all_or _ _))
          · walk_at "vt"
          · walk_at "vt"
        case a =>
          intro t
          rw [if_pos t]
          walk_at "vd"
        case b =>
          intro t
          rw [if_neg (by rw [t]; exact Bool.false_ne_true)]
          walk_at "vd"
    case hl => show 2 ≤ 100000; decide
    case k =>
      intro F2 H2 q e3 hq w2
      refine k F2 H2 q _ _ (e1.trans (e2.trans e3)) hq w2 (Int.emod_nonneg _ (by omega)) ?_
      split <;> (try split) <;> omega
abbrev sPick : Stmt := s__law_pick
theorem scPick : FnScope ["cup", "things"] ["cup", "things"] (defScope sPick) := ⟨rfl, rfl, rfl, by decide +kernel, rfl, by decide +kernel, by decide +kernel⟩
def GPick (ds : List D) : Prop := ∃ l : List D, ds = [.lst l] ∧ 0 < l.length ∧ l.length < 1073741824
def RPick (ds : List D) (d : D) : Prop := ∃ l : List D, ds = [.lst l] ∧ d ∈ l
theorem ok_pick {f f1 : Addr} {fd fd1 : FuncData} (Fn : Fun K "_law_pick" "_law_pick" sPick f fd) (F1 : FnG γ P w K mg base CX0 1 f1 fd1 ["cup", "many"] (spC K GSip RSip)) (m1 : mg "_law_sip" = some (.ref f1)) (k1 : PySem.W.keepIn K (.ref f1) = true) (b1 : Binds K fd1 ["cup", "many"] []) (mL : mg "len" = none) :
    FnG γ P w K mg base CX0 2 f fd ["cup", "things"] (spC K GPick RPick) := by
  refine okC Fn scPick (fun ds ⟨m, e, _⟩ => by rw [e]; rfl) fun cdv A outer s H B ow c ds Q E hgd hr hG hc k => ?_
  obtain ⟨l, rfl, h0, h1⟩ := hG
  refine rn_retM (P := fun d ow2 => SameO c ow ow2 ∧ CupO ow2 c ∧ d ∈ l) ?_ (fun d ow2 ⟨a, b, e⟩ F2 H2 v e2 w2 r2 => k F2 H2 ow2 v d e2 w2 a b r2 ⟨l, rfl, e⟩)
  refine' vm_ix2 (d1 := .lst l) ix_list (fun _ _ => rfl) ?ha (vm_draw F1 hgd hr rfl m1 k1 b1 ?hb hc ?hG) ?hk
  case ha => walk_at "vd"
  case hb => exact va_cons (ve_var (i := 0) rfl rfl (by walk_at "vis")) (va_cons (by refine' ve_bi ?ha rfl ?hm ?hv ?hr; (case hv => exact boot_len); (case ha => walk_at "va"); (case hm => walk_at "none"); (case hr => exact fo_lenL)) va_nil)
  case hG => exact ⟨_, rfl, by omega, by omega⟩
  case hk =>
    rintro d2 ow2 ⟨s2, c2, m, r, e, rfl, r0, r1⟩
    cases e
    have hr : r.toNat < l.length := by omega
    have er : r = (r.toNat : Int) := by omega
    have at_ : L2.atI l r = some l[r.toNat] := (congrArg (L2.atI l) er).trans (atI_nat hr)
    exact ⟨l[r.toNat], rd_ixL at_, s2, c2, List.getElem_mem hr⟩
end
end K2
set_option Elab.async false
set_option linter.all false
set_option maxRecDepth 100000
set_option maxHeartbeats 4000000
/-! Draws in loops: x, y = [..], e; for i in range(a draw). -/
namespace Vd
open PySem L2
open PySem.Spec PyProof.Rows
section
variable {X : Cx} {B : Hp} {env : List (Option D)} {ow : Ow} {a b tg : Expr} {es : List Expr} {d2 : D} {ds : List D} {pos : Pos} {Dn : Ends} {rest : List Stmt}
/-- x, y = [..], b with the list owned -/
theorem rn_parL {x y : Str} {px py p1 p2 lp : Pos} {k1 k2 i j : Nat} (hc : X.calm = true) (hN : X.N.Nodup) (hi : X.N[i]? = some x) (hj : X.N[j]? = some y) (hij : i ≠ j) (hx : X.env.scope.names.lookup x = some .local) (hy : X.env.scope.names.lookup y = some .local)
    (h1 : Va X es env ow ds) (hl : ds.length ≤ 100000) (h2 : ∀ q, Ve X b env (ou ow q (.lst ds)) d2) (k : ∀ B' q, Ex B B' → ow q = none → Rn X B' rest Dn ((env.set i (some (.ob (.ref q)))).set j (some d2)) (ou ow q (.lst ds)))
    (hw : swappedStores [.Tuple [.Name x px, .Name y py] k1 p1] (.Tuple [.List es lp, b] k2 p2) X.env = pure (some [x, y])) (hst : starEach [.List es lp, b] X.env = (false, eval (.List es lp) X.env) :: starEach [b] X.env) (hst2 : starEach [b] X.env = (false, eval b X.env) :: starEach [] X.env)
    (hs : swapsWithSole [.Tuple [.Name x px, .Name y py] k1 p1] (.Tuple [.List es lp, b] k2 p2) pos.line X.env = pure false) :
    Rn X B (.Assign [.Tuple [.Name x px, .Name y py] k1 p1] (.Tuple [.List es lp, b] k2 p2) pos :: rest) Dn env ow :=
  rn_one ⟨_, ps_par hc hN hi hj hij hx hy (pa_cons (pe_lst pa_can) (pa_cons pe_can pa_nil hst2) hst) hw hs, fun σ F H eB s w => h1 σ F H _ s w fun F1 H1 xs e1 w1 r1 => ⟨Evl.sz_of (by rw [r1.length]; exact hl), fun q hq => h2 q σ F1 _ _ (s.mono e1) (w1.newL hq r1) fun F2 H2 u e2 w2 r2 =>
    ⟨_, _, rfl, k F2 q (eB.trans (e1.trans e2)) (w1.ofree hq) _ F2 H2 (Evl.Ex.refl F2) (((s.mono (e1.trans e2)).set (.ob _) i).set r2 j) w2⟩⟩⟩
/-- for i in range(e), e a draw -/
theorem rn_forRM {g : TG} {f : D → List (Option D) → List (Option D)} {body : List Stmt} {p cp : Pos} {P : D → Ow → Prop} (I : Nat → Nat → List (Option D) → Ow → Prop) (hp : PassesOwn (model X.prog X.w) X.A X.env X.xe) (hc : X.calm = true) (hgR : Gl X "range") (hmR : X.mg "range" = none) (hi : Vm X a env ow P) (hP : ∀ d ow2, P d ow2 → ∃ n : Nat, d = .int (n : Int) ∧ n ≤ 100000 ∧ I n 0 env ow2)
    (hg : PG X tg g) (hgd : ∀ ow d, Gd X.K ow g d (f d)) (hs : ∀ n B' i env' ow', Ex B B' → i < n → I n i env' ow' → Rn X B' body (Turn X B' rest Dn (I n (i + 1))) (f (.int (i : Nat)) env') ow') (hd : ∀ n B' env' ow', Ex B B' → I n n env' ow' → Rn X B' rest Dn env' ow')
    (hst : starEach [a] X.env = [(false, eval a X.env)] := by rfl) (hfs : ∀ x, foldedSetIterable (.Call (.Name "range" p) [a] [] cp) X.env x = pure x := by intro _; rfl) : Rn X B (.For tg (.Call (.Name "range" p) [a] [] cp) body [] pos :: rest) Dn env ow := rn_one (by
  refine ⟨_, ps_for hp hc (pi_range1 hgR hmR (pa_cons pe_can pa_nil hst) hst) hg pss_can hfs, fun σ F H eB s w => hi σ F H _ s w fun F1 H1 v d ow2 e1 w1 r1 hPd => ?_⟩
  obtain ⟨n, rfl, hn, h0⟩ := hP d ow2 hPd
  cases r1
  have src : Src X.K (Itr 0 (n : Int).toNat) F1 (rangeD 0 (n : Int).toNat) := src_range
  rw [Int.toNat_natCast] at src
  refine ⟨(n : Int), rfl, by omega, by omega, ?_⟩
  rw [Int.toNat_natCast]
  refine ⟨fun i m σ H => m = n - i ∧ i ≤ n ∧ Nx X.K F1 (I n i) σ H, ⟨n, by simp, Nat.zero_le _, F1, env, ow2, Evl.Ex.refl F1, s.mono e1, w1, h0⟩, ?_⟩
  rintro i m σ' H' ⟨rfl, hi2, F', env', ow', eF, s', w', hI⟩
  obtain ⟨stop, go⟩ := src F' H' ow' i eF w'
  have len : (rangeD 0 n).length = n := rangeD_len 0 n
  by_cases hlt : i < n
  · have hdi : (rangeD 0 n)[i]? = some (.int (i : Nat)) := by simp [rangeD, hlt]
    obtain ⟨hgo, hy⟩ := go (.int (i : Nat)) hdi
    refine .inr ⟨hgo, Nx X.K F1 (I n (i + 1)), fun σ2 H2 q => ⟨n - (i + 1), by omega, rfl, hlt, q⟩, fun x H2 hx => ?_⟩
    obtain ⟨F2, e2, w2, r2⟩ := hy x H2 hx
    refine hgd ow' _ env' σ' F2 H2 x _ (s'.mono e2) w2 r2 fun σ2 s2 => ?_
    exact hs n F1 i env' ow' (eB.trans e1) hlt hI σ2 F2 H2 (eF.trans e2) s2 w2
  · have e : i = n := by omega
    subst e
    exact .inl ⟨stop (by rw [len]; exact Nat.le_refl _), hd i F1 env' ow' (eB.trans e1) hI σ' F' H' eF s' w'⟩)
end
end Vd
set_option Elab.async false
set_option linter.all false
set_option maxRecDepth 100000
set_option maxHeartbeats 4000000
namespace K2
open PySem L2 Vd
open PySem.Spec PyProof.Rows
/-! the walk over data -/
local macro_rules | `(tactic| walk_at "vis") => `(tactic| first | exact Or.inl rfl | exact Or.inr (Or.inl rfl) | exact Or.inr (Or.inr rfl))
local macro_rules | `(tactic| walk_at "none") => `(tactic| first | assumption)
local macro_rules | `(tactic| walk_at "num") => `(tactic| first | decide | omega)
local macro_rules | `(tactic| walk_at "vr") => `(tactic| first
  | exact bo_add | exact bo_sub | exact bo_mulR (by decide) | exact bo_mulL (by decide) | exact bo_mod (by walk_at "num") | exact bo_div (by walk_at "num") (by walk_at "num") | exact bo_pow (by decide) (by decide) (by decide) | exact bo_cat (by walk_at "num") | exact bo_mulR (by omega) | exact bo_mulL (by omega))
local macro_rules | `(tactic| walk_at "vq") => `(tactic| first
  | exact co_lt | exact co_le | exact co_gt | exact co_ge | exact co_eqI | exact co_neI | exact co_eqS | exact co_neS)
local macro_rules | `(tactic| walk_at "vx") => `(tactic| first
  | exact xo_own (by assumption) rfl | exact xo_lst rfl | exact xo_tup rfl)
local macro_rules | `(tactic| walk_at "vf") => `(tactic| first
  | exact fo_abs | exact fo_lenL | exact fo_lenT | exact fo_lenO (by assumption) | exact fo_divmod (by walk_at "num") (by walk_at "num") | exact fo_max rfl | exact fo_min rfl)
local macro_rules | `(tactic| walk_at "vn") => `(tactic| first
  | exact ve_var (i := 0) rfl rfl (by walk_at "vis") | exact ve_var (i := 1) rfl rfl (by walk_at "vis") | exact ve_var (i := 2) rfl rfl (by walk_at "vis") | exact ve_var (i := 3) rfl rfl (by walk_at "vis") | exact ve_var (i := 4) rfl rfl (by walk_at "vis") | exact ve_var (i := 5) rfl rfl (by walk_at "vis") | exact ve_var (i := 6) rfl rfl (by walk_at "vis") | exact ve_var (i := 7) rfl rfl (by walk_at "vis"))
local macro_rules | `(tactic| walk_at "vd") => `(tactic| first
  | exact ve_int | exact ve_bl | exact ve_non | exact ve_str
  | (refine' ve_bin ?ha ?hb ?hr; (case ha => walk_at "vd"); (case hb => walk_at "vd"); (case hr => walk_at "vr"))
  | (refine' ve_sub ?ha ?hb (fun _ _ => rfl) ?hr; (case ha => walk_at "vd"); (case hb => walk_at "vd"); (case hr => walk_at "vx"))
  | (refine' ve_ty (id := "int") ?ha rfl ?hm boot_int ?hr; (case ha => walk_at "va"); (case hm => walk_at "none"); (case hr => exact to_int))
  | (refine' ve_bi ?ha rfl ?hm ?hv ?hr; (case hv => first | exact boot_abs | exact boot_len | exact boot_divmod | exact boot_max | exact boot_min); (case ha => walk_at "va"); (case hm => walk_at "none"); (case hr => walk_at "vf"))
  | (refine' ve_tup ?ha ?hl; (case ha => walk_at "va"); (case hl => walk_at "num"))
  | (refine' ve_lst ?ha ?hl; (case ha => walk_at "va"); (case hl => walk_at "num"))
  | (refine' ve_comp ?ha ?hb ?hr; (case ha => walk_at "vd"); (case hb => walk_at "vd"); (case hr => walk_at "vq"))
  | walk_at "vn")
local macro_rules | `(tactic| walk_at "va") => `(tactic| first | exact va_nil | (refine' va_cons ?ha ?hb; (case ha => walk_at "vd"); (case hb => walk_at "va")))
local macro_rules | `(tactic| walk_at "vt") => `(tactic| first
  | (refine' vt_comp ?ha ?hb ?hr; (case ha => walk_at "vd"); (case hb => walk_at "vd"); (case hr => walk_at "vq"))
  | (refine' vt_val ?hv; case hv => walk_at "vd"))
/-! ### _law_numbers -/
theorem ve_neg {X : Cx} {env : List (Option D)} {ow : Ow} {e : Expr} {pos : Pos} {i : Int} (h : Ve X e env ow (.int i)) : Ve X (.UnaryOp .USub e pos) env ow (.int (-i)) := ve_un un_neg h (.mk fun F H x Q w r k => by
  cases r
  exact ⟨_, rfl, k.here w (.int _)⟩)
abbrev sNum : Stmt := s__law_numbers
theorem scNum : FnScope ["cup", "found", "last", "turn"] ["cup"] (defScope sNum) := ⟨rfl, rfl, rfl, by decide +kernel, rfl, by decide +kernel, by decide +kernel⟩
def G0 (ds : List D) : Prop := ds = []
def RNum (_ : List D) (d : D) : Prop := ∃ ns : List Nat, d = .lst (ns.map natD) ∧ Per.Asc ns ∧ ns.length ≤ 4 ∧ ∀ x ∈ ns, x ≤ 1000000000000000000000
def stps : List D := [.int 0, .int 0, .int 1, .int 3, .int 12, .int ((10 : Int) ^ (20 : Int).toNat)]
theorem stp_in {d : D} (h : d ∈ stps) : ∃ k : Nat, d = .int (k : Int) ∧ k ≤ 100000000000000000000 := by
  simp only [stps, List.mem_cons, List.not_mem_nil, or_false] at h
  rcases h with rfl | rfl | rfl | rfl | rfl | rfl
  · exact ⟨0, rfl, by decide⟩
  · exact ⟨0, rfl, by decide⟩
  · exact ⟨1, rfl, by decide⟩
  · exact ⟨3, rfl, by decide⟩
  · exact ⟨12, rfl, by decide⟩
  · exact ⟨100000000000000000000, rfl, by decide⟩
section
variable {P : Program} {w : World} {K : PySem.W.Frag} {mg : Str → Option Value} {base : Heap}
theorem ok_lnumbers {f f1 f2 : Addr} {fd fd1 fd2 : FuncData} (Fn : Fun K "_law_numbers" "_law_numbers" sNum f fd) (F1 : FnG γ P w K mg base CX0 1 f1 fd1 ["cup", "many"] (spC K GSip RSip)) (m1 : mg "_law_sip" = some (.ref f1)) (k1 : PySem.W.keepIn K (.ref f1) = true) (b1 : Binds K fd1 ["cup", "many"] [])
    (F2 : FnG γ P w K mg base CX0 2 f2 fd2 ["cup", "things"] (spC K GPick RPick)) (m2 : mg "_law_pick" = some (.ref f2)) (k2 : PySem.W.keepIn K (.ref f2) = true) (b2 : Binds K fd2 ["cup", "things"] []) (mR : mg "range" = none) : FnG γ P w K mg base CX0 3 f fd ["cup"] (spC K G0 RNum) := by
  refine okC Fn scNum (fun ds e => by rw [e]; rfl) fun cdv A outer s H B ow c ds Q E hgd hr hG hc k => ?_
  obtain rfl : ds = [] := hG
  have hr1 : Room 1 (A.deeper (envOfC "_law_numbers" (defScope sNum) s.heap.objs.size f cdv)) := hr.mono (by decide)
  refine' rn_parL (i := 1) (j := 2) (ds := []) (d2 := .int (-1)) rfl scNum.nd rfl rfl (by decide) rfl rfl va_nil (Nat.zero_le _) (fun q => ve_neg ve_int) ?k ?hw rfl rfl rfl
  case hw => rfl
  case k =>
  intro B1 q e1 hq
  have cq : c ≠ q := fun z => by
    obtain ⟨x, y, _, _, h⟩ := hc
    rw [z, hq] at h
    cases h
  have hc1 : CupO (ou ow q (.lst [])) c := by
    obtain ⟨x, y, hx, hy, h⟩ := hc
    exact ⟨x, y, hx, hy, by rw [ou_ne cq]; exact h⟩
  refine' rn_forRM (g := gName 3) (f := fun d env => env.set 3 (some d)) (P := fun d ow2 => SameO c (ou ow q (.lst [])) ow2 ∧ CupO ow2 c ∧ RSip [.int 5] d)
    (fun n i env ow' => n ≤ 4 ∧ ∃ (ns : List Nat) (last : Int) (z : Option D), env = [some (.ob (.ref c)), some (.ob (.ref q)), some (.int last), z] ∧ ow' q = some (.lst (ns.map natD)) ∧ (∀ b o, b ≠ c → b ≠ q → ow b = some o → ow' b = some o) ∧ CupO ow' c ∧ ns.length = i ∧ Per.Asc ns ∧ (∀ x ∈ ns, (x : Int) ≤ last) ∧ -1 ≤ last ∧ last + 1 ≤ (i : Int) * 100000000000000000001)
    PassesOwn.never rfl ?hgR mR ?hi ?hP ?hgt (fun ow d => gd_name 3) ?hs ?hd ?hst
  case hgR => rfl
  case hgt => exact pg_name scNum.nd rfl (.inl rfl)
  case hst => rfl
  case hi => exact vm_draw F1 hgd hr1 rfl m1 k1 b1 (va_cons (ve_var (i := 0) rfl rfl (by walk_at "vis")) (va_cons ve_int va_nil)) hc1 ⟨5, rfl, by decide, by decide⟩
  case hP =>
    rintro d ow2 ⟨s2, c2, m, r, e, rfl, r0, r1⟩
    have m5 : m = 5 := by
      injection e with e1 _
      injection e1 with e2
      exact e2.symm
    refine ⟨r.toNat, by congr 1; omega, by omega, by omega, [], -1, none, rfl, s2 q _ (Ne.symm cq) ou_same, fun b o n1 n2 h => s2 b o n1 (by rw [ou_ne n2]; exact h), c2, rfl, List.Pairwise.nil, fun x hx => by simp at hx, by omega, by omega⟩
  case hs =>
    rintro n B2 i env' ow' e2 hin ⟨hn, ns, last, z, rfl, hq2, same, c2, len, asc, lt, l0, l1⟩
    refine' rn_setM (i := 2) (P := fun d ow2 => SameO c ow' ow2 ∧ CupO ow2 c ∧ ∃ k : Nat, d = .int (last + 1 + (k : Int)) ∧ k ≤ 100000000000000000000) scNum.nd rfl (by first | exact .inl rfl | exact .inr rfl) ?h ?k
    case h =>
      refine vm_op2 (d1 := .int (last + 1)) op_add (ve_bin (ve_var (d := .int last) (i := 2) rfl rfl (by walk_at "vis")) ve_int bo_add) (vm_draw F2 hgd hr rfl m2 k2 b2 (va_cons (ve_var (i := 0) rfl rfl (by walk_at "vis")) (va_cons (ve_lst (ds := stps) (va_cons ve_int (va_cons ve_int (va_cons ve_int (va_cons ve_int (va_cons ve_int (va_cons (ve_bin ve_int ve_int (bo_pow (by decide) (by decide) (by decide))) va_nil)))))) (by show 6 ≤ 100000; decide)) va_nil)) c2 ⟨stps, rfl, by decide, by decide⟩) ?_
      rintro d2 ow2 ⟨s3, c3, l, el, ht⟩
      obtain rfl : stps = l := by
        injection el with z1 z2
        injection z1
      obtain ⟨k, rfl, hk⟩ := stp_in ht
      exact ⟨_, rd_add, s3, c3, k, rfl, hk⟩
    case k =>
    rintro B3 d ow3 e3 ⟨s3, c3, kk, rfl, hkk⟩
    have hq3 : ow3 q = some (.lst (ns.map natD)) := s3 q _ (Ne.symm cq) hq2
    obtain ⟨nn, hnn⟩ : ∃ nn : Nat, last + 1 + (kk : Int) = (nn : Int) := ⟨(last + 1 + (kk : Int)).toNat, by omega⟩
    rw [hnn]
    refine' rn_app (q := q) (d := natD nn) ?ho hq3 ?he ?hl ?k
    case ho => exact ve_var (i := 1) rfl rfl (by walk_at "vis")
    case he => exact ve_var (i := 2) rfl rfl (by walk_at "vis")
    case hl => rw [List.length_map]; omega
    case k =>
    intro B4 e4
    refine rn_nextW ?_ (e3.trans e4)
    refine ⟨hn, ns ++ [nn], (nn : Int), _, rfl, ?_, fun b o n1 n2 h => ?_, ?_, ?_, ?_, ?_, ?_, ?_⟩
    · rw [List.map_append]
      exact ou_same
    · rw [ou_ne n2]
      exact s3 b o n1 (same b o n1 n2 h)
    · obtain ⟨x, y, hx, hy, h⟩ := c3
      exact ⟨x, y, hx, hy, by rw [ou_ne cq]; exact h⟩
    · rw [List.length_append, len]
      rfl
    · refine List.pairwise_append.mpr ⟨asc, List.pairwise_singleton _ _, fun x hx y hy => ?_⟩
      have := lt x hx
      rw [List.mem_singleton.mp hy]
      omega
    · intro x hx
      rcases List.mem_append.mp hx with y | y
      · have := lt x y
        omega
      · rw [List.mem_singleton.mp y]
        exact Int.le_refl _
    · omega
    · have e : ((i + 1 : Nat) : Int) * 100000000000000000001 = (i : Int) * 100000000000000000001 + 100000000000000000001 := by omega
      omega
  case hd =>
    rintro n B2 env' ow' e2 ⟨hn, ns, last, z, rfl, hq2, same, c2, len, asc, lt, l0, l1⟩
    refine' rn_freeze (j := 1) (q := q) rfl hq2 ?k
    case k =>
    intro B3 e3
    refine rn_retC (ow0 := ow) (d := .lst (ns.map natD)) (ve_var (i := 1) rfl rfl (by walk_at "vis")) k (e1.trans (e2.trans e3)) (fun b o n1 h => ?_) ?_ ⟨ns, rfl, asc, by omega, fun x hx => ?_⟩
    · have n2 : b ≠ q := fun z => by rw [z, hq] at h; cases h
      rw [oz_ne n2]
      exact same b o n1 n2 h
    · obtain ⟨x, y, hx, hy, h⟩ := c2
      exact ⟨x, y, hx, hy, by rw [oz_ne cq]; exact h⟩
    · have := lt x hx
      omega
end
end K2
set_option Elab.async false
set_option linter.all false
set_option maxRecDepth 100000
set_option maxHeartbeats 4000000
/-! Tests that draw; lists made with draws. -/
namespace Vd
open PySem L2
open PySem.Spec PyProof.Rows
/-- a test that changes what is owned -/
def Tm (X : Cx) (e : Expr) (env : List (Option D)) (ow : Ow) (P : Bool → Ow → Prop) : Prop := ∀ (σ : L2.St) (F H : Hp) (Q : Bool → Hp → Prop), Sl X.K F σ env → Wo X.K ow F H → (∀ F2 H2 b ow2, Ex F F2 → Wo X.K ow2 F2 H2 → P b ow2 → Q b H2) → WpT X e σ H Q
section
variable {X : Cx} {env : List (Option D)} {ow : Ow} {a b it elt cnd : Expr} {ds : List D} {pos : Pos}
theorem tm_cmp {op : CmpOp} {r : R2} {P1 : D → Ow → Prop} {P : Bool → Ow → Prop} (ho : OpR X (compareOp op) r) (hm : behindInMarks op b = false) (ha : Vm X a env ow P1) (h : ∀ d1 ow2, P1 d1 ow2 → ∃ t d2, Ve X b env ow2 d2 ∧ RD X.K ow2 r d1 d2 (.bl t) ∧ P t ow2) : Tm X (.Compare a [op] [b] pos) env ow P := fun σ F H Q s w k =>
  wpt (pt_cmpR ho pe_can pe_can hm) (ha σ F H _ s w fun F1 H1 x d1 ow2 e1 w1 r1 hp => by
    obtain ⟨t, d2, hb, hr, hP⟩ := h d1 ow2 hp
    exact hb σ F1 H1 _ (s.mono e1) w1 fun F2 H2 y e2 w2 r2 => hr F2 H2 x y _ w2 (r1.mono e2) r2 fun F3 H3 v e3 w3 r3 => by
      cases r3
      exact ⟨t, rfl, k F3 H3 t ow2 (e1.trans (e2.trans e3)) w3 hP⟩)
/-- [elt for y in it if cnd], cnd drawing from the cup at c; S tells what may have come out -/
theorem vm_lcD {scope : Scope} {j : Nat} {y : Str} {py : Pos} {c : Addr} (f : D → D) (S : Nat → List D → Prop) (hc : X.calm = true) (hN : X.N.Nodup) (hi : Vi X (.Name y py) it env ow ds) (ok : BlkOk X.N X.env.scope scope [(y, j)]) (hl : ds.length ≤ 100000) (hcup : CupO ow c)
    (hg : ∀ (s : Shared) (H : Hp) (C : Addr) (cl : List (Str × Addr)) (fp : List Addr), PG (X.blk s H scope (compEnvC scope cl C X.env) fp) (.Name y py) (gName j))
    (ht : ∀ d ow', d ∈ ds → CupO ow' c → ∀ (s : Shared) (H : Hp) (C : Addr) (cl : List (Str × Addr)) (fp : List Addr), Tm (X.blk s H scope (compEnvC scope cl C X.env) fp) cnd ((env.set j none).set j (some d)) ow' (fun _ ow2 => SameO c ow' ow2 ∧ CupO ow2 c))
    (he : ∀ d ow', d ∈ ds → ∀ (s : Shared) (H : Hp) (C : Addr) (cl : List (Str × Addr)) (fp : List Addr), Ve (X.blk s H scope (compEnvC scope cl C X.env) fp) elt ((env.set j none).set j (some d)) ow' (f d))
    (s0 : S 0 []) (s1 : ∀ i d res, ds[i]? = some d → S i res → res.length ≤ i → S (i + 1) res ∧ S (i + 1) (res ++ [f d]))
    (hsf : ∀ x, foldedSetIterable it X.env x = pure x := by intro _; rfl) : Vm X (.ListComp elt [⟨.Name y py, it, [cnd], 0⟩] scope pos) env ow (fun d ow2 => SameO c ow ow2 ∧ CupO ow2 c ∧ ∃ res, d = .lst res ∧ S ds.length res) := .mk fun σ F H Q s w k0 => by
  obtain ⟨wi, pi, hw⟩ := hi
  refine wpe (pe_lc (own := [(y, j)]) (g := gName j) (tt := fun σ H Q => ∀ (s : Shared) (H0 : Hp) (C : Addr) (cl : List (Str × Addr)) (fp : List Addr), WpTs (X.blk s H0 scope (compEnvC scope cl C X.env) fp) [cnd] σ H Q)
    (te := fun σ H Q => ∀ (s : Shared) (H0 : Hp) (C : Addr) (cl : List (Str × Addr)) (fp : List Addr), WpE (X.blk s H0 scope (compEnvC scope cl C X.env) fp) elt σ H Q) hc hN pi ok hg
    (fun s0 H0 C cl fp => ⟨fun pins s σ H Q I h => h s0 H0 C cl fp pins s I⟩) (fun s0 H0 C cl fp => ⟨fun pins s σ H Q I h => h s0 H0 C cl fp pins s I⟩) hsf) ?_
  refine hw σ F H _ s w fun J F1 H1 e1 w1 src => ?_
  intro Dl hD
  have cD : c ≠ Dl := fun z => by
    obtain ⟨x, y, _, _, h⟩ := hcup
    rw [z, w1.ofree hD] at h
    cases h
  have oD : ow Dl = none := w1.ofree hD
  refine ⟨fun i m H => m = ds.length - i ∧ i ≤ ds.length ∧ ∃ F2 ow2 res, Ex F1 F2 ∧ Wo X.K ow2 F2 H ∧ ow2 Dl = some (.lst res) ∧ SameO c ow ow2 ∧ CupO ow2 c ∧ S i res ∧ res.length ≤ i, ⟨ds.length, by simp, Nat.zero_le _, F1, ou ow Dl (.lst []), [], Evl.Ex.refl F1, w1.newL hD .nil, ou_same, fun b o _ h => by
    rw [ou_ne (fun z => by rw [z, oD] at h; cases h)]
    exact h, by
      obtain ⟨x, y, hx, hy, h⟩ := hcup
      exact ⟨x, y, hx, hy, by rw [ou_ne cD]; exact h⟩, s0, Nat.le_refl _⟩, ?_⟩
  rintro i m H2 ⟨rfl, hi, F2, ow2, res, e2, w2, hDl, same, cup2, hS, hlen⟩
  obtain ⟨stop, go⟩ := src F2 H2 ow2 i e2 w2
  by_cases hlt : i < ds.length
  · have hdi : ds[i]? = some ds[i] := by simp [hlt]
    have hmem : ds[i] ∈ ds := List.getElem_mem hlt
    obtain ⟨hgo, hy⟩ := go ds[i] hdi
    obtain ⟨sA, sB⟩ := s1 i ds[i] res hdi hS hlen
    refine .inr ⟨hgo, fun H3 => ∃ F3 ow3 res, Ex F1 F3 ∧ Wo X.K ow3 F3 H3 ∧ ow3 Dl = some (.lst res) ∧ SameO c ow ow3 ∧ CupO ow3 c ∧ S (i + 1) res ∧ res.length ≤ i + 1, fun H3 q => ⟨ds.length - (i + 1), by omega, rfl, hlt, q⟩, fun x H3 hx => ?_⟩
    obtain ⟨F3, e3, w3, r3⟩ := hy x H3 hx
    have sl : Sl X.K F3 ((L2.wipe σ [j]).set j (some x)) ((env.set j none).set j (some ds[i])) := (((s.mono (e1.trans (e2.trans e3))).unset j).set r3 j)
    refine ⟨wipe_one, fun s0 H0 C cl fp => ?_⟩
    intro pins s' I
    refine (pts_one (pt_can (X := X.blk s0 H0 scope (compEnvC scope cl C X.env) fp) (e := cnd))).run pins s' _ H3 _ I (ht ds[i] ow2 hmem cup2 s0 H0 C cl fp _ F3 H3 _ sl w3 fun F4 H4 t ow4 e4 w4 hP => ?_)
    obtain ⟨sm, cup4⟩ := hP
    have hD4 : ow4 Dl = some (.lst res) := sm Dl _ (Ne.symm cD) hDl
    cases t with
    | true =>
      rw [if_pos rfl]
      intro s1' H01 C1 cl1 fp1
      refine he ds[i] ow4 hmem s1' H01 C1 cl1 fp1 _ F4 H4 _ (sl.mono e4) w4 fun F5 H5 y e5 w5 r5 => ?_
      obtain ⟨n5, ys, h5, s5⟩ := w5.own Dl _ hD4
      refine ⟨ys, h5, ?_, F5, ou ow4 Dl (.lst (res ++ [f ds[i]])), res ++ [f ds[i]], e2.trans (e3.trans (e4.trans e5)), w5.setL hD4 (s5.append (.cons r5 .nil)), ou_same, fun b o n h => ?_, ?_, sB, by rw [List.length_append, List.length_singleton]; omega⟩
      · have z := s5.length
        exact Evl.sz_lt (by omega)
      · rw [ou_ne (fun z => by rw [z, oD] at h; cases h)]
        exact sm b o n (same b o n h)
      · obtain ⟨x, y, hx, hy, h⟩ := cup4
        exact ⟨x, y, hx, hy, by rw [ou_ne cD]; exact h⟩
    | false =>
      rw [if_neg Bool.false_ne_true]
      exact ⟨F4, ow4, res, e2.trans (e3.trans e4), w4, hD4, fun b o n h => sm b o n (same b o n h), cup4, sA, by omega⟩
  · have e : i = ds.length := by omega
    subst e
    refine .inl ⟨stop (Nat.le_refl _), ?_⟩
    obtain ⟨n, xs, g, sx⟩ := w2.own Dl _ hDl
    have e5 : Ex F2 (upd F2 Dl (.lst xs)) := Evl.Ex.new n
    have w6 : Wo X.K (oz ow2 Dl) (upd F2 Dl (.lst xs)) H2 := (w2.drop (ow' := oz ow2 Dl) fun b o hb => by
      by_cases z : b = Dl
      · subst z
        rw [oz_same] at hb
        cases hb
      · rw [oz_ne z] at hb
        exact hb).freeze n g oz_same
    refine k0 _ H2 (.ref Dl) (.lst res) (oz ow2 Dl) (e1.trans (e2.trans e5)) w6 (.lst upd_same (sx.mono e5)) ⟨fun b o nb h => ?_, ?_, res, rfl, hS⟩
    · rw [oz_ne (fun z => by rw [z, oD] at h; cases h)]
      exact same b o nb h
    · obtain ⟨x, y, hx, hy, h⟩ := cup2
      exact ⟨x, y, hx, hy, by rw [oz_ne cD]; exact h⟩
end
end Vd
set_option Elab.async false
set_option linter.all false
set_option maxRecDepth 100000
set_option maxHeartbeats 4000000
/-! A list made with draws and put into a name in one row. -/
namespace Vd
open PySem L2
open PySem.Spec PyProof.Rows
section
variable {X : Cx} {B : Hp} {env : List (Option D)} {ow : Ow} {a b it elt cnd : Expr} {ds : List D} {pos spos : Pos} {Dn : Ends} {rest : List Stmt}
/-- the tests and the items of such a list, as they stand in its block -/
abbrev ltt (X : Cx) (scope : Scope) (cnd : Expr) : TT := fun σ H Q => ∀ (s : Shared) (H0 : Hp) (C : Addr) (cl : List (Str × Addr)) (fp : List Addr), WpTs (X.blk s H0 scope (compEnvC scope cl C X.env) fp) [cnd] σ H Q
abbrev lte (X : Cx) (scope : Scope) (elt : Expr) : TE := fun σ H Q => ∀ (s : Shared) (H0 : Hp) (C : Addr) (cl : List (Str × Addr)) (fp : List Addr), WpE (X.blk s H0 scope (compEnvC scope cl C X.env) fp) elt σ H Q
theorem lcD_read {scope : Scope} {j : Nat} {c : Addr} {wi : TI} (f : D → D) (T : D → Bool → Prop) (S : Nat → List D → Prop)
    (hw : ∀ (σ : L2.St) (F H : Hp) (R : It → Hp → Prop), Sl X.K F σ env → Wo X.K ow F H → (∀ J F1 H1, Ex F F1 → Wo X.K ow F1 H1 → Src X.K J F1 ds → R J H1) → wi σ H R) (hl : ds.length ≤ 100000) (hcup : CupO ow c)
    (ht : ∀ d ow', d ∈ ds → CupO ow' c → ∀ (s : Shared) (H : Hp) (C : Addr) (cl : List (Str × Addr)) (fp : List Addr), Tm (X.blk s H scope (compEnvC scope cl C X.env) fp) cnd ((env.set j none).set j (some d)) ow' (fun b ow2 => SameO c ow' ow2 ∧ CupO ow2 c ∧ T d b))
    (he : ∀ d ow', d ∈ ds → ∀ (s : Shared) (H : Hp) (C : Addr) (cl : List (Str × Addr)) (fp : List Addr), Ve (X.blk s H scope (compEnvC scope cl C X.env) fp) elt ((env.set j none).set j (some d)) ow' (f d))
    (s0 : S 0 []) (s1 : ∀ i d res, ds[i]? = some d → S i res → res.length ≤ i → (T d false → S (i + 1) res) ∧ (T d true → S (i + 1) (res ++ [f d])))
    (σ : L2.St) (F H : Hp) (Q : VK) (s : Sl X.K F σ env) (w : Wo X.K ow F H) (k0 : ∀ F2 H2 v d ow2, Ex F F2 → Wo X.K ow2 F2 H2 → Rp X.K F2 v d → (SameO c ow ow2 ∧ CupO ow2 c ∧ ∃ res, d = .lst res ∧ S ds.length res) → Q v H2) :
    tLc wi (gName j) (ltt X scope cnd) (lte X scope elt) [j] σ H Q := by
  refine hw σ F H _ s w fun J F1 H1 e1 w1 src => ?_
  intro Dl hD
  have cD : c ≠ Dl := fun z => by
    obtain ⟨x, y, _, _, h⟩ := hcup
    rw [z, w1.ofree hD] at h
    cases h
  have oD : ow Dl = none := w1.ofree hD
  refine ⟨fun i m H => m = ds.length - i ∧ i ≤ ds.length ∧ ∃ F2 ow2 res, Ex F1 F2 ∧ Wo X.K ow2 F2 H ∧ ow2 Dl = some (.lst res) ∧ SameO c ow ow2 ∧ CupO ow2 c ∧ S i res ∧ res.length ≤ i, ⟨ds.length, by simp, Nat.zero_le _, F1, ou ow Dl (.lst []), [], Evl.Ex.refl F1, w1.newL hD .nil, ou_same, fun b o _ h => by
    rw [ou_ne (fun z => by rw [z, oD] at h; cases h)]
    exact h, by
      obtain ⟨x, y, hx, hy, h⟩ := hcup
      exact ⟨x, y, hx, hy, by rw [ou_ne cD]; exact h⟩, s0, Nat.le_refl _⟩, ?_⟩
  rintro i m H2 ⟨rfl, hi, F2, ow2, res, e2, w2, hDl, same, cup2, hS, hlen⟩
  obtain ⟨stop, go⟩ := src F2 H2 ow2 i e2 w2
  by_cases hlt : i < ds.length
  · have hdi : ds[i]? = some ds[i] := by simp [hlt]
    have hmem : ds[i] ∈ ds := List.getElem_mem hlt
    obtain ⟨hgo, hy⟩ := go ds[i] hdi
    obtain ⟨sA, sB⟩ := s1 i ds[i] res hdi hS hlen
    refine .inr ⟨hgo, fun H3 => ∃ F3 ow3 res, Ex F1 F3 ∧ Wo X.K ow3 F3 H3 ∧ ow3 Dl = some (.lst res) ∧ SameO c ow ow3 ∧ CupO ow3 c ∧ S (i + 1) res ∧ res.length ≤ i + 1, fun H3 q => ⟨ds.length - (i + 1), by omega, rfl, hlt, q⟩, fun x H3 hx => ?_⟩
    obtain ⟨F3, e3, w3, r3⟩ := hy x H3 hx
    have sl : Sl X.K F3 ((L2.wipe σ [j]).set j (some x)) ((env.set j none).set j (some ds[i])) := (((s.mono (e1.trans (e2.trans e3))).unset j).set r3 j)
    refine ⟨wipe_one, fun s0 H0 C cl fp => ?_⟩
    intro pins s' I
    refine (pts_one (pt_can (X := X.blk s0 H0 scope (compEnvC scope cl C X.env) fp) (e := cnd))).run pins s' _ H3 _ I (ht ds[i] ow2 hmem cup2 s0 H0 C cl fp _ F3 H3 _ sl w3 fun F4 H4 t ow4 e4 w4 hP => ?_)
    obtain ⟨sm, cup4, hT⟩ := hP
    have hD4 : ow4 Dl = some (.lst res) := sm Dl _ (Ne.symm cD) hDl
    cases t with
    | true =>
      rw [if_pos rfl]
      intro s1' H01 C1 cl1 fp1
      refine he ds[i] ow4 hmem s1' H01 C1 cl1 fp1 _ F4 H4 _ (sl.mono e4) w4 fun F5 H5 y e5 w5 r5 => ?_
      obtain ⟨n5, ys, h5, s5⟩ := w5.own Dl _ hD4
      refine ⟨ys, h5, ?_, F5, ou ow4 Dl (.lst (res ++ [f ds[i]])), res ++ [f ds[i]], e2.trans (e3.trans (e4.trans e5)), w5.setL hD4 (s5.append (.cons r5 .nil)), ou_same, fun b o n h => ?_, ?_, sB hT, by rw [List.length_append, List.length_singleton]; omega⟩
      · have z := s5.length
        exact Evl.sz_lt (by omega)
      · rw [ou_ne (fun z => by rw [z, oD] at h; cases h)]
        exact sm b o n (same b o n h)
      · obtain ⟨x, y, hx, hy, h⟩ := cup4
        exact ⟨x, y, hx, hy, by rw [ou_ne cD]; exact h⟩
    | false =>
      rw [if_neg Bool.false_ne_true]
      exact ⟨F4, ow4, res, e2.trans (e3.trans e4), w4, hD4, fun b o n h => sm b o n (same b o n h), cup4, sA hT, by omega⟩
  · have e : i = ds.length := by omega
    subst e
    refine .inl ⟨stop (Nat.le_refl _), ?_⟩
    obtain ⟨n, xs, g, sx⟩ := w2.own Dl _ hDl
    have e5 : Ex F2 (upd F2 Dl (.lst xs)) := Evl.Ex.new n
    have w6 : Wo X.K (oz ow2 Dl) (upd F2 Dl (.lst xs)) H2 := (w2.drop (ow' := oz ow2 Dl) fun b o hb => by
      by_cases z : b = Dl
      · subst z
        rw [oz_same] at hb
        cases hb
      · rw [oz_ne z] at hb
        exact hb).freeze n g oz_same
    refine k0 _ H2 (.ref Dl) (.lst res) (oz ow2 Dl) (e1.trans (e2.trans e5)) w6 (.lst upd_same (sx.mono e5)) ⟨fun b o nb h => ?_, ?_, res, rfl, hS⟩
    · rw [oz_ne (fun z => by rw [z, oD] at h; cases h)]
      exact same b o nb h
    · obtain ⟨x, y, hx, hy, h⟩ := cup2
      exact ⟨x, y, hx, hy, by rw [oz_ne cD]; exact h⟩
/-- name = [elt for y in it if cnd] in one row -/
theorem rn_setLcD {scope : Scope} {j i : Nat} {y x : Str} {py px : Pos} {c : Addr} (f : D → D) (T : D → Bool → Prop) (S : Nat → List D → Prop) (hc : X.calm = true) (hN : X.N.Nodup) (hx : X.N[i]? = some x) (hxl : X.env.scope.names.lookup x = some .local) (hsw : swapsWith (.ListComp elt [⟨.Name y py, it, [cnd], 0⟩] scope pos) (some (.Name x px)) spos.line X.env = pure true)
    (hi : Vi X (.Name y py) it env ow ds) (ok : BlkOk X.N X.env.scope scope [(y, j)]) (hl : ds.length ≤ 100000) (hcup : CupO ow c)
    (hg : ∀ (s : Shared) (H : Hp) (C : Addr) (cl : List (Str × Addr)) (fp : List Addr), PG (X.blk s H scope (compEnvC scope cl C X.env) fp) (.Name y py) (gName j))
    (ht : ∀ d ow', d ∈ ds → CupO ow' c → ∀ (s : Shared) (H : Hp) (C : Addr) (cl : List (Str × Addr)) (fp : List Addr), Tm (X.blk s H scope (compEnvC scope cl C X.env) fp) cnd ((env.set j none).set j (some d)) ow' (fun b ow2 => SameO c ow' ow2 ∧ CupO ow2 c ∧ T d b))
    (he : ∀ d ow', d ∈ ds → ∀ (s : Shared) (H : Hp) (C : Addr) (cl : List (Str × Addr)) (fp : List Addr), Ve (X.blk s H scope (compEnvC scope cl C X.env) fp) elt ((env.set j none).set j (some d)) ow' (f d))
    (s0 : S 0 []) (s1 : ∀ i d res, ds[i]? = some d → S i res → res.length ≤ i → (T d false → S (i + 1) res) ∧ (T d true → S (i + 1) (res ++ [f d])))
    (k : ∀ B' ow2 res, Ex B B' → SameO c ow ow2 → CupO ow2 c → S ds.length res → Rn X B' rest Dn (env.set i (some (.lst res))) ow2)
    (hsf : ∀ x, foldedSetIterable it X.env x = pure x := by intro _; rfl) : Rn X B (.Assign [.Name x px] (.ListComp elt [⟨.Name y py, it, [cnd], 0⟩] scope pos) spos :: rest) Dn env ow := rn_one (by
  obtain ⟨wi, pi, hw⟩ := hi
  refine ⟨_, ps_setLc (own := [(y, j)]) (g := gName j) (tt := ltt X scope cnd) (te := lte X scope elt) hc hN hx hxl hsw pi ok hg (fun s0 H0 C cl fp => ⟨fun pins s σ H Q I h => h s0 H0 C cl fp pins s I⟩) (fun s0 H0 C cl fp => ⟨fun pins s σ H Q I h => h s0 H0 C cl fp pins s I⟩) hsf, fun σ F H eB s w => ?_⟩
  refine lcD_read f T S hw hl hcup ht he s0 s1 σ F H _ s w fun F1 H1 v d ow2 e1 w1 r1 hp => ?_
  obtain ⟨sm, cp, res, rfl, hS⟩ := hp
  exact k F1 ow2 res (eB.trans e1) sm cp hS _ F1 H1 (Evl.Ex.refl F1) ((s.mono e1).set r1 i) w1)
end
end Vd
set_option Elab.async false
set_option linter.all false
set_option maxRecDepth 100000
set_option maxHeartbeats 4000000
namespace K2
open PySem L2 Vd
open PySem.Spec PyProof.Rows
/-! the walk over data -/
local macro_rules | `(tactic| walk_at "vis") => `(tactic| first | exact Or.inl rfl | exact Or.inr (Or.inl rfl) | exact Or.inr (Or.inr rfl))
local macro_rules | `(tactic| walk_at "none") => `(tactic| first | assumption)
local macro_rules | `(tactic| walk_at "num") => `(tactic| first | decide | omega)
local macro_rules | `(tactic| walk_at "vr") => `(tactic| first
  | exact bo_add | exact bo_sub | exact bo_mulR (by decide) | exact bo_mulL (by decide) | exact bo_mod (by walk_at "num") | exact bo_div (by walk_at "num") (by walk_at "num") | exact bo_pow (by decide) (by decide) (by decide) | exact bo_cat (by walk_at "num") | exact bo_mulR (by omega) | exact bo_mulL (by omega))
local macro_rules | `(tactic| walk_at "vq") => `(tactic| first
  | exact co_lt | exact co_le | exact co_gt | exact co_ge | exact co_eqI | exact co_neI | exact co_eqS | exact co_neS)
local macro_rules | `(tactic| walk_at "vx") => `(tactic| first
  | exact xo_own (by assumption) rfl | exact xo_lst rfl | exact xo_tup rfl)
local macro_rules | `(tactic| walk_at "vf") => `(tactic| first
  | exact fo_abs | exact fo_lenL | exact fo_lenT | exact fo_lenO (by assumption) | exact fo_divmod (by walk_at "num") (by walk_at "num") | exact fo_max rfl | exact fo_min rfl)
local macro_rules | `(tactic| walk_at "vn") => `(tactic| first
  | exact ve_var (i := 0) rfl rfl (by walk_at "vis") | exact ve_var (i := 1) rfl rfl (by walk_at "vis") | exact ve_var (i := 2) rfl rfl (by walk_at "vis") | exact ve_var (i := 3) rfl rfl (by walk_at "vis") | exact ve_var (i := 4) rfl rfl (by walk_at "vis") | exact ve_var (i := 5) rfl rfl (by walk_at "vis") | exact ve_var (i := 6) rfl rfl (by walk_at "vis") | exact ve_var (i := 7) rfl rfl (by walk_at "vis"))
local macro_rules | `(tactic| walk_at "vd") => `(tactic| first
  | exact ve_int | exact ve_bl | exact ve_non | exact ve_str
  | (refine' ve_bin ?ha ?hb ?hr; (case ha => walk_at "vd"); (case hb => walk_at "vd"); (case hr => walk_at "vr"))
  | (refine' ve_sub ?ha ?hb (fun _ _ => rfl) ?hr; (case ha => walk_at "vd"); (case hb => walk_at "vd"); (case hr => walk_at "vx"))
  | (refine' ve_ty (id := "int") ?ha rfl ?hm boot_int ?hr; (case ha => walk_at "va"); (case hm => walk_at "none"); (case hr => exact to_int))
  | (refine' ve_bi ?ha rfl ?hm ?hv ?hr; (case hv => first | exact boot_abs | exact boot_len | exact boot_divmod | exact boot_max | exact boot_min); (case ha => walk_at "va"); (case hm => walk_at "none"); (case hr => walk_at "vf"))
  | (refine' ve_tup ?ha ?hl; (case ha => walk_at "va"); (case hl => walk_at "num"))
  | (refine' ve_lst ?ha ?hl; (case ha => walk_at "va"); (case hl => walk_at "num"))
  | (refine' ve_comp ?ha ?hb ?hr; (case ha => walk_at "vd"); (case hb => walk_at "vd"); (case hr => walk_at "vq"))
  | walk_at "vn")
local macro_rules | `(tactic| walk_at "va") => `(tactic| first | exact va_nil | (refine' va_cons ?ha ?hb; (case ha => walk_at "vd"); (case hb => walk_at "va")))
local macro_rules | `(tactic| walk_at "vt") => `(tactic| first
  | (refine' vt_comp ?ha ?hb ?hr; (case ha => walk_at "vd"); (case hb => walk_at "vd"); (case hr => walk_at "vq"))
  | (refine' vt_val ?hv; case hv => walk_at "vd"))
/-! ### _law_marks -/
theorem tm_vt {X : Cx} {env : List (Option D)} {ow : Ow} {e : Expr} {t : Bool} {P : Bool → Ow → Prop} (h : Vt X e env ow t) (hp : P t ow) : Tm X e env ow P := fun σ F H Q s w k => h σ F H Q s w fun F1 H1 e1 w1 => k F1 H1 t ow e1 w1 hp
theorem any_ints (i : Int) : ∀ l : List Int, ((l.map V.int).any fun y => L2.eqV y (.int i)) = decide (i ∈ l)
  | [] => rfl
  | j :: l => by
    rw [List.map_cons, List.any_cons, any_ints i l]
    show ((j == i) || decide (i ∈ l)) = decide (i ∈ j :: l)
    by_cases h : j = i
    · subst h
      simp
    · have h2 : ¬ i = j := fun z => h z.symm
      simp [h, h2]
theorem flat_ints : ∀ l : List Int, (l.map V.int).all L2.flatV = true
  | [] => rfl
  | j :: l => by
    rw [List.map_cons, List.all_cons, flat_ints l]
    rfl
theorem co_inL {X : Cx} {ow : Ow} {b : Expr} {i : Int} {l : List Int} (hm : behindInMarks .In b = false) : CmpOk X ow .In b (.int i) (.lst (l.map D.int)) (.bl (decide (i ∈ l))) := ⟨_, op_in_seq, hm, .mk fun F H x y Q w r1 r2 k => by
  cases r1
  cases r2 with
  | lst g s1 =>
    have e := Rps.intsV s1
    subst e
    refine ⟨_, _, rfl, .inl (SqL.of (w.ex _ _ g)), rfl, flat_ints l, ?_⟩
    have z : L2.inV (.int i) (l.map V.int) = decide (i ∈ l) := any_ints i l
    show Q (.bl (if false = true then !L2.inV (.int i) (l.map V.int) else L2.inV (.int i) (l.map V.int))) H
    rw [if_neg Bool.false_ne_true, z]
    exact k.here w (.bl _)⟩
abbrev sMrk : Stmt := s__law_marks
theorem scMrk : FnScope ["cup", "size", "step", "mark", "found", "some"] ["cup"] (defScope sMrk) := ⟨rfl, rfl, rfl, by decide +kernel, rfl, by decide +kernel, by decide +kernel⟩
def RMrk (_ : List D) (d : D) : Prop := ∃ (n : Nat) (M : List Nat), d = .tup [natD n, .tup (M.map natD)] ∧ Per.Pat n M ∧ n ≤ 30
def szs : List D := [.int 1, .int 2, .int 3, .int 4, .int 6, .int 12, .int 30]
def sps : List D := [.int 1, .int 1, .int 2, .int 3]
theorem sz_in {d : D} (h : d ∈ szs) : ∃ k : Nat, d = natD k ∧ 1 ≤ k ∧ k ≤ 30 := by
  simp only [szs, List.mem_cons, List.not_mem_nil, or_false] at h
  rcases h with rfl | rfl | rfl | rfl | rfl | rfl | rfl
  · exact ⟨1, rfl, by decide, by decide⟩
  · exact ⟨2, rfl, by decide, by decide⟩
  · exact ⟨3, rfl, by decide, by decide⟩
  · exact ⟨4, rfl, by decide, by decide⟩
  · exact ⟨6, rfl, by decide, by decide⟩
  · exact ⟨12, rfl, by decide, by decide⟩
  · exact ⟨30, rfl, by decide, by decide⟩
theorem sp_in {d : D} (h : d ∈ sps) : ∃ k : Nat, d = natD k ∧ 1 ≤ k ∧ k ≤ 3 := by
  simp only [sps, List.mem_cons, List.not_mem_nil, or_false] at h
  rcases h with rfl | rfl | rfl | rfl
  · exact ⟨1, rfl, by decide, by decide⟩
  · exact ⟨1, rfl, by decide, by decide⟩
  · exact ⟨2, rfl, by decide, by decide⟩
  · exact ⟨3, rfl, by decide, by decide⟩
/-- what a list of remainders drawn from range(i) is -/
def Rem (i : Nat) (res : List D) : Prop := ∃ M : List Nat, res = M.map natD ∧ Per.Asc M ∧ ∀ x ∈ M, x < i
theorem Rem.nil : Rem 0 [] := ⟨[], rfl, List.Pairwise.nil, fun x hx => by simp at hx⟩
theorem Rem.step {n i : Nat} {d : D} {res : List D} (hd : (rangeD 0 n)[i]? = some d) (h : Rem i res) : Rem (i + 1) res ∧ Rem (i + 1) (res ++ [d]) := by
  obtain ⟨hi, rfl⟩ := rangeD_get hd
  obtain ⟨M, rfl, asc, lt⟩ := h
  refine ⟨⟨M, rfl, asc, fun x hx => by have := lt x hx; omega⟩, M ++ [i], by rw [List.map_append]; simp, List.pairwise_append.mpr ⟨asc, List.pairwise_singleton _ _, fun x hx y hy => ?_⟩, fun x hx => ?_⟩
  · have := lt x hx
    rw [List.mem_singleton.mp hy]
    exact this
  · rcases List.mem_append.mp hx with y | y
    · have := lt x y
      omega
    · rw [List.mem_singleton.mp y]
      omega
section
variable {P : Program} {w : World} {K : PySem.W.Frag} {mg : Str → Option Value} {base : Heap}
theorem ok_lmarks {f f1 f2 : Addr} {fd fd1 fd2 : FuncData} (Fn : Fun K "_law_marks" "_law_marks" sMrk f fd) (F1 : FnG γ P w K mg base CX0 1 f1 fd1 ["cup", "many"] (spC K GSip RSip)) (m1 : mg "_law_sip" = some (.ref f1)) (k1 : PySem.W.keepIn K (.ref f1) = true) (b1 : Binds K fd1 ["cup", "many"] [])
    (F2 : FnG γ P w K mg base CX0 2 f2 fd2 ["cup", "things"] (spC K GPick RPick)) (m2 : mg "_law_pick" = some (.ref f2)) (k2 : PySem.W.keepIn K (.ref f2) = true) (b2 : Binds K fd2 ["cup", "things"] []) (mR : mg "range" = none) (mT : mg "tuple" = none) : FnG γ P w K mg base CX0 3 f fd ["cup"] (spC K G0 RMrk) := by
  refine okC Fn scMrk (fun ds e => by rw [e]; rfl) fun cdv A outer s H B ow c ds Q E hgd hr hG hc k => ?_
  obtain rfl : ds = [] := hG
  have hr1 : Room 1 (A.deeper (envOfC "_law_marks" (defScope sMrk) s.heap.objs.size f cdv)) := hr.mono (by decide)
  refine' rn_setM (i := 1) (P := fun d ow2 => SameO c ow ow2 ∧ CupO ow2 c ∧ ∃ n : Nat, d = natD n ∧ 1 ≤ n ∧ n ≤ 30) scMrk.nd rfl (by first | exact .inl rfl | exact .inr rfl) ?h ?k
  case h =>
    refine Vm.imp (vm_draw F2 hgd hr rfl m2 k2 b2 (va_cons (ve_var (i := 0) rfl rfl (by walk_at "vis")) (va_cons (ve_lst (ds := szs) (va_cons ve_int (va_cons ve_int (va_cons ve_int (va_cons ve_int (va_cons ve_int (va_cons ve_int (va_cons ve_int va_nil))))))) (by show 7 ≤ 100000; decide)) va_nil)) hc ⟨szs, rfl, by decide, by decide⟩) ?_
    rintro d ow2 ⟨s3, c3, l, el, ht⟩
    obtain rfl : szs = l := by
      injection el with z1 z2
      injection z1
    exact ⟨s3, c3, sz_in ht⟩
  case k =>
  rintro B1 d1 ow1 e1 ⟨s1, c1, n, rfl, n1, n2⟩
  refine' rn_setM (i := 2) (P := fun d ow2 => SameO c ow1 ow2 ∧ CupO ow2 c ∧ ∃ n : Nat, d = natD n ∧ 1 ≤ n ∧ n ≤ 3) scMrk.nd rfl (by first | exact .inl rfl | exact .inr rfl) ?h ?k
  case h =>
    refine Vm.imp (vm_draw F2 hgd hr rfl m2 k2 b2 (va_cons (ve_var (i := 0) rfl rfl (by walk_at "vis")) (va_cons (ve_lst (ds := sps) (va_cons ve_int (va_cons ve_int (va_cons ve_int (va_cons ve_int va_nil)))) (by show 4 ≤ 100000; decide)) va_nil)) c1 ⟨sps, rfl, by decide, by decide⟩) ?_
    rintro d ow2 ⟨s3, c3, l, el, ht⟩
    obtain rfl : sps = l := by
      injection el with z1 z2
      injection z1
    exact ⟨s3, c3, sp_in ht⟩
  case k =>
  rintro B2 d2 ow2 e2 ⟨s2, c2, st, rfl, st1, st2⟩
  have nrange : ((n : Int)).toNat = n := Int.toNat_natCast n
  refine' rn_setLcD (i := 4) (j := 3) (c := c) (ds := rangeD 0 (n : Int).toNat) (fun d => d) (fun _ _ => True) Rem rfl scMrk.nd rfl rfl ?hsw ?hi ?ok ?hl c2 ?hg ?ht ?he Rem.nil (fun i d res hd h _ => ⟨fun _ => (Rem.step hd h).1, fun _ => (Rem.step hd h).2⟩) ?k
  case hsw => exact sw_true rfl rfl rfl (by decide +kernel)
  case hi => exact vi_range1 rfl mR (ve_var (d := natD n) (i := 1) rfl rfl (by walk_at "vis")) (by omega)
  case ok => exact blkOk_by (N := ["cup", "size", "step", "mark", "found", "some"]) (sc := defScope sMrk) (by decide +kernel)
  case hl => rw [rangeD_len]; omega
  case hg => exact fun _ _ _ _ _ => pg_name scMrk.nd rfl (.inl rfl)
  case ht =>
    intro d ow' hd hc' s0 H0 C0 cl fp
    refine tm_cmp op_eq (nomark _) (vm_draw F1 hgd hr1 rfl m1 k1 b1 (va_cons (ve_var (i := 0) rfl rfl (by walk_at "vis")) (va_cons ve_int va_nil)) hc' ⟨3, rfl, by decide, by decide⟩) ?_
    rintro d1 ow5 ⟨s5, c5, m, r, _, rfl, _, _⟩
    exact ⟨_, .int 0, ve_int, rd_eqI, s5, c5, trivial⟩
  case he =>
    intro d ow' hd s0 H0 C0 cl fp
    exact ve_var (i := 3) rfl rfl (by walk_at "vis")
  case k =>
  rintro B3 ow3 res e3 s3 c3 hRem
  rw [rangeD_len, nrange] at hRem
  obtain ⟨M, rfl, asc, lt⟩ := hRem
  have st_all : SameO c ow ow3 := fun b o nb h => s3 b o nb (s2 b o nb (s1 b o nb h))
  refine' rn_if (t := decide ((n : Int) % (st : Int) = 0) && decide ((1 : Int) < (st : Int))) ?h ?h1 ?h2
  case h => exact vt_w (vw_and (vt_comp (ve_bin (ve_var (d := natD n) (i := 1) rfl rfl (by walk_at "vis")) (ve_var (d := natD st) (i := 2) rfl rfl (by walk_at "vis")) (bo_mod (by omega))) ve_int co_eqI) (fun _ => vw_and1 (vt_comp (ve_var (d := natD st) (i := 2) rfl rfl (by walk_at "vis")) ve_int co_gt)) (pw_all_and _ _))
  case h2 =>
    intro t B4 e4
    refine rn_go ?_
    refine rn_retC (ow0 := ow) (d := .tup [natD n, .tup (M.map natD)]) ?_ k (e1.trans (e2.trans (e3.trans e4))) st_all c3 ⟨n, M, rfl, ⟨by omega, asc, lt⟩, n2⟩
    exact ve_tup (va_cons (ve_var (d := natD n) (i := 1) rfl rfl (by walk_at "vis")) (va_cons (ve_ty (va_cons (ve_var (d := .lst (M.map natD)) (i := 4) rfl rfl (by walk_at "vis")) va_nil) rfl mT boot_tuple to_tupL) va_nil)) (by show 2 ≤ 100000; decide)
  case h1 =>
    intro t B4 e4
    rw [Bool.and_eq_true] at t
    have dv : st ∣ n := mod_dvd.mp (of_decide_eq_true t.1)
    obtain ⟨q, hq⟩ : ∃ q, q = n / st := ⟨_, rfl⟩
    have q1 : 1 ≤ q := by rw [hq]; exact Nat.div_pos (Nat.le_of_dvd (by omega) dv) (by omega)
    have q2 : q ≤ n := by rw [hq]; exact Nat.div_le_self _ _
    have qrange : ((q : Int)).toNat = q := Int.toNat_natCast q
    refine' rn_setM (i := 5) (P := fun d ow4 => SameO c ow3 ow4 ∧ CupO ow4 c ∧ ∃ res, d = .lst res ∧ Rem q res) scMrk.nd rfl (by first | exact .inl rfl | exact .inr rfl) ?h ?k
    case h =>
      refine Vm.imp (vm_lcD (j := 3) (c := c) (ds := rangeD 0 (q : Int).toNat) (fun d => d) Rem rfl scMrk.nd (vi_range1 rfl mR (ve_is (ve_bin (ve_var (d := natD n) (i := 1) rfl rfl (by walk_at "vis")) (ve_var (d := natD st) (i := 2) rfl rfl (by walk_at "vis")) (bo_div (by omega) (by omega))) (by rw [hq]; rfl)) (by omega)) (blkOk_by (N := ["cup", "size", "step", "mark", "found", "some"]) (sc := defScope sMrk) (by decide +kernel)) (by rw [rangeD_len]; omega) c3 ?hg ?ht ?he Rem.nil (fun i d res hd h _ => Rem.step hd h)) ?imp
      case hg => exact fun _ _ _ _ _ => pg_name scMrk.nd rfl (.inl rfl)
      case ht =>
        intro d ow' hd hc' s0 H0 C0 cl fp
        refine tm_cmp op_eq (nomark _) (vm_draw F1 hgd hr1 rfl m1 k1 b1 (va_cons (ve_var (i := 0) rfl rfl (by walk_at "vis")) (va_cons ve_int va_nil)) hc' ⟨2, rfl, by decide, by decide⟩) ?_
        rintro d1 ow5 ⟨s5, c5, m, r, _, rfl, _, _⟩
        exact ⟨_, .int 0, ve_int, rd_eqI, s5, c5⟩
      case he =>
        intro d ow' hd s0 H0 C0 cl fp
        exact ve_var (i := 3) rfl rfl (by walk_at "vis")
      case imp =>
        rintro d ow4 ⟨s4, c4, res, rfl, h⟩
        rw [rangeD_len, qrange] at h
        exact ⟨s4, c4, res, rfl, h⟩
    case k =>
    rintro B5 d5 ow5 e5 ⟨s5, c5, res, rfl, S, rfl, ascS, ltS⟩
    obtain ⟨M2, hM2⟩ : ∃ M2 : List Nat, M2 = (List.range n).filter (fun x => decide (x % q ∈ S)) := ⟨_, rfl⟩
    refine' rn_setLcD (i := 4) (j := 3) (c := c) (ds := rangeD 0 (n : Int).toNat) (fun d => d) (fun d b => ∃ x : Nat, d = natD x ∧ b = decide (x % q ∈ S)) (fun i res => res = ((List.range i).filter (fun x => decide (x % q ∈ S))).map natD) rfl scMrk.nd rfl rfl ?hsw ?hi ?ok ?hl c5 ?hg ?ht ?he rfl ?s1 ?k
    case hsw => exact sw_true rfl rfl rfl (by decide +kernel)
    case hi => exact vi_range1 rfl mR (ve_var (d := natD n) (i := 1) rfl rfl (by walk_at "vis")) (by omega)
    case ok => exact blkOk_by (N := ["cup", "size", "step", "mark", "found", "some"]) (sc := defScope sMrk) (by decide +kernel)
    case hl => rw [rangeD_len]; omega
    case hg => exact fun _ _ _ _ _ => pg_name scMrk.nd rfl (.inl rfl)
    case ht =>
      intro d ow' hd hc' s0 H0 C0 cl fp
      obtain ⟨i, hi⟩ := List.mem_iff_getElem?.mp hd
      obtain ⟨_, rfl⟩ := rangeD_get hi
      rw [Int.zero_add]
      refine tm_vt (t := decide ((((i % q : Nat)) : Int) ∈ S.map toI)) (vt_comp (ve_is (ve_bin (ve_var (d := natD i) (i := 3) rfl rfl (by walk_at "vis")) (ve_is (ve_bin (ve_var (d := natD n) (i := 1) rfl rfl (by walk_at "vis")) (ve_var (d := natD st) (i := 2) rfl rfl (by walk_at "vis")) (bo_div (by omega) (by omega))) (by rw [hq]; rfl : _ = D.int (q : Int))) (bo_mod (by omega))) (by rfl : _ = D.int (((i % q : Nat)) : Int))) (ve_is (ve_var (d := .lst (S.map natD)) (i := 5) rfl rfl (by walk_at "vis")) (by rw [natD_ints])) (co_inL rfl)) ⟨SameO.refl, hc', i, rfl, decide_eq_decide.mpr mem_toI⟩
    case he =>
      intro d ow' hd s0 H0 C0 cl fp
      exact ve_var (i := 3) rfl rfl (by walk_at "vis")
    case s1 =>
      intro i d res hd h _
      obtain ⟨_, rfl⟩ := rangeD_get hd
      rw [Int.zero_add]
      have inj : ∀ x : Nat, natD i = natD x → i = x := fun x e => by
        injection e with e1
        omega
      refine ⟨fun hT => ?_, fun hT => ?_⟩
      · obtain ⟨x, e, hb⟩ := hT
        rw [← inj x e] at hb
        rw [List.range_succ, List.filter_append, h]
        have z : [i].filter (fun x => decide (x % q ∈ S)) = [] := by simp [← hb]
        rw [z, List.append_nil]
      · obtain ⟨x, e, hb⟩ := hT
        rw [← inj x e] at hb
        rw [List.range_succ, List.filter_append, h, List.map_append]
        have z : [i].filter (fun x => decide (x % q ∈ S)) = [i] := by simp [← hb]
        rw [z]
        rfl
    case k =>
    rintro B6 ow6 res e6 s6 c6 hres
    rw [rangeD_len, nrange, ← hM2] at hres
    subst hres
    refine rn_go ?_
    refine rn_retC (ow0 := ow) (d := .tup [natD n, .tup (M2.map natD)]) ?_ k (e1.trans (e2.trans (e3.trans (e4.trans (e5.trans e6))))) (fun b o nb h => s6 b o nb (s5 b o nb (st_all b o nb h))) c6 ⟨n, M2, rfl, ⟨by omega, by rw [hM2]; exact (List.pairwise_lt_range).filter _, fun x hx => by
      rw [hM2] at hx
      exact List.mem_range.mp (List.mem_filter.mp hx).1⟩, n2⟩
    exact ve_tup (va_cons (ve_var (d := natD n) (i := 1) rfl rfl (by walk_at "vis")) (va_cons (ve_ty (va_cons (ve_var (d := .lst (M2.map natD)) (i := 4) rfl rfl (by walk_at "vis")) va_nil) rfl mT boot_tuple to_tupL) va_nil)) (by show 2 ≤ 100000; decide)
end
end K2
set_option Elab.async false
set_option linter.all false
set_option maxRecDepth 100000
set_option maxHeartbeats 4000000
namespace K2
open PySem L2 Vd
open PySem.Spec PyProof.Rows
/-! the walk over data -/
local macro_rules | `(tactic| walk_at "vis") => `(tactic| first | exact Or.inl rfl | exact Or.inr (Or.inl rfl) | exact Or.inr (Or.inr rfl))
local macro_rules | `(tactic| walk_at "none") => `(tactic| first | assumption)
local macro_rules | `(tactic| walk_at "num") => `(tactic| first | decide | omega)
local macro_rules | `(tactic| walk_at "vr") => `(tactic| first
  | exact bo_add | exact bo_sub | exact bo_mulR (by decide) | exact bo_mulL (by decide) | exact bo_mod (by walk_at "num") | exact bo_div (by walk_at "num") (by walk_at "num") | exact bo_pow (by decide) (by decide) (by decide) | exact bo_cat (by walk_at "num") | exact bo_mulR (by omega) | exact bo_mulL (by omega))
local macro_rules | `(tactic| walk_at "vq") => `(tactic| first
  | exact co_lt | exact co_le | exact co_gt | exact co_ge | exact co_eqI | exact co_neI | exact co_eqS | exact co_neS)
local macro_rules | `(tactic| walk_at "vx") => `(tactic| first
  | exact xo_own (by assumption) rfl | exact xo_lst rfl | exact xo_tup rfl)
local macro_rules | `(tactic| walk_at "vf") => `(tactic| first
  | exact fo_abs | exact fo_lenL | exact fo_lenT | exact fo_lenO (by assumption) | exact fo_divmod (by walk_at "num") (by walk_at "num") | exact fo_max rfl | exact fo_min rfl)
local macro_rules | `(tactic| walk_at "vn") => `(tactic| first
  | exact ve_var (i := 0) rfl rfl (by walk_at "vis") | exact ve_var (i := 1) rfl rfl (by walk_at "vis") | exact ve_var (i := 2) rfl rfl (by walk_at "vis") | exact ve_var (i := 3) rfl rfl (by walk_at "vis") | exact ve_var (i := 4) rfl rfl (by walk_at "vis") | exact ve_var (i := 5) rfl rfl (by walk_at "vis") | exact ve_var (i := 6) rfl rfl (by walk_at "vis") | exact ve_var (i := 7) rfl rfl (by walk_at "vis"))
local macro_rules | `(tactic| walk_at "vd") => `(tactic| first
  | exact ve_int | exact ve_bl | exact ve_non | exact ve_str
  | (refine' ve_bin ?ha ?hb ?hr; (case ha => walk_at "vd"); (case hb => walk_at "vd"); (case hr => walk_at "vr"))
  | (refine' ve_sub ?ha ?hb (fun _ _ => rfl) ?hr; (case ha => walk_at "vd"); (case hb => walk_at "vd"); (case hr => walk_at "vx"))
  | (refine' ve_ty (id := "int") ?ha rfl ?hm boot_int ?hr; (case ha => walk_at "va"); (case hm => walk_at "none"); (case hr => exact to_int))
  | (refine' ve_bi ?ha rfl ?hm ?hv ?hr; (case hv => first | exact boot_abs | exact boot_len | exact boot_divmod | exact boot_max | exact boot_min); (case ha => walk_at "va"); (case hm => walk_at "none"); (case hr => walk_at "vf"))
  | (refine' ve_tup ?ha ?hl; (case ha => walk_at "va"); (case hl => walk_at "num"))
  | (refine' ve_lst ?ha ?hl; (case ha => walk_at "va"); (case hl => walk_at "num"))
  | (refine' ve_comp ?ha ?hb ?hr; (case ha => walk_at "vd"); (case hb => walk_at "vd"); (case hr => walk_at "vq"))
  | walk_at "vn")
local macro_rules | `(tactic| walk_at "va") => `(tactic| first | exact va_nil | (refine' va_cons ?ha ?hb; (case ha => walk_at "vd"); (case hb => walk_at "va")))
local macro_rules | `(tactic| walk_at "vt") => `(tactic| first
  | (refine' vt_comp ?ha ?hb ?hr; (case ha => walk_at "vd"); (case hb => walk_at "vd"); (case hr => walk_at "vq"))
  | (refine' vt_val ?hv; case hv => walk_at "vd"))
/-! ### _law_in -/
theorem co_inT {X : Cx} {ow : Ow} {b : Expr} {i : Int} {l : List Int} (hm : behindInMarks .In b = false) : CmpOk X ow .In b (.int i) (.tup (l.map D.int)) (.bl (decide (i ∈ l))) := ⟨_, op_in_seq, hm, .mk fun F H x y Q w r1 r2 k => by
  cases r1
  cases r2 with
  | tup g s1 =>
    have e := Rps.intsV s1
    subst e
    refine ⟨_, _, rfl, .inr (Evl.ex_t w.ex g), rfl, flat_ints l, ?_⟩
    have z : L2.inV (.int i) (l.map V.int) = decide (i ∈ l) := any_ints i l
    show Q (.bl (if false = true then !L2.inV (.int i) (l.map V.int) else L2.inV (.int i) (l.map V.int))) H
    rw [if_neg Bool.false_ne_true, z]
    exact k.here w (.bl _)⟩
abbrev sIn : Stmt := s__law_in
theorem scIn : FnScope ["s", "size", "some", "at"] ["s", "size", "some", "at"] (defScope sIn) := ⟨rfl, rfl, rfl, by decide +kernel, rfl, by decide +kernel, by decide +kernel⟩
def RIn (ds : List D) (d : D) : Prop := ∃ (ns M : List Nat) (n x : Nat), ds = [.lst (ns.map natD), natD n, .tup (M.map natD), natD x] ∧ 0 < n ∧ d = .bl (inT ns n M x)
section
variable {P : Program} {w : World} {K : PySem.W.Frag} {mg : Str → Option Value} {base : Heap}
theorem ok_lin {f : Addr} {fd : FuncData} (Fn : Fun K "_law_in" "_law_in" sIn f fd) (mN : mg "int" = none) : FnG γ P w K mg base CX0 1 f fd ["s", "size", "some", "at"] (spR K RIn) := by
  refine okR Fn scIn (fun ds d ⟨ns, M, n, x, e, _⟩ => by rw [e]; rfl) fun cdv A0 outer s H B ow ds d Q E hgd hrm hR kQ => ?_
  obtain ⟨ns, M, n, x, rfl, hn, rfl⟩ := hR
  have hu64 : A0.units + 3 + 64 < cLine := by
    have z := hrm.un
    have z2 : A0.units + 3 + 16 * 0 + 200 < cLine := z
    omega
  have e : inT ns n M x = !(decide (((x % n : Nat) : Int) ∈ M.map toI) == decide ((x : Int) ∈ ns.map toI)) := by
    have e1 : decide (((x % n : Nat) : Int) ∈ M.map toI) = decide (x % n ∈ M) := decide_eq_decide.mpr mem_toI
    have e2 : decide ((x : Int) ∈ ns.map toI) = decide (x ∈ ns) := decide_eq_decide.mpr mem_toI
    rw [e1, e2]
    rfl
  rw [e] at kQ
  refine rn_ret (ve_comp (d1 := .bl (decide (((x % n : Nat) : Int) ∈ M.map toI))) (d2 := .bl (decide ((x : Int) ∈ ns.map toI))) ?_ ?_ (co_neD hu64 rfl rfl)) kQ
  · exact ve_comp (ve_is (ve_bin (ve_ty (va_cons (ve_var (d := natD x) (i := 3) rfl rfl (by walk_at "vis")) va_nil) rfl mN boot_int to_int) (ve_var (d := natD n) (i := 1) rfl rfl (by walk_at "vis")) (bo_mod (by omega))) (by rfl : _ = D.int ((x % n : Nat) : Int))) (ve_is (ve_var (d := .tup (M.map natD)) (i := 2) rfl rfl (by walk_at "vis")) (by rw [natD_ints])) (co_inT rfl)
  · exact ve_comp (ve_var (d := natD x) (i := 3) rfl rfl (by walk_at "vis")) (ve_is (ve_var (d := .lst (ns.map natD)) (i := 0) rfl rfl (by walk_at "vis")) (by rw [natD_ints])) (co_inL rfl)
end
end K2
set_option Elab.async false
set_option linter.all false
set_option maxRecDepth 100000
set_option maxHeartbeats 4000000
namespace K2
open PySem L2 Vd
open PySem.Spec PyProof.Rows
/-! the walk over data -/
local macro_rules | `(tactic| walk_at "vis") => `(tactic| first | exact Or.inl rfl | exact Or.inr (Or.inl rfl) | exact Or.inr (Or.inr rfl))
local macro_rules | `(tactic| walk_at "none") => `(tactic| first | assumption)
local macro_rules | `(tactic| walk_at "num") => `(tactic| first | decide | omega)
local macro_rules | `(tactic| walk_at "vr") => `(tactic| first
  | exact bo_add | exact bo_sub | exact bo_mulR (by decide) | exact bo_mulL (by decide) | exact bo_mod (by walk_at "num") | exact bo_div (by walk_at "num") (by walk_at "num") | exact bo_pow (by decide) (by decide) (by decide) | exact bo_cat (by walk_at "num") | exact bo_mulR (by omega) | exact bo_mulL (by omega))
local macro_rules | `(tactic| walk_at "vq") => `(tactic| first
  | exact co_lt | exact co_le | exact co_gt | exact co_ge | exact co_eqI | exact co_neI | exact co_eqS | exact co_neS)
local macro_rules | `(tactic| walk_at "vx") => `(tactic| first
  | exact xo_own (by assumption) rfl | exact xo_lst rfl | exact xo_tup rfl)
local macro_rules | `(tactic| walk_at "vf") => `(tactic| first
  | exact fo_abs | exact fo_lenL | exact fo_lenT | exact fo_lenO (by assumption) | exact fo_divmod (by walk_at "num") (by walk_at "num") | exact fo_max rfl | exact fo_min rfl)
local macro_rules | `(tactic| walk_at "vn") => `(tactic| first
  | exact ve_var (i := 0) rfl rfl (by walk_at "vis") | exact ve_var (i := 1) rfl rfl (by walk_at "vis") | exact ve_var (i := 2) rfl rfl (by walk_at "vis") | exact ve_var (i := 3) rfl rfl (by walk_at "vis") | exact ve_var (i := 4) rfl rfl (by walk_at "vis") | exact ve_var (i := 5) rfl rfl (by walk_at "vis") | exact ve_var (i := 6) rfl rfl (by walk_at "vis") | exact ve_var (i := 7) rfl rfl (by walk_at "vis"))
local macro_rules | `(tactic| walk_at "vd") => `(tactic| first
  | exact ve_int | exact ve_bl | exact ve_non | exact ve_str
  | (refine' ve_bin ?ha ?hb ?hr; (case ha => walk_at "vd"); (case hb => walk_at "vd"); (case hr => walk_at "vr"))
  | (refine' ve_sub ?ha ?hb (fun _ _ => rfl) ?hr; (case ha => walk_at "vd"); (case hb => walk_at "vd"); (case hr => walk_at "vx"))
  | (refine' ve_ty (id := "int") ?ha rfl ?hm boot_int ?hr; (case ha => walk_at "va"); (case hm => walk_at "none"); (case hr => exact to_int))
  | (refine' ve_bi ?ha rfl ?hm ?hv ?hr; (case hv => first | exact boot_abs | exact boot_len | exact boot_divmod | exact boot_max | exact boot_min); (case ha => walk_at "va"); (case hm => walk_at "none"); (case hr => walk_at "vf"))
  | (refine' ve_tup ?ha ?hl; (case ha => walk_at "va"); (case hl => walk_at "num"))
  | (refine' ve_lst ?ha ?hl; (case ha => walk_at "va"); (case hl => walk_at "num"))
  | (refine' ve_comp ?ha ?hb ?hr; (case ha => walk_at "vd"); (case hb => walk_at "vd"); (case hr => walk_at "vq"))
  | walk_at "vn")
local macro_rules | `(tactic| walk_at "va") => `(tactic| first | exact va_nil | (refine' va_cons ?ha ?hb; (case ha => walk_at "vd"); (case hb => walk_at "va")))
local macro_rules | `(tactic| walk_at "vt") => `(tactic| first
  | (refine' vt_comp ?ha ?hb ?hr; (case ha => walk_at "vd"); (case hb => walk_at "vd"); (case hr => walk_at "vq"))
  | (refine' vt_val ?hv; case hv => walk_at "vd"))
/-! ### _law_least -/
def few (M : List Nat) (l : Nat) : List Nat := M.filter (fun x => decide (x < l))
def bad (n : Nat) (M : List Nat) (l : Nat) : List Nat := (List.range n).filter fun x => decide (x % l ∈ few M l) != decide (x ∈ M)
theorem mem_few {M : List Nat} {l x : Nat} : x ∈ few M l ↔ x ∈ M ∧ x < l := by simp [few]
theorem bad_nil {n l : Nat} {M : List Nat} (p : Per.Pat n M) (hl : 0 < l) (dv : l ∣ n) : bad n M l = [] ↔ Per.P (Per.fn n M) l := by
  have ln : l ≤ n := Nat.le_of_dvd p.pos dv
  constructor
  · intro h x
    have at_ : ∀ y, y < n → (y % l ∈ few M l ↔ y ∈ M) := fun y hy => by
      have z : ¬ y ∈ bad n M l := by rw [h]; simp
      simp only [bad, List.mem_filter, List.mem_range, hy, true_and, bne_iff_ne, ne_eq, decide_eq_decide] at z
      exact Classical.byContradiction z
    have f1 : ∀ y, Per.fn n M y = decide (y % l ∈ few M l) := fun y => by
      have z := at_ (y % n) (Nat.mod_lt _ p.pos)
      rw [Nat.mod_mod_of_dvd y dv] at z
      exact decide_eq_decide.mpr z.symm
    rw [f1, f1, Nat.add_mod_right]
  · intro h
    apply List.eq_nil_iff_forall_not_mem.mpr
    intro y hy
    simp only [bad, List.mem_filter, List.mem_range, bne_iff_ne, ne_eq, decide_eq_decide] at hy
    obtain ⟨hyn, hne⟩ := hy
    apply hne
    have z := h.mul (y / l) (y % l)
    have e : y % l + y / l * l = y := by
      have := Nat.div_add_mod y l
      rw [Nat.mul_comm] at this
      omega
    rw [e] at z
    have m1 : y % l < l := Nat.mod_lt _ hl
    have a1 : (Per.fn n M y = true) ↔ y ∈ M := by rw [Per.fn_mem, Nat.mod_eq_of_lt hyn]
    have a2 : (Per.fn n M (y % l) = true) ↔ y % l ∈ M := by rw [Per.fn_mem, Nat.mod_eq_of_lt (by omega)]
    rw [mem_few]
    constructor
    · rintro ⟨q, _⟩
      exact a1.mp (by rw [z]; exact a2.mpr q)
    · intro q
      exact ⟨a2.mp (by rw [← z]; exact a1.mpr q), m1⟩
theorem lst_dvd {n a : Nat} {M A : List Nat} (p : Per.Pat n M) (h : Per.Lst n M a A) : a ∣ n := by
  have pa : Per.P (Per.fn n M) a := by rw [← h.eq]; exact Per.fn_P
  have g := pa.gcd (Per.fn_P (n := n) (M := M))
  have gp : 0 < Nat.gcd a n := Nat.gcd_pos_of_pos_left _ h.pat.pos
  have z := h.min _ gp g
  have y := Nat.le_of_dvd h.pat.pos (Nat.gcd_dvd_left a n)
  have e : Nat.gcd a n = a := by omega
  rw [← e]
  exact Nat.gcd_dvd_right a n
theorem lst_few {n a : Nat} {M A : List Nat} (p : Per.Pat n M) (h : Per.Lst n M a A) : A = few M a := by
  have dv := lst_dvd p h
  have an : a ≤ n := Nat.le_of_dvd p.pos dv
  refine Per.asc_ext h.pat.asc (p.asc.filter _) fun x => ?_
  have e := congrFun h.eq x
  constructor
  · intro hx
    have lt := h.pat.lt x hx
    have z : Per.fn a A x = true := Per.fn_mem.mpr (by rw [Nat.mod_eq_of_lt lt]; exact hx)
    rw [e] at z
    have y := Per.fn_mem.mp z
    rw [Nat.mod_eq_of_lt (by omega)] at y
    exact mem_few.mpr ⟨y, lt⟩
  · intro hx
    obtain ⟨y, lt⟩ := mem_few.mp hx
    have z : Per.fn n M x = true := Per.fn_mem.mpr (by rw [Nat.mod_eq_of_lt (by omega)]; exact y)
    rw [← e] at z
    have w := Per.fn_mem.mp z
    rw [Nat.mod_eq_of_lt lt] at w
    exact w
end K2
set_option Elab.async false
set_option linter.all false
set_option maxRecDepth 100000
set_option maxHeartbeats 4000000
namespace K2
open PySem L2 Vd
open PySem.Spec PyProof.Rows
/-! the walk over data -/
local macro_rules | `(tactic| walk_at "vis") => `(tactic| first | exact Or.inl rfl | exact Or.inr (Or.inl rfl) | exact Or.inr (Or.inr rfl))
local macro_rules | `(tactic| walk_at "none") => `(tactic| first | assumption)
local macro_rules | `(tactic| walk_at "num") => `(tactic| first | decide | omega)
local macro_rules | `(tactic| walk_at "vr") => `(tactic| first
  | exact bo_add | exact bo_sub | exact bo_mulR (by decide) | exact bo_mulL (by decide) | exact bo_mod (by walk_at "num") | exact bo_div (by walk_at "num") (by walk_at "num") | exact bo_pow (by decide) (by decide) (by decide) | exact bo_cat (by walk_at "num") | exact bo_mulR (by omega) | exact bo_mulL (by omega))
local macro_rules | `(tactic| walk_at "vq") => `(tactic| first
  | exact co_lt | exact co_le | exact co_gt | exact co_ge | exact co_eqI | exact co_neI | exact co_eqS | exact co_neS)
local macro_rules | `(tactic| walk_at "vx") => `(tactic| first
  | exact xo_own (by assumption) rfl | exact xo_lst rfl | exact xo_tup rfl)
local macro_rules | `(tactic| walk_at "vf") => `(tactic| first
  | exact fo_abs | exact fo_lenL | exact fo_lenT | exact fo_lenO (by assumption) | exact fo_divmod (by walk_at "num") (by walk_at "num") | exact fo_max rfl | exact fo_min rfl)
local macro_rules | `(tactic| walk_at "vn") => `(tactic| first
  | exact ve_var (i := 0) rfl rfl (by walk_at "vis") | exact ve_var (i := 1) rfl rfl (by walk_at "vis") | exact ve_var (i := 2) rfl rfl (by walk_at "vis") | exact ve_var (i := 3) rfl rfl (by walk_at "vis") | exact ve_var (i := 4) rfl rfl (by walk_at "vis") | exact ve_var (i := 5) rfl rfl (by walk_at "vis") | exact ve_var (i := 6) rfl rfl (by walk_at "vis") | exact ve_var (i := 7) rfl rfl (by walk_at "vis"))
local macro_rules | `(tactic| walk_at "vd") => `(tactic| first
  | exact ve_int | exact ve_bl | exact ve_non | exact ve_str
  | (refine' ve_bin ?ha ?hb ?hr; (case ha => walk_at "vd"); (case hb => walk_at "vd"); (case hr => walk_at "vr"))
  | (refine' ve_sub ?ha ?hb (fun _ _ => rfl) ?hr; (case ha => walk_at "vd"); (case hb => walk_at "vd"); (case hr => walk_at "vx"))
  | (refine' ve_ty (id := "int") ?ha rfl ?hm boot_int ?hr; (case ha => walk_at "va"); (case hm => walk_at "none"); (case hr => exact to_int))
  | (refine' ve_bi ?ha rfl ?hm ?hv ?hr; (case hv => first | exact boot_abs | exact boot_len | exact boot_divmod | exact boot_max | exact boot_min); (case ha => walk_at "va"); (case hm => walk_at "none"); (case hr => walk_at "vf"))
  | (refine' ve_tup ?ha ?hl; (case ha => walk_at "va"); (case hl => walk_at "num"))
  | (refine' ve_lst ?ha ?hl; (case ha => walk_at "va"); (case hl => walk_at "num"))
  | (refine' ve_comp ?ha ?hb ?hr; (case ha => walk_at "vd"); (case hb => walk_at "vd"); (case hr => walk_at "vq"))
  | walk_at "vn")
local macro_rules | `(tactic| walk_at "va") => `(tactic| first | exact va_nil | (refine' va_cons ?ha ?hb; (case ha => walk_at "vd"); (case hb => walk_at "va")))
local macro_rules | `(tactic| walk_at "vt") => `(tactic| first
  | (refine' vt_comp ?ha ?hb ?hr; (case ha => walk_at "vd"); (case hb => walk_at "vd"); (case hr => walk_at "vq"))
  | (refine' vt_val ?hv; case hv => walk_at "vd"))
/-! ### _law_set -/
abbrev sSet : Stmt := s__law_set
theorem scSet : FnScope ["s", "size", "some"] ["s", "size", "some"] (defScope sSet) := ⟨rfl, rfl, rfl, by decide +kernel, rfl, by decide +kernel, by decide +kernel⟩
def RSet (C : Addr) (ds : List D) (d : D) : Prop := ∃ (ns : List Nat) (n : Nat) (M : List Nat) (a : Nat) (A : List Nat), ds = [.lst (ns.map natD), natD n, .tup (M.map natD)] ∧ ns.length ≤ 4 ∧ IniOk ns n M a A ∧ d = .ins C (tmD ns a A)
/-- the two forms in which the law makes a set -/
structure Forms (γ : Gds) (P : Program) (w : World) (K : PySem.W.Frag) (mg : Str → Option Value) (base : Heap) (C f : Addr) : Prop where
  PM : InS γ P w K mg base 4 f ["period", "marks"] (spI K C (RIni fun kd => gPM kd []))
  MP : InS γ P w K mg base 4 f ["marks", "period"] (spI K C (RIni fun kd => gMP kd []))
section
variable {P : Program} {w : World} {K : PySem.W.Frag} {mg : Str → Option Value} {base : Heap}
theorem ok_lset {f g C : Addr} {fd : FuncData} (Fn : Fun K "_law_set" "_law_set" sSet f fd) (Mk0 : Mk K C g) (Sf : Forms γ P w K mg base C g) (gl : mg "Times" = some (.ref C)) (mL : mg "len" = none) : FnG γ P w K mg base CX0 6 f fd ["s", "size", "some"] (spR K (RSet C)) := by
  refine okR Fn scSet (fun ds d ⟨ns, n, M, a, A, e, _⟩ => by rw [e]; rfl) fun cdv A0 outer s H B ow ds d Q E hgd hr5 hR kQ => ?_
  obtain ⟨ns, n, M, a, A, rfl, hl, ok, rfl⟩ := hR
  match ns, hl, ok, kQ with
  | [], _, ok, kQ =>
    refine' rn_if (t := true) ?h ?h1 (fun z => nomatch z)
    case h => exact vt_is (vt_comp (ve_is (ve_bi (va_cons (ve_var (d := .lst (([] : List Nat).map natD)) (i := 0) rfl rfl (by walk_at "vis")) va_nil) rfl mL boot_len fo_lenL) (by rfl : _ = D.int 0)) ve_int co_lt) (by decide)
    case h1 =>
    intro _ B1 e1
    refine rn_ret (ve_if (t := true) (vt_is (vt_comp (ve_is (ve_bi (va_cons (ve_var (d := .lst (([] : List Nat).map natD)) (i := 0) rfl rfl (by walk_at "vis")) va_nil) rfl mL boot_len fo_lenL) (by rfl : _ = D.int 0)) ve_int co_eqI) (by decide)) ?_ ?_) (kQ.ex e1)
    · exact fun _ => ve_mk0 Mk0 (Sf.PM) hgd hr5 rfl gl (vk_cons (ve_var (d := natD n) (i := 1) rfl rfl (by walk_at "vis")) (vk_cons (ve_var (d := .tup (M.map natD)) (i := 2) rfl rfl (by walk_at "vis")) vk_nil)) rfl ⟨([] : List Nat), n, M, a, A, rfl, by show 0 ≤ 100000; decide, rfl, ok, rfl⟩
    · exact fun z => nomatch z
  | [x0], _, ok, kQ =>
    refine' rn_if (t := true) ?h ?h1 (fun z => nomatch z)
    case h => exact vt_is (vt_comp (ve_is (ve_bi (va_cons (ve_var (d := .lst (([x0] : List Nat).map natD)) (i := 0) rfl rfl (by walk_at "vis")) va_nil) rfl mL boot_len fo_lenL) (by rfl : _ = D.int 1)) ve_int co_lt) (by decide)
    case h1 =>
    intro _ B1 e1
    refine rn_ret (ve_if (t := false) (vt_is (vt_comp (ve_is (ve_bi (va_cons (ve_var (d := .lst (([x0] : List Nat).map natD)) (i := 0) rfl rfl (by walk_at "vis")) va_nil) rfl mL boot_len fo_lenL) (by rfl : _ = D.int 1)) ve_int co_eqI) (by decide)) ?_ ?_) (kQ.ex e1)
    · exact fun z => nomatch z
    · exact fun _ => ve_mk Mk0 (Sf.PM) hgd hr5 rfl gl (va_cons (ve_sub (ve_var (d := .lst (([x0] : List Nat).map natD)) (i := 0) rfl rfl (by walk_at "vis")) ve_int (fun _ _ => rfl) (xo_lst rfl)) va_nil) (vk_cons (ve_var (d := natD n) (i := 1) rfl rfl (by walk_at "vis")) (vk_cons (ve_var (d := .tup (M.map natD)) (i := 2) rfl rfl (by walk_at "vis")) vk_nil)) rfl (by show 1 ≤ 100000; decide) ⟨([x0] : List Nat), n, M, a, A, rfl, by show 1 ≤ 100000; decide, rfl, ok, rfl⟩
  | [x0, x1], _, ok, kQ =>
    refine' rn_if (t := false) ?h (fun z => nomatch z) ?h2
    case h => exact vt_is (vt_comp (ve_is (ve_bi (va_cons (ve_var (d := .lst (([x0, x1] : List Nat).map natD)) (i := 0) rfl rfl (by walk_at "vis")) va_nil) rfl mL boot_len fo_lenL) (by rfl : _ = D.int 2)) ve_int co_lt) (by decide)
    case h2 =>
    intro _ B1 e1
    refine rn_go ?_
    refine' rn_if (t := true) ?h ?h1 (fun z => nomatch z)
    case h => exact vt_is (vt_comp (ve_is (ve_bi (va_cons (ve_var (d := .lst (([x0, x1] : List Nat).map natD)) (i := 0) rfl rfl (by walk_at "vis")) va_nil) rfl mL boot_len fo_lenL) (by rfl : _ = D.int 2)) ve_int co_eqI) (by decide)
    case h1 =>
    intro _ B2 e2
    exact rn_ret (ve_mk Mk0 (Sf.PM) hgd hr5 rfl gl (va_cons (ve_sub (ve_var (d := .lst (([x0, x1] : List Nat).map natD)) (i := 0) rfl rfl (by walk_at "vis")) ve_int (fun _ _ => rfl) (xo_lst rfl)) (va_cons (ve_sub (ve_var (d := .lst (([x0, x1] : List Nat).map natD)) (i := 0) rfl rfl (by walk_at "vis")) ve_int (fun _ _ => rfl) (xo_lst rfl)) va_nil)) (vk_cons (ve_var (d := natD n) (i := 1) rfl rfl (by walk_at "vis")) (vk_cons (ve_var (d := .tup (M.map natD)) (i := 2) rfl rfl (by walk_at "vis")) vk_nil)) rfl (by show 2 ≤ 100000; decide) ⟨([x0, x1] : List Nat), n, M, a, A, rfl, by show 2 ≤ 100000; decide, rfl, ok, rfl⟩) (kQ.ex (e1.trans e2))
  | [x0, x1, x2], _, ok, kQ =>
    refine' rn_if (t := false) ?h (fun z => nomatch z) ?h2
    case h => exact vt_is (vt_comp (ve_is (ve_bi (va_cons (ve_var (d := .lst (([x0, x1, x2] : List Nat).map natD)) (i := 0) rfl rfl (by walk_at "vis")) va_nil) rfl mL boot_len fo_lenL) (by rfl : _ = D.int 3)) ve_int co_lt) (by decide)
    case h2 =>
    intro _ B1 e1
    refine rn_go ?_
    refine' rn_if (t := false) ?h (fun z => nomatch z) ?h2
    case h => exact vt_is (vt_comp (ve_is (ve_bi (va_cons (ve_var (d := .lst (([x0, x1, x2] : List Nat).map natD)) (i := 0) rfl rfl (by walk_at "vis")) va_nil) rfl mL boot_len fo_lenL) (by rfl : _ = D.int 3)) ve_int co_eqI) (by decide)
    case h2 =>
    intro _ B2 e2
    refine rn_go ?_
    refine' rn_if (t := true) ?h ?h1 (fun z => nomatch z)
    case h => exact vt_is (vt_comp (ve_is (ve_bi (va_cons (ve_var (d := .lst (([x0, x1, x2] : List Nat).map natD)) (i := 0) rfl rfl (by walk_at "vis")) va_nil) rfl mL boot_len fo_lenL) (by rfl : _ = D.int 3)) ve_int co_eqI) (by decide)
    case h1 =>
    intro _ B3 e3
    exact rn_ret (ve_mk Mk0 (Sf.MP) hgd hr5 rfl gl (va_cons (ve_sub (ve_var (d := .lst (([x0, x1, x2] : List Nat).map natD)) (i := 0) rfl rfl (by walk_at "vis")) ve_int (fun _ _ => rfl) (xo_lst rfl)) (va_cons (ve_sub (ve_var (d := .lst (([x0, x1, x2] : List Nat).map natD)) (i := 0) rfl rfl (by walk_at "vis")) ve_int (fun _ _ => rfl) (xo_lst rfl)) (va_cons (ve_sub (ve_var (d := .lst (([x0, x1, x2] : List Nat).map natD)) (i := 0) rfl rfl (by walk_at "vis")) ve_int (fun _ _ => rfl) (xo_lst rfl)) va_nil))) (vk_cons (ve_var (d := .tup (M.map natD)) (i := 2) rfl rfl (by walk_at "vis")) (vk_cons (ve_var (d := natD n) (i := 1) rfl rfl (by walk_at "vis")) vk_nil)) rfl (by show 3 ≤ 100000; decide) ⟨([x0, x1, x2] : List Nat), n, M, a, A, rfl, by show 3 ≤ 100000; decide, rfl, ok, rfl⟩) (kQ.ex (e1.trans (e2.trans e3)))
  | [x0, x1, x2, x3], _, ok, kQ =>
    refine' rn_if (t := false) ?h (fun z => nomatch z) ?h2
    case h => exact vt_is (vt_comp (ve_is (ve_bi (va_cons (ve_var (d := .lst (([x0, x1, x2, x3] : List Nat).map natD)) (i := 0) rfl rfl (by walk_at "vis")) va_nil) rfl mL boot_len fo_lenL) (by rfl : _ = D.int 4)) ve_int co_lt) (by decide)
    case h2 =>
    intro _ B1 e1
    refine rn_go ?_
    refine' rn_if (t := false) ?h (fun z => nomatch z) ?h2
    case h => exact vt_is (vt_comp (ve_is (ve_bi (va_cons (ve_var (d := .lst (([x0, x1, x2, x3] : List Nat).map natD)) (i := 0) rfl rfl (by walk_at "vis")) va_nil) rfl mL boot_len fo_lenL) (by rfl : _ = D.int 4)) ve_int co_eqI) (by decide)
    case h2 =>
    intro _ B2 e2
    refine rn_go ?_
    refine' rn_if (t := false) ?h (fun z => nomatch z) ?h2
    case h => exact vt_is (vt_comp (ve_is (ve_bi (va_cons (ve_var (d := .lst (([x0, x1, x2, x3] : List Nat).map natD)) (i := 0) rfl rfl (by walk_at "vis")) va_nil) rfl mL boot_len fo_lenL) (by rfl : _ = D.int 4)) ve_int co_eqI) (by decide)
    case h2 =>
    intro _ B3 e3
    refine rn_go ?_
    exact rn_ret (ve_mk Mk0 (Sf.MP) hgd hr5 rfl gl (va_cons (ve_sub (ve_var (d := .lst (([x0, x1, x2, x3] : List Nat).map natD)) (i := 0) rfl rfl (by walk_at "vis")) ve_int (fun _ _ => rfl) (xo_lst rfl)) (va_cons (ve_sub (ve_var (d := .lst (([x0, x1, x2, x3] : List Nat).map natD)) (i := 0) rfl rfl (by walk_at "vis")) ve_int (fun _ _ => rfl) (xo_lst rfl)) (va_cons (ve_sub (ve_var (d := .lst (([x0, x1, x2, x3] : List Nat).map natD)) (i := 0) rfl rfl (by walk_at "vis")) ve_int (fun _ _ => rfl) (xo_lst rfl)) (va_cons (ve_sub (ve_var (d := .lst (([x0, x1, x2, x3] : List Nat).map natD)) (i := 0) rfl rfl (by walk_at "vis")) ve_int (fun _ _ => rfl) (xo_lst rfl)) va_nil)))) (vk_cons (ve_var (d := .tup (M.map natD)) (i := 2) rfl rfl (by walk_at "vis")) (vk_cons (ve_var (d := natD n) (i := 1) rfl rfl (by walk_at "vis")) vk_nil)) rfl (by show 4 ≤ 100000; decide) ⟨([x0, x1, x2, x3] : List Nat), n, M, a, A, rfl, by show 4 ≤ 100000; decide, rfl, ok, rfl⟩) (kQ.ex (e1.trans (e2.trans e3)))
  | _ :: _ :: _ :: _ :: _ :: l, h, _, _ =>
    simp at h
end
end K2
set_option Elab.async false
set_option linter.all false
set_option maxRecDepth 100000
set_option maxHeartbeats 4000000
/-! Texts made of fields; joined texts. -/
namespace Vd
open PySem L2
open PySem.Spec PyProof.Rows
section
variable {X : Cx} {env : List (Option D)} {ow : Ow} {e v1 v2 : Expr} {es rest : List Expr} {d : D} {pos p : Pos} {y : Str} {ys : List Str}
/-- {x} of a tuple -/
theorem pe_fmtT (hgd : X.A.guards = some []) (hu : X.A.units + 70 < cLine) : PE X (.FormattedValue e (-1) none pos) (fun σ H Q => WpE X e σ H fun x H1 => ∃ a ds, x = .ref a ∧ Dp X.K H1 x (.tuple ds) ∧ (PyData.tuple ds).showable = true ∧ (PyData.tuple ds).hasDict = false ∧ (PyData.tuple ds).shown.length ≤ sizeLine ∧ (PyData.tuple ds).depth ≤ 64 ∧ Q (.str (PyData.tuple ds).shown) H1) := by
  refine ⟨fun pins s σ H Q I h => wpAny_FormattedValue_plain (thn (pe_can.run pins s σ H _ I h) fun v s1 hv => ?_)⟩
  obtain ⟨x, H1, I1, r1, a, ds, ex, hd, hs, hn, hz, hdp, q⟩ := hv
  subst ex
  obtain ⟨as, rd⟩ := Dp.reads I1 _ _ _ hd r1
  obtain rfl : v = Value.ref a := r1
  exact formatField_of_reads rd hs (PyData.noDict_hsm hn) hgd (by omega) (fun _ _ e => e) (fun h' t tk hk => ⟨.str _, H1, I1.kept (t' := tk) hk, ⟨t, rfl⟩, q⟩) hz
theorem ve_fI {i : Int} (h : Ve X e env ow (.int i)) (hz : i.natAbs.log2 < 1920) : Ve X (.FormattedValue e (-1) none pos) env ow (.str (toString i)) := .mk fun σ F H Q s w k0 => wpe (pe_fmt pe_can) (h σ F H _ s w fun F1 H1 v e1 w1 r1 => by
  cases r1
  exact .inr ⟨i, rfl, hz, (k0.ex e1).here w1 (.str _)⟩)
theorem ve_fS {x : Str} (h : Ve X e env ow (.str x)) (hz : x.length ≤ 100000) : Ve X (.FormattedValue e (-1) none pos) env ow (.str x) := .mk fun σ F H Q s w k0 => wpe (pe_fmt pe_can) (h σ F H _ s w fun F1 H1 v e1 w1 r1 => by
  cases r1
  exact .inl ⟨x, rfl, Evl.sz_of hz, (k0.ex e1).here w1 (.str _)⟩)
theorem ve_fT {l : List D} (hgd : X.A.guards = some []) (hu : X.A.units + 70 < cLine) (h : Ve X e env ow (.tup l)) (ht : (D.tup l).textOk = true) : Ve X (.FormattedValue e (-1) none pos) env ow (.str (D.tup l).py.shown) := .mk fun σ F H Q s w k0 => wpe (pe_fmtT hgd hu) (h σ F H _ s w fun F1 H1 v e1 w1 r1 => by
  unfold D.textOk at ht
  simp only [Bool.and_eq_true, Bool.not_eq_true', decide_eq_true_eq] at ht
  obtain ⟨⟨⟨⟨h1, h2⟩, h3⟩, h4⟩, h5⟩ := ht
  have hd := r1.dp w1.ex h1
  have keep := r1
  cases r1 with
  | tup g _ => exact ⟨_, pyL l, rfl, hd, h2, h3, Evl.sz_of h4, h5, (k0.ex e1).here w1 (.str _)⟩)
/-- the texts of an f-string's parts -/
inductive Vj (X : Cx) (env : List (Option D)) (ow : Ow) : List Expr → List Str → Prop
  | nil : Vj X env ow [] []
  | cons {e : Expr} {y : Str} {es : List Expr} {ys : List Str} : Ve X e env ow (.str y) → Vj X env ow es ys → Vj X env ow (e :: es) (y :: ys)
def catS (acc : Str) : List Str → Str
  | [] => acc
  | y :: ys => catS (acc ++ y) ys
def lenS : List Str → Nat
  | [] => 0
  | y :: ys => y.length + lenS ys
theorem pj_all : ∀ es : List Expr, PJ X es (es.map fun e => WpE X e)
  | [] => .nil
  | _ :: es => .cons pe_can (pj_all es)
theorem vj_run {σ : L2.St} (k : Nat) : ∀ {es : List Expr} {ys : List Str}, Vj X env ow es ys → ∀ (acc : Str) (F H : Hp) (Q : Str → Hp → Prop), acc.length + lenS ys ≤ 100000 → Sl X.K F σ env → Wo X.K ow F H → (∀ F2 H2, Ex F F2 → Wo X.K ow F2 H2 → Q (catS acc ys) H2) → tJs (es.map fun e => WpE X e) acc σ H Q
  | _, _, .nil, acc, F, H, Q, _, s, w, h => h F H (Evl.Ex.refl F) w
  | _, _, .cons (y := y) (ys := ys) h r, acc, F, H, Q, hz, s, w, k0 => h σ F H _ s w fun F1 H1 v e1 w1 r1 => by
    cases r1
    have z : acc.length + (y.length + lenS ys) ≤ 100000 := hz
    have l : (acc ++ y).length = acc.length + y.length := strLen_append ..
    refine ⟨y, rfl, Evl.sz_of (by omega), vj_run k r (acc ++ y) F1 H1 Q (by omega) (s.mono e1) w1 fun F2 H2 e2 w2 => k0 F2 H2 (e1.trans e2) w2⟩
theorem ve_joined (h : Vj X env ow (v1 :: v2 :: rest) ys) (hz : lenS ys ≤ 100000) : Ve X (.JoinedStr (v1 :: v2 :: rest) pos) env ow (.str (catS Str.empty ys)) := .mk fun σ F H Q s w k0 =>
  wpe (pe_joined (pj_all _)) (vj_run 0 h Str.empty F H _ (by have : Str.empty.length = 0 := rfl; omega) s w fun F2 H2 e2 w2 => (k0.ex e2).here w2 (.str _))
theorem Rps.strs {K : PySem.W.Frag} {F : Hp} : ∀ l : List Str, Rps K F (l.map V.str) (l.map D.str)
  | [] => .nil
  | x :: l => .cons (.str x) (Rps.strs l)
/-- sep.join([..]) -/
theorem ve_join {o : Expr} {ap : Pos} {sep : Str} {l : List Str} (ho : Ve X o env ow (.str sep)) (h : Ve X e env ow (.lst (l.map D.str))) (hz : (l.map (·.length)).sum + l.length * sep.length ≤ 16777216) (hs : starEach [e] X.env = [(false, eval e X.env)] := by rfl) (hbase : attributeBase o "join" X.env (eval o X.env) = eval o X.env := by rfl) (hline : (ap.endLine == pos.line) = true := by rfl) : Ve X (.Call (.Attribute o "join" ap) [e] [] pos) env ow (.str (Txt.join sep l)) := .mk fun σ F H Q s w k0 => wpe (pe_join pe_can pe_can (hs := hs) (hbase := hbase) (hline := hline)) (ho σ F H _ s w fun F1 H1 x e1 w1 r1 => by
  cases r1
  refine ⟨⟨sep, rfl⟩, h σ F1 H1 _ (s.mono e1) w1 fun F2 H2 y e2 w2 r2 => ?_⟩
  cases r2 with
  | lst g r3 =>
    have z := r3.strsV
    subst z
    exact ⟨sep, _, l, rfl, rfl, .inl (SqL.of (w2.ex _ _ g)), hz, (k0.ex (e1.trans e2)).here w2 (.str _)⟩)
theorem to_strI {i : Int} (h : i.natAbs.log2 < 1920) : TyOk X ow "str" [.int i] (.str (toString i)) := ⟨_, call_str_int, .mk fun F H xs Q w r k => by
  cases r with
  | cons r1 r2 =>
    cases r2
    cases r1
    exact ⟨i, rfl, h, k.here w (.str _)⟩⟩
end
end Vd
set_option Elab.async false
set_option linter.all false
set_option maxRecDepth 100000
set_option maxHeartbeats 4000000
/-! A class's own ==, in, truth and text. -/
namespace Vd
open PySem L2
open PySem.Spec PyProof.Rows
/-- what of the text a class must have that isinstance looks at its objects -/
structure ClsK (K : PySem.W.Frag) (C : Addr) : Prop where
  cl : Cls K C
  ha : PySem.W.findIn K (.ref C) "__class__" = some (some (.builtin "object.__class__"))
  hn : PySem.W.specialIn K (.builtin "object.__class__") "__get__" = some (some (.builtin "getset_descriptor.__get__"))
  tk : PySem.W.takesIn K (.builtin "object.__class__") = some true
  mo : PySem.W.mroIn K C (.type "object") = some true
/-- the class of a datum -/
inductive Ty (K : PySem.W.Frag) : D → Value → Prop where
  | kind {d : D} {t : String} : d.kind = some t → Ty K d (.type t)
  | ins {C : Addr} {fl : List (Str × D)} : ClsK K C → Ty K (.ins C fl) (.ref C)
theorem Rp.tyx {K : PySem.W.Frag} {F H : Hp} {v : V} {d : D} {t : Value} (r : Rp K F v d) (e : Ex F H) (h : Ty K d t) : TyX K H v t := by
  cases h with
  | kind h => exact r.ty e h
  | ins c =>
    cases r with
    | ins g _ => exact .base (.ins (e _ _ g) c.cl c.ha c.hn c.tk c.mo)
section
variable {γ : Gds} {X : Cx} {env : List (Option D)} {ow : Ow} {e : Expr} {d d2 : D} {C f : Addr} {fl : List (Str × D)} {t : Value} {b : Bool} {fd : FuncData} {ps : List Str} {k : Nat} {R : List D → D → Prop}
/-- isinstance(x, C) -/
theorem fo_isC (ht : Ty X.K d t) (h : PySem.W.kitOne X.K t (.ref C) = some b) : BiOk X ow "isinstance" [d, .ob (.ref C)] (.bl b) := ⟨_, call_isi, .mk fun F H xs Q w r k => by
  cases r with
  | cons r1 r2 =>
    cases r2 with
    | cons r3 r4 =>
      cases r4
      cases r3
      exact ⟨_, .ref C, t, .ref C, b, rfl, .own C, r1.tyx w.ex ht, h, k.here w (.bl _)⟩⟩
theorem inst_of {pins : List (Addr × Obj)} {σ : L2.St} {H : Hp} {s : Shared} {a dx : Addr} {fs : List (Str × V)} (I : Inv X pins σ H s) (ea : H a = some (.ins C dx fs)) : ∃ ox od, PySem.W.InstAt s.heap a ox C od := by
  obtain ⟨mA, O, _⟩ := ins_get I.hok ea
  obtain ⟨od, J, _⟩ := O.look
  exact ⟨_, _, J⟩
/-- the own def is called with the object first -/
def rOwn1 (K : PySem.W.Frag) (C : Addr) (R : List D → D → Prop) (Z : V → Prop) : V → Hp → VK → Prop := fun x H Q => ∃ a dx fs, x = .ref a ∧ H a = some (.ins C dx fs) ∧ spR K R [x] H (fun v H' => Z v ∧ Q v H') E0
def rOwn2 (K : PySem.W.Frag) (C : Addr) (R : List D → D → Prop) (t : Value) (g : Bool → Bool) : R2 := fun x y H Q => ∃ a dx fs, x = .ref a ∧ H a = some (.ins C dx fs) ∧ TyX K H y t ∧ spR K R [x, y] H (fun v H' => ∃ b, v = .bl b ∧ Q (.bl (g b)) H') E0
def rOwnIn (K : PySem.W.Frag) (C : Addr) (R : List D → D → Prop) : R2 := fun x y H Q => ∃ a dx fs, y = .ref a ∧ H a = some (.ins C dx fs) ∧ spR K R [y, x] H (fun v H' => ∃ b, v = .bl b ∧ Q (.bl b) H') E0
theorem typeof_of {pins : List (Addr × Obj)} {σ : L2.St} {H : Hp} {s : Shared} {y : V} {u : Value} (I : Inv X pins σ H s) (r : RelV y u) (h : TyX X.K H y t) : PySem.W.Looks (model X.prog X.w) s.heap (typeOf u) t := by
  obtain ⟨P, Z, p, _⟩ := kit_of I r h
  exact Z.ty _ _ I.kIn p
theorem op_eqOwn (F : FnG γ X.prog X.w X.K X.mg X.base CX0 k f fd ps (spR X.K R)) (hgd : γ X.A.guards) (hr : Room k X.A) (hb : Binds X.K fd ps []) (hs : PySem.W.findIn X.K (.ref C) "__eq__" = some (some (.ref f))) (hf : PySem.W.isFn X.K (.ref f) = true) (hn : PySem.W.notFirst X.K C t = true) : OpR X (compareOp .Eq) (rOwn2 X.K C R t id) := by
  intro pins s σ H x y v u Q I rx ry h
  obtain ⟨a, dx, fs, ex, ea, ty, q⟩ := h
  subst ex
  obtain rfl : v = Value.ref a := rx
  obtain ⟨ox, od, J⟩ := inst_of I ea
  obtain ⟨m, fr⟩ := I.fr
  refine PySem.W.cmp_K (op := .Eq) (tb := t) hr.units0 fr I.ok.mod.kin J (typeof_of I ry ty) hn hs hf ?_
  refine wpAny_mono (run_fnG (us := [.ref a, u]) (vs := [.ref a, y]) F hgd hr hb .nil pass0 I (.cons rfl (.cons ry .nil)) q) (fun r s' z => ?_) fun _ _ z => z
  obtain ⟨z, H', I', rz, b, ez, q2⟩ := z
  subst ez
  obtain rfl : r = Value.bool b := rz
  exact ⟨.bl b, H', I', rfl, q2⟩
theorem op_inOwn (F : FnG γ X.prog X.w X.K X.mg X.base CX0 k f fd ps (spR X.K R)) (hgd : γ X.A.guards) (hr : Room k X.A) (hb : Binds X.K fd ps []) (hs : PySem.W.findIn X.K (.ref C) "__contains__" = some (some (.ref f))) (hf : PySem.W.isFn X.K (.ref f) = true) : OpR X (compareOp .In) (rOwnIn X.K C R) := by
  intro pins s σ H x y v u Q I rx ry h
  obtain ⟨a, dx, fs, ex, ea, q⟩ := h
  subst ex
  obtain rfl : u = Value.ref a := ry
  obtain ⟨ox, od, J⟩ := inst_of I ea
  obtain ⟨m, fr⟩ := I.fr
  refine PySem.W.in_K fr I.ok.mod.kin J hs hf ?_
  refine wpAny_mono (run_fnG (us := [.ref a, v]) (vs := [.ref a, x]) F hgd hr hb .nil pass0 I (.cons rfl (.cons rx .nil)) q) (fun r s' z => ?_) fun _ _ z => z
  obtain ⟨z, H', I', rz, b, ez, q2⟩ := z
  subst ez
  obtain rfl : r = Value.bool b := rz
  exact wpAny_truthy_bool ⟨.bl b, H', I', rfl, q2⟩
theorem call_reprOwn (F : FnG γ X.prog X.w X.K X.mg X.base CX0 k f fd ps (spR X.K R)) (hgd : γ X.A.guards) (hr : Room (k + 1) X.A) (hb : Binds X.K fd ps []) (hs : PySem.W.findIn X.K (.ref C) "__repr__" = some (some (.ref f))) (hf : PySem.W.isFn X.K (.ref f) = true) : CallR X (.builtin "repr") (fun xs H Q => ∃ x, xs = [x] ∧ rOwn1 X.K C R (fun v => ∃ y, v = .str y) x H Q) := by
  intro pins s σ H xs us Q I rx h
  obtain ⟨x, rfl, a, dx, fs, ex, ea, q⟩ := h
  subst ex
  obtain rfl := Vals.ref1 rx
  obtain ⟨ox, od, J⟩ := inst_of I ea
  obtain ⟨m, fr⟩ := I.fr
  refine PySem.W.repr_K hr.in1.units0 fr I.ok.mod.kin J hs hf ?_
  have one : (([Value.ref a] : List Value) ++ []).length = ps.length := by
    rw [← F.len _ _ _ _ q]
    rfl
  have bnd := hb s [.ref a] I.kIn one
  rw [List.append_nil] at bnd
  refine wpAny_call (codeAny_mono (F.run X.A.in1 X.stack s H ⟨[.ref a], []⟩ [.ref a] [.ref a] _ E0 hgd hr.in1 I.env0.in1 bnd (.cons rfl .nil) q) fun r s' hq => ?_)
  match r, hq with
  | .error er, hq => exact False.elim hq
  | .ok (.ret u), hq =>
    obtain ⟨v, H', I3, rv, ⟨y, ey⟩, q3⟩ := I.after hq
    subst ey
    obtain ⟨tk, ht⟩ := rv
    subst ht
    exact ⟨.str y, H', I3, ⟨tk, rfl⟩, q3⟩
  | .ok .next, hq => exact False.elim hq
  | .ok .brk, hq => exact False.elim hq
  | .ok .cont, hq => exact False.elim hq
theorem fo_reprOwn {y : Str} (F : FnG γ X.prog X.w X.K X.mg X.base CX0 k f fd ps (spR X.K R)) (hgd : γ X.A.guards) (hr : Room (k + 1) X.A) (hb : Binds X.K fd ps []) (hs : PySem.W.findIn X.K (.ref C) "__repr__" = some (some (.ref f))) (hf : PySem.W.isFn X.K (.ref f) = true) (hR : R [.ins C fl] (.str y)) : BiOk X ow "repr" [.ins C fl] (.str y) := ⟨_, call_reprOwn F hgd hr hb hs hf, .mk fun F1 H xs Q w r k0 => by
  cases r with
  | cons r1 r2 =>
    cases r2
    have keep := r1
    cases r1 with
    | @ins a C2 dx fs l g1 r3 =>
      refine ⟨_, rfl, a, dx, fs, rfl, w.ex _ _ g1, F1, ow, _, _, w, .cons keep .nil, hR, fun F2 H2 v e2 w2 r2 => ?_⟩
      have r4 := r2
      cases r2
      exact ⟨⟨y, rfl⟩, k0 F2 H2 _ e2 w2 r4⟩⟩
theorem co_eqOwn {c : Expr} (F : FnG γ X.prog X.w X.K X.mg X.base CX0 k f fd ps (spR X.K R)) (hgd : γ X.A.guards) (hr : Room k X.A) (hb : Binds X.K fd ps []) (hs : PySem.W.findIn X.K (.ref C) "__eq__" = some (some (.ref f))) (hf : PySem.W.isFn X.K (.ref f) = true) (ht : Ty X.K d2 t) (hn : PySem.W.notFirst X.K C t = true) (hR : R [.ins C fl, d2] (.bl b)) : CmpOk X ow .Eq c (.ins C fl) d2 (.bl b) := ⟨_, op_eqOwn F hgd hr hb hs hf hn, nomark _, .mk fun F1 H x y Q w r1 r2 k0 => by
  have keep := r1
  cases r1 with
  | @ins a C2 dx fs l g1 r3 =>
    refine ⟨a, dx, fs, rfl, w.ex _ _ g1, r2.tyx w.ex ht, F1, ow, _, _, w, .cons keep (.cons r2 .nil), hR, fun F2 H2 v e2 w2 r4 => ?_⟩
    have r5 := r4
    cases r4
    exact ⟨b, rfl, k0 F2 H2 _ e2 w2 r5⟩⟩
theorem co_inOwn {c : Expr} (hm : behindInMarks .In c = false) (F : FnG γ X.prog X.w X.K X.mg X.base CX0 k f fd ps (spR X.K R)) (hgd : γ X.A.guards) (hr : Room k X.A) (hb : Binds X.K fd ps []) (hs : PySem.W.findIn X.K (.ref C) "__contains__" = some (some (.ref f))) (hf : PySem.W.isFn X.K (.ref f) = true) (hR : R [.ins C fl, d] (.bl b)) : CmpOk X ow .In c d (.ins C fl) (.bl b) := ⟨_, op_inOwn F hgd hr hb hs hf, hm, .mk fun F1 H x y Q w r1 r2 k0 => by
  have keep := r2
  cases r2 with
  | @ins a C2 dx fs l g1 r3 =>
    refine ⟨a, dx, fs, rfl, w.ex _ _ g1, F1, ow, _, _, w, .cons keep (.cons r1 .nil), hR, fun F2 H2 v e2 w2 r4 => ?_⟩
    have r5 := r4
    cases r4
    exact ⟨b, rfl, k0 F2 H2 _ e2 w2 r5⟩⟩
end
end Vd
set_option Elab.async false
set_option linter.all false
set_option maxRecDepth 100000
set_option maxHeartbeats 4000000
/-! bool(x) and x != y of objects with an own truth, an own ==. -/
namespace Vd
open PySem L2
open PySem.Spec PyProof.Rows
section
variable {prog : Program} {w : World} {A : Around} {E : Value → Shared → Prop} {s : Shared}
/-- bool(x) by what the truth of x comes to -/
theorem call_truth {x : Value} {Q : Value → Shared → Prop} (h : wpAny (model prog w) A.in1.in1 (truthy x) (fun b s' => Q (.bool b) s') E s) : wpAny (model prog w) A (call (.type "bool") [x]) Q E s := by
  refine callType_codes (Q₁ := fun obj s1 => ∃ b, obj = .bool b ∧ Q (.bool b) s1) F.called_bool (F.typeCall_bool_1 x) F.entry_object_init ?_ ?_
  · refine codeAny_call_builtin F.called_bool.plain F.entry_bool_new (wpAny_of_eq (F.newCall_bool_1 x) ?_)
    obtain ⟨hp, g, d, tk, os⟩ := s
    have f1 := F.conv_sub_bool
    unfold Builtin.«bool.__new__»
    wp_step
    wp_step
    wp_step
    wp_step
    show wpAny _ _ (isSubtype _ _ >>= _) _ _ _
    refine wpAny_bind (wpAny_of_eq f1 ?_)
    rw [if_neg (by simp)]
    show wpAny _ _ (someArgs "bool" 0 1 _ >>= _) _ _ _
    refine wpAny_bind (wpAny_of_eq (a := [x]) (by rfl) ?_)
    show wpAny _ _ (truthy x >>= _) _ _ _
    refine wpAny_bind (wpAny_mono h (fun b s' q => ?_) fun _ _ z => z)
    exact wpAny_pure ⟨b, rfl, q⟩
  · rintro obj s1 ⟨b, rfl, q⟩
    refine ⟨PySem.typeIs_bool _ _, F.args_object_init_2 _ _, ?_⟩
    exact object_init_meets F.called_bool.init.lookup F.called_bool.made F.newNe_bool prog w A.in1 _ s1 ⟨PySem.typeIs_bool _ _, rfl, q⟩
end
section
variable {γ : Gds} {X : Cx} {env : List (Option D)} {ow : Ow} {e : Expr} {d d2 : D} {C f : Addr} {fl : List (Str × D)} {t : Value} {b : Bool} {fd : FuncData} {ps : List Str} {k : Nat} {R : List D → D → Prop} {l : List D} {pos : Pos}
theorem call_boolT : CallR X (.type "bool") (fun xs H Q => ∃ (a : Addr) (zs : List V), xs = [.ref a] ∧ SqT X.K H a zs ∧ Q (.bl (!zs.isEmpty)) H) := by
  intro pins s σ H xs us Q I r h
  obtain ⟨a, zs, rfl, hq, q⟩ := h
  obtain rfl := Vals.ref1 r
  obtain ⟨its, rv, pl, hz⟩ := I.tuple hq
  have hl := line63
  have hlen := rv.length
  refine call_truth (truthy_tuple pl (by simp only [List.size_toArray]; omega) ?_)
  rw [isEmpty_of rv]
  exact ⟨.bl (!zs.isEmpty), H, I.tok _, rfl, q⟩
theorem to_boolT : TyOk X ow "bool" [.tup l] (.bl (!l.isEmpty)) := ⟨_, call_boolT, .mk fun F H xs Q w r k => by
  cases r with
  | cons r1 r2 =>
    cases r2
    cases r1 with
    | @tup a zs l g s1 =>
      refine ⟨a, zs, rfl, Evl.ex_t w.ex g, ?_⟩
      have z : zs.isEmpty = l.isEmpty := by cases s1 <;> rfl
      rw [z]
      exact k.here w (.bl _)⟩
/-- the truth of an object by its own def -/
theorem truth_own {A : Around} {E : Value → Shared → Prop} {pins : List (Addr × Obj)} {σ : L2.St} {H : Hp} {s : Shared} {a dx : Addr} {fs : List (Str × V)} {Q : Bool → Hp → Prop} (I : Inv X pins σ H s) (hA : Env0 X.prog X.w X.K X.mg X.base A X.stack s H) (ea : H a = some (.ins C dx fs)) (F : FnG γ X.prog X.w X.K X.mg X.base CX0 k f fd ps (spR X.K R)) (hgd : γ A.guards) (hr : Room k A) (hb : Binds X.K fd ps [])
    (hs : PySem.W.findIn X.K (.ref C) "__bool__" = some (some (.ref f))) (hf : PySem.W.isFn X.K (.ref f) = true) (q : spR X.K R [.ref a] H (fun v H' => ∃ b, v = .bl b ∧ Q b H') E0) : wpAny (model X.prog X.w) A (truthy (.ref a)) (fun b s' => ∃ H', Inv X pins σ H' s' ∧ Q b H') E s := by
  obtain ⟨ox, od, J⟩ := inst_of I ea
  obtain ⟨m, fr⟩ := I.fr
  refine PySem.W.truthy_K fr I.ok.mod.kin J hs hf ?_
  have one : (([Value.ref a] : List Value) ++ []).length = ps.length := by
    rw [← F.len _ _ _ _ q]
    rfl
  have bnd := hb s [.ref a] I.kIn one
  rw [List.append_nil] at bnd
  refine wpAny_call (codeAny_mono (F.run A X.stack s H ⟨[.ref a], []⟩ [.ref a] [.ref a] _ E0 hgd hr hA bnd (.cons rfl .nil) q) fun r s' hq => ?_)
  match r, hq with
  | .error er, hq => exact False.elim hq
  | .ok (.ret u), hq =>
    obtain ⟨v, H', I3, rv, b, ey, q3⟩ := I.after hq
    subst ey
    obtain rfl : u = Value.bool b := rv
    exact ⟨H', I3, q3⟩
  | .ok .next, hq => exact False.elim hq
  | .ok .brk, hq => exact False.elim hq
  | .ok .cont, hq => exact False.elim hq
theorem call_boolOwn (F : FnG γ X.prog X.w X.K X.mg X.base CX0 k f fd ps (spR X.K R)) (hgd : γ X.A.guards) (hr : Room (k + 2) X.A) (hb : Binds X.K fd ps []) (hs : PySem.W.findIn X.K (.ref C) "__bool__" = some (some (.ref f))) (hf : PySem.W.isFn X.K (.ref f) = true) : CallR X (.type "bool") (fun xs H Q => ∃ a dx fs, xs = [.ref a] ∧ H a = some (.ins C dx fs) ∧ spR X.K R [.ref a] H (fun v H' => ∃ b, v = .bl b ∧ Q (.bl b) H') E0) := by
  intro pins s σ H xs us Q I rx h
  obtain ⟨a, dx, fs, rfl, ea, q⟩ := h
  obtain rfl := Vals.ref1 rx
  refine call_truth (wpAny_mono (truth_own (Q := fun b H' => Q (.bl b) H') I I.env0.in1.in1 ea F hgd hr.in1.in1 hb hs hf q) (fun b s' z => ?_) fun _ _ z => z)
  obtain ⟨H', I', q'⟩ := z
  exact ⟨.bl b, H', I', rfl, q'⟩
theorem to_boolOwn (F : FnG γ X.prog X.w X.K X.mg X.base CX0 k f fd ps (spR X.K R)) (hgd : γ X.A.guards) (hr : Room (k + 2) X.A) (hb : Binds X.K fd ps []) (hs : PySem.W.findIn X.K (.ref C) "__bool__" = some (some (.ref f))) (hf : PySem.W.isFn X.K (.ref f) = true) (hR : R [.ins C fl] (.bl b)) : TyOk X ow "bool" [.ins C fl] (.bl b) := ⟨_, call_boolOwn F hgd hr hb hs hf, .mk fun F1 H xs Q w r k0 => by
  cases r with
  | cons r1 r2 =>
    cases r2
    have keep := r1
    cases r1 with
    | @ins a C2 dx fs l g1 r3 =>
      refine ⟨a, dx, fs, rfl, w.ex _ _ g1, F1, ow, _, _, w, .cons keep .nil, hR, fun F2 H2 v e2 w2 r2 => ?_⟩
      have r4 := r2
      cases r2
      exact ⟨b, rfl, k0 F2 H2 _ e2 w2 r4⟩⟩
/-- an object in a test -/
theorem vt_own (F : FnG γ X.prog X.w X.K X.mg X.base CX0 k f fd ps (spR X.K R)) (hgd : γ X.A.guards) (hr : Room k X.A) (hb : Binds X.K fd ps []) (hs : PySem.W.findIn X.K (.ref C) "__bool__" = some (some (.ref f))) (hf : PySem.W.isFn X.K (.ref f) = true) (h : Ve X e env ow (.ins C fl)) (hR : R [.ins C fl] (.bl b)) (he : ∀ whole, isTrue e X.env whole = (do let v ← whole; standAt e.pos; holding [v] (truthy v)) := by intro _; rfl) : Vt X e env ow b := .mk fun σ F1 H Q s w k0 => by
  have p : PT X e (fun σ H Q => WpE X e σ H fun x H1 => ∃ a dx fs, x = .ref a ∧ H1 a = some (.ins C dx fs) ∧ spR X.K R [.ref a] H1 (fun v H' => ∃ b, v = .bl b ∧ Q b H') E0) := by
    refine ⟨fun pins s σ H Q I hh => ?_⟩
    rw [he]
    refine wpAny_bind (thn (pe_can.run pins s σ H _ I hh) fun u s1 ⟨x, H1, I1, rx, a, dx, fs, ex, ea, q⟩ => ?_)
    subst ex
    obtain rfl : u = Value.ref a := rx
    exact wpAny_bind (wpAny_standAt (wpAny_holding (truth_own I1 I1.env0 ea F hgd hr hb hs hf q)))
  refine wpt p (h σ F1 H _ s w fun F2 H2 v e2 w2 r2 => ?_)
  have keep := r2
  cases r2 with
  | @ins a C2 dx fs l g1 r3 =>
    refine ⟨a, dx, fs, rfl, w2.ex _ _ g1, F2, ow, _, _, w2, .cons keep .nil, hR, fun F3 H3 v e3 w3 r4 => ?_⟩
    cases r4
    exact ⟨b, rfl, k0 F3 H3 (e2.trans e3) w3⟩
end
end Vd
set_option Elab.async false
set_option linter.all false
set_option maxRecDepth 100000
set_option maxHeartbeats 4000000
/-! x != y where the class of x has an own == alone. -/
namespace Vd
open PySem L2
open PySem.Spec PyProof.Rows
section
variable {prog : Program} {w : World} {A : Around} {E : Value → Shared → Prop} {s : Shared} {K : PySem.W.Frag} {x C L f : Addr} {h₀ : Heap} {m : Str → Option Value} {ox : Obj} {od : Option Obj} {b tb : Value}
/-- what is asked: the class takes its != from object -/
structure NeOf (K : PySem.W.Frag) (C f : Addr) : Prop where
  ne : PySem.W.findIn K (.ref C) "__ne__" = some (some (.builtin "object.__ne__"))
  sub : PySem.W.subIn K (.ref C) (.type "object") = some true
  eq : PySem.W.findIn K (.ref C) "__eq__" = some (some (.ref f))
  fn : PySem.W.isFn K (.ref f) = true
theorem ne_own {Q : Value → Shared → Prop} (hu : A.units + 1 < cLine) (frm : Fr h₀ L s.heap m) (X₀ : K.In h₀) (I : PySem.W.InstAt s.heap x ox C od) (hb : PySem.W.Looks (model prog w) s.heap (typeOf b) tb) (hn : PySem.W.notFirst K C tb = true) (T : NeOf K C f)
    (h : wpAny (model prog w) A.in1 (call (.ref f) [.ref x, b]) (fun v s' => ∃ t, v = .bool t ∧ Q (.bool (!t)) s') E s) : wpAny (model prog w) A (richCompare .NotEq (.ref x) b) Q E s := by
  have X := X₀.keeps frm.keep
  have inner : wpAny (model prog w) A.in1 (Builtin.«object.__ne__» ⟨[.ref x, b], []⟩) (fun fin s' => match fin with | .done fl => (match fl with | .ret v => Q v s' ∧ v ≠ .notImplemented | _ => False) | .again _ => False) E s := by
    unfold Builtin.«object.__ne__»
    refine wpAny_bind (wpAny_of_eq (a := (.ref x, [b])) (by rfl) ?_)
    show wpAny _ _ (cRoomFor "comparison" _ >>= _) _ _ _
    refine wpAny_bind (wpAny_cRoomFor (by show A.units + 1 < cLine; exact hu) ?_)
    refine wpAny_bind (PySem.W.ifBound_K X I T.eq T.fn (wpAny_mono h (fun v s' hv => ?_) fun _ _ e => e))
    obtain ⟨t, rfl, q⟩ := hv
    show wpAny _ _ (truthy (.bool t) >>= _) _ _ _
    refine wpAny_bind (wpAny_truthy_bool ?_)
    exact wpAny_pure ⟨q, fun z => by cases z⟩
  have one : wpAny (model prog w) A (tryCompare (.ref x) (cmpInfo .NotEq).2.1 b) (fun r s' => ∃ v, r = some v ∧ Q v s') E s := by
    unfold tryCompare
    simp only [callSpecialIfBound?, bindSpecialIfBound?]
    refine wpAny_bind (wpAny_holding (wpAny_bind (wpAny_bind (wpAny_bind (I.type.here ((PySem.W.looks_findIn X T.ne).here ?_))))))
    have call1 : wpAny (model prog w) A (call (.builtin "object.__ne__") ([.ref x] ++ [b])) (fun v s' => Q v s' ∧ v ≠ .notImplemented) E s := by
      have isObj : PySem.W.Looks (model prog w) s.heap (isInstance (.ref x) (.type "object")) true := I.type.andThen (PySem.W.looks_subIn X T.sub)
      refine wpAny_call (codeAny_call_builtin PySem.F.cmp_object.ne.plain PySem.F.cmpEntry_ne (@PySem.W.check_slot (model prog w) _ _ s "object.__ne__" "object" "__ne__" (.ref x) [b] [] _ PySem.F.cmpKind_ne PySem.F.cmpSplit_ne isObj (PySem.F.cmpArgs_ne _ _) ?_))
      refine wpAny_mono inner (fun fin s' z => ?_) fun _ _ e => e
      cases fin with
      | again c => exact z.elim
      | done fl => cases fl <;> first | exact z | exact z.elim
    have fin : wpAny (model prog w) A (call (.builtin "object.__ne__") ([.ref x] ++ [b]) >>= fun v => pure (some v)) (fun r s' => wpAny (model prog w) A (match r with | some .notImplemented | none => pure none | some v => pure (some v)) (fun r s' => ∃ v, r = some v ∧ Q v s') E s') E s :=
      wpAny_bind (wpAny_mono call1 (fun v s' hv => wpAny_pure (by
        obtain ⟨q, ne⟩ := hv
        cases v <;> first | exact absurd rfl ne | exact wpAny_pure ⟨_, rfl, q⟩)) fun _ _ e => e)
    refine wpAny_bind (wpAny_askSetting (wpAny_ite ?_))
    split
    · refine wpAny_bind ((PySem.W.Looks.of_pure (PySem.F.cmp_object.ne.bind (.ref x))).here (wpAny_pure ?_))
      exact fin
    · refine wpAny_tryCatch ?_
      refine wpAny_bind ((PySem.W.Looks.of_pure (PySem.F.cmp_object.ne.bind (.ref x))).here (wpAny_pure ?_))
      exact fin
  unfold richCompare
  rw [oneThing_ref]
  refine wpAny_holding (wpAny_bind (wpAny_cRoomFor (Nat.lt_of_succ_lt hu) ?_))
  refine wpAny_bind (I.type.here ?_)
  refine wpAny_bind (hb.here ?_)
  by_cases q : (Value.ref C != tb) = true
  · have e : PySem.W.subIn K tb (.ref C) = some false := (Bool.or_eq_true_iff.mp hn).elim (fun z => by
      rw [beq_iff_eq.mp z] at q
      simp at q) fun z => beq_iff_eq.mp z
    dsimp only
    rw [if_pos q]
    refine wpAny_bind ((PySem.W.looks_subIn X e).here ?_)
    rw [if_neg Bool.false_ne_true]
    refine wpAny_bind (wpAny_mono one (fun r s' z => ?_) fun _ _ y => y)
    obtain ⟨v, rfl, q2⟩ := z
    exact wpAny_pure q2
  · dsimp only
    rw [if_neg q]
    refine wpAny_bind (wpAny_pure ?_)
    rw [if_neg Bool.false_ne_true]
    refine wpAny_bind (wpAny_mono one (fun r s' z => ?_) fun _ _ y => y)
    obtain ⟨v, rfl, q2⟩ := z
    exact wpAny_pure q2
end
section
variable {γ : Gds} {X : Cx} {ow : Ow} {c : Expr} {d2 : D} {C f : Addr} {fl : List (Str × D)} {t : Value} {b : Bool} {fd : FuncData} {ps : List Str} {k : Nat} {R : List D → D → Prop}
theorem op_neOwn (F : FnG γ X.prog X.w X.K X.mg X.base CX0 k f fd ps (spR X.K R)) (hgd : γ X.A.guards) (hr : Room (k + 1) X.A) (hb : Binds X.K fd ps []) (T : NeOf X.K C f) (hn : PySem.W.notFirst X.K C t = true) : OpR X (compareOp .NotEq) (rOwn2 X.K C R t not) := by
  intro pins s σ H x y v u Q I rx ry h
  obtain ⟨a, dx, fs, ex, ea, ty, q⟩ := h
  subst ex
  obtain rfl : v = Value.ref a := rx
  obtain ⟨ox, od, J⟩ := inst_of I ea
  obtain ⟨m, fr⟩ := I.fr
  refine ne_own (tb := t) (by have := hr.units; omega) fr I.ok.mod.kin J (typeof_of I ry ty) hn T ?_
  have two : (([Value.ref a, u] : List Value) ++ []).length = ps.length := by
    rw [← F.len _ _ _ _ q]
    rfl
  have bnd := hb s [.ref a, u] I.kIn two
  rw [List.append_nil] at bnd
  refine wpAny_call (codeAny_mono (F.run X.A.in1 X.stack s H ⟨[.ref a, u], []⟩ [.ref a, u] [.ref a, y] _ E0 hgd hr.in1 I.env0.in1 bnd (.cons rfl (.cons ry .nil)) q) fun r s' hq => ?_)
  match r, hq with
  | .error er, hq => exact False.elim hq
  | .ok (.ret w), hq =>
    obtain ⟨v, H', I3, rv, b, ey, q3⟩ := I.after hq
    subst ey
    obtain rfl : w = Value.bool b := rv
    exact ⟨b, rfl, .bl (!b), H', I3, rfl, q3⟩
  | .ok .next, hq => exact False.elim hq
  | .ok .brk, hq => exact False.elim hq
  | .ok .cont, hq => exact False.elim hq
theorem co_neOwn (F : FnG γ X.prog X.w X.K X.mg X.base CX0 k f fd ps (spR X.K R)) (hgd : γ X.A.guards) (hr : Room (k + 1) X.A) (hb : Binds X.K fd ps []) (T : NeOf X.K C f) (ht : Ty X.K d2 t) (hn : PySem.W.notFirst X.K C t = true) (hR : R [.ins C fl, d2] (.bl b)) : CmpOk X ow .NotEq c (.ins C fl) d2 (.bl (!b)) := ⟨_, op_neOwn F hgd hr hb T hn, nomark _, .mk fun F1 H x y Q w r1 r2 k0 => by
  have keep := r1
  cases r1 with
  | @ins a C2 dx fs l g1 r3 =>
    refine ⟨a, dx, fs, rfl, w.ex _ _ g1, r2.tyx w.ex ht, F1, ow, _, _, w, .cons keep (.cons r2 .nil), hR, fun F2 H2 v e2 w2 r4 => ?_⟩
    cases r4
    exact ⟨b, rfl, k0 F2 H2 _ e2 w2 (.bl _)⟩⟩
end
end Vd
set_option Elab.async false
set_option linter.all false
set_option maxRecDepth 100000
set_option maxHeartbeats 4000000
/-! Generators: if and for in a generator's body. -/
namespace Vd
open PySem L2
open PySem.Spec PyProof.Rows GenW
section
variable {prog : Program} {w : World} {A : Around} {R : GenEnd} {Y : Protocol} {n : Nat} {s₀ : Shared} {fs : List Frame} {s : Shared} {env : Env}
/-- one turn of a for: what comes, its store, the body -/
theorem segForTurn {tg : Expr} {itv : Value} {body : List Stmt}
    (h : wpAny (model prog w) (A.over (.forLoop tg itv body [] env) fs) (pyNext itv) (fun r s1 => match r with
        | none => Seg (model prog w) A R Y n s₀ (.forLoop tg itv body [] env) (.pure (.again (.block [] env))) fs s1
        | some v => wpAny (model prog w) (A.over (.forLoop tg itv body [] env) fs) (letOwnedTupleGo tg itv v) (fun _ s2 => wpAny (model prog w) (A.over (.forLoop tg itv body [] env) fs) (assign tg env v) (fun _ s3 =>
            Seg (model prog w) A R Y n s₀ (.forLoop tg itv body [] env) ((execs body env).wrap (fun f => match f with
              | .next => .pure (.again (.forLoop tg itv body [] env))
              | .cont => .pure (.again (.forLoop tg itv body [] env))
              | .brk => .pure (.done .next)
              | .ret v => .pure (.done (.ret v))) (fun e => (do noteFrame e env; theTreesLotGoes e : Sem Unit).wrap (fun _ => .raise e) .raise id id) id id) fs s3)
              (fun x s' => Seg (model prog w) A R Y n s₀ (.forLoop tg itv body [] env) ((do noteFrame x env; theTreesLotGoes x : Sem Unit).wrap (fun _ => .raise x) .raise id id) fs s') s2)
            (fun x s' => Seg (model prog w) A R Y n s₀ (.forLoop tg itv body [] env) ((do noteFrame x env; theTreesLotGoes x : Sem Unit).wrap (fun _ => .raise x) .raise id id) fs s') s1)
        (fun x s' => Seg (model prog w) A R Y n s₀ (.forLoop tg itv body [] env) ((do noteFrame x env; theTreesLotGoes x : Sem Unit).wrap (fun _ => .raise x) .raise id id) fs s') s) :
    Seg (model prog w) A R Y n s₀ (.forLoop tg itv body [] env) ((model prog w).den (.forLoop tg itv body [] env)) fs s := by
  show Seg _ A R Y n s₀ _ ((forTurn tg itv body [] env).onRaise (fun x => do noteFrame x env; theTreesLotGoes x)) fs s
  unfold forTurn
  rw [Sem.onRaise_eq_wrap]
  refine seg_bind_wrap (wpAny_standAt ?_)
  refine seg_bind_wrap (wpAny_onRaise (wpAny_mono h (fun r s1 h1 => ?_) fun x s' hx => wpAny_standAt ?_))
  · cases r with
    | none => exact h1
    | some v =>
      refine seg_bind_wrap (wpAny_mono h1 (fun _ s2 h2 => ?_) fun x s' hx => ?_)
      · refine seg_bind_wrap (wpAny_mono h2 (fun _ s3 h3 => ?_) fun x s' hx => ?_)
        · rw [Sem.bind_eq_wrap', Sem.wrap_wrap]
          rw [Sem.wrap_congr (execs body env) _ _ (K' := fun f => match f with
              | .next => .pure (.again (.forLoop tg itv body [] env))
              | .cont => .pure (.again (.forLoop tg itv body [] env))
              | .brk => .pure (.done .next)
              | .ret v => .pure (.done (.ret v))) (H' := (fun e => (do noteFrame e env; theTreesLotGoes e : Sem Unit).wrap (fun _ => .raise e) .raise id id)) (fun f => by cases f <;> rfl) (fun e => by first | exact Sem.bind_eq_wrap _ _ | rfl | (show (do noteFrame e env; theTreesLotGoes e : Sem Unit).bind (fun _ => .raise e) = _; rw [Sem.bind_eq_wrap]))]
          exact h3
        · first | exact hx | (rw [← Sem.bind_eq_wrap] at hx; exact hx)
      · first | exact hx | (rw [← Sem.bind_eq_wrap] at hx; exact hx)
  · first | exact hx | (rw [← Sem.bind_eq_wrap] at hx; exact hx)
end
section
variable {X : Cx}
/-! ### if -/
def tGIf (tc : TT) (t1 t2 : TGn) : TGn := fun D ys σ H => tc σ H fun b H1 => if b = true then t1 D ys σ H1 else t2 D ys σ H1
theorem gs_if {cnd : Expr} {s1 s2 : List Stmt} {pos : Pos} {tc : TT} {t1 t2 : TGn} (hc : PT X cnd tc) (h1 : GSs X s1 t1) (h2 : GSs X s2 t2) : GS X (.If cnd s1 s2 pos) (tGIf tc t1 t2) := by
  refine ⟨fun A S ip R n ys s₀ cc fs K J gd lv s σ H D g hn k hI ht => ?_⟩
  obtain ⟨acc, ac, r, I⟩ := hI
  show Seg _ A R _ n s₀ cc (.at pos fun _ => (isTrue cnd X.env (eval cnd X.env) >>= fun b => if b = true then execs s1 X.env else execs s2 X.env).wrap K J gd lv) fs s
  refine seg_at (seg_bind_wrap ?_)
  rw [g.over]
  refine wpAny_mono (hc.run _ s σ H _ I ht) (fun b s' hb => ?_) fun x s' hx => k.exc n s₀ x s' hx
  obtain ⟨H1, I1, q⟩ := hb
  cases b with
  | true =>
    rw [if_pos rfl] at q ⊢
    exact h1.run A S ip R n ys s₀ cc fs K J gd lv s' σ H1 D g hn k ⟨acc, ac, r, I1⟩ q
  | false =>
    rw [if_neg Bool.false_ne_true] at q ⊢
    exact h2.run A S ip R n ys s₀ cc fs K J gd lv s' σ H1 D g hn k ⟨acc, ac, r, I1⟩ q
/-! ### for -/
def tGFor (wi : TI) (g : TG) (tb : TGn) : TGn := fun D ys σ H => wi σ H fun Jt H1 => ∃ W : Nat → Nat → List V → L2.St → Hp → Prop, (∃ m, W 0 m ys σ H1) ∧ ∀ i m ys σ H, W i m ys σ H →
  (Jt.stop i H ∧ D.nx ys σ H) ∨ (Jt.go i H ∧ ∃ N : List V → L2.St → Hp → Prop, (∀ ys' σ' H', N ys' σ' H' → ∃ m', m' < m ∧ W (i + 1) m' ys' σ' H') ∧ ∀ x H', Jt.yld i H x H' → g x σ H' fun σ2 H2 => tb { D with nx := N, ct := N, bk := D.nx } ys σ2 H2)
theorem gs_for {tg iter : Expr} {body : List Stmt} {pos : Pos} {wi : TI} {g : TG} {tb : TGn} (hp : PassesOwn (model X.prog X.w) X.A X.env X.xe) (hc : X.calm = true) (hi : PI X tg iter wi) (hg : PG X tg g) (hb : GSs X body tb)
    (hs : ∀ x, foldedSetIterable iter X.env x = pure x := by intro _; rfl) : GS X (.For tg iter body [] pos) (tGFor wi g tb) := by
  refine ⟨fun A S ip R n ys₀ s₀ c fs K J gd lv s σ H D gc hn k hI ht => ?_⟩
  obtain ⟨acc, cc, r, I⟩ := hI
  show Seg _ A R _ n s₀ c (.at pos fun _ => (eval iter X.env >>= fun v => foldedSetIterable iter X.env v >>= fun x => standAt iter.pos >>= fun _ => holding [x] (pyIter x) >>= fun itv => runOwn (.forLoop tg itv body [] X.env) X.env).wrap K J gd lv) fs s
  refine seg_at (seg_bind_wrap ?_)
  rw [gc.over]
  refine wpAny_mono (hi.run _ s σ H _ I ht) (fun v s1 h1 => ?_) fun x s' hx => k.exc n s₀ x s' hx
  refine seg_bind_wrap (wpAny_of_eq (hs v) ?_)
  refine seg_bind_wrap (wpAny_standAt ?_)
  refine seg_bind_wrap (wpAny_holding ?_)
  rw [gc.over]
  refine wpAny_mono h1 (fun itv s2 h2 => ?_) fun x s' hx => k.exc n s₀ x s' hx
  obtain ⟨it, fp, tn, Jt, H2, e, I2, T, st2, f2, W, ⟨m0, w0⟩, turn⟩ := h2
  subst e
  refine seg_call fun p => ?_
  have apart : ∀ b ∈ fp, b ≠ S := fun b hb z => (f2 b hb).2.2.2.2.2 (S, lstObj acc cc) (List.mem_append_right _ List.mem_cons_self) z.symm
  have stat : ∀ {ac : Array Value} {cz : Nat} {H' : Hp}, (∀ b ∈ fp, H' b = none) → ∀ b ∈ fp, FpOk X ((S, lstObj ac cz) :: ip) H' b := fun {ac cz H'} hz b hb => by
    obtain ⟨_, a2, a3, a4, a5, a6⟩ := f2 b hb
    refine ⟨hz b hb, a2, a3, a4, a5, fun q hq => ?_⟩
    rcases List.mem_append.mp hq with hq | hq
    · exact a6 q (List.mem_append_left _ hq)
    · rcases List.mem_cons.mp hq with hq | hq
      · rw [hq]
        exact fun z => apart b hb z.symm
      · exact a6 q (List.mem_append_right _ (List.mem_cons_of_mem _ hq))
  have gl := fun (kk : Result → Sem PySem.Fin) (more : List (Addr × Obj)) (hm : ∀ q ∈ more, q.1 ≠ S) => gc_loop (k := kk) (c' := .forLoop tg (.ref it) body [] X.env) (l := lv []) (kp := []) (p := p) (ip := ip ++ more) { gc with ip := fun q hq => (List.mem_append.mp hq).elim (gc.ip q) (hm q) } rfl rfl
  have over0 : ∀ kk : Result → Sem PySem.Fin, A.over (.forLoop tg (.ref it) body [] X.env) (.ret kk none (gd false) (lv []) c p [] :: fs) = X.A := fun kk => (gl kk [] (fun q hq => (by cases hq))).over
  have loop : ∀ (m n : Nat) (ys : List V) (s₀ s : Shared) (σ : L2.St) (H : Hp) (i : Nat), n + ys.length = sizeLine → W i m ys σ H → GI X S ip ys σ H s → tn i s.heap → (∀ b ∈ fp, H b = none) →
      Seg (model X.prog X.w) A R (GY X S) n s₀ (.forLoop tg (.ref it) body [] X.env) ((model X.prog X.w).den (.forLoop tg (.ref it) body [] X.env))
        (.ret (fun r => ((match r with | .ok f => (.pure f : Sem Flow) | .error e => .raise e).onRaise (cameBack X.env)).wrap K J gd lv) none (gd false) (lv []) c p [] :: fs) s := by
    intro m
    induction m using Nat.strongRecOn with
    | ind m ih =>
      intro n ys s₀ s σ H i hn w hI st fr
      have out : ∀ (n : Nat) (s₀ : Shared) (x : Value) (s' : Shared), X.xe x s' → Seg (model X.prog X.w) A R (GY X S) n s₀ (.forLoop tg (.ref it) body [] X.env) ((do noteFrame x X.env; theTreesLotGoes x : Sem Unit).wrap (fun _ => .raise x) .raise id id)
          (.ret (fun r => ((match r with | .ok f => (.pure f : Sem Flow) | .error e => .raise e).onRaise (cameBack X.env)).wrap K J gd lv) none (gd false) (lv []) c p [] :: fs) s' := fun n s₀ x s' hx => by
        refine seg_wrap ?_
        rw [over0]
        refine wpAny_bind (wpAny_mono (hp x s' hx) (fun _ s'' y => wpAny_theTreesLotGoes (seg_leaf (.error x) (seg_cameBack gc k y))) fun z s'' y => seg_leaf (.error z) (seg_cameBack gc k y))
      refine segForTurn ?_
      rw [over0]
      obtain ⟨acc, ac, r, I⟩ := hI
      rcases turn i m ys σ H w with ⟨stop, qn⟩ | ⟨go, N, hN, step⟩
      · refine wpAny_mono (T.done X rfl rfl rfl hc i _ s σ H X.xe I (stat fr) st stop) (fun o s1 ⟨ho, I1⟩ => ?_) fun x s' hx => out n s₀ x s' hx
        subst ho
        refine seg_again rfl ?_
        exact seg_leaf (.ok .next) (k.ok n ys s₀ s1 .next hn ⟨σ, H, ⟨acc, ac, r, I1⟩, qn⟩)
      · refine wpAny_mono (T.item X rfl rfl rfl hc i _ s σ H X.xe I (stat fr) st go) (fun o s1 ⟨u, ho, h4⟩ => ?_) fun x s' hx => out n s₀ x s' hx
        subst ho
        refine wpAny_mono h4 (fun _ s2 ⟨x, H5, I5, r5, y5, st5, fr5⟩ => ?_) fun x s' hx => out n s₀ x s' hx
        have I5' := I5.pinned (stat fr5) (T.obj _ _ st5)
        refine wpAny_mono (hg.run _ s2 σ H5 x u _ I5' r5 (step x H5 y5)) (fun _ s3 ⟨σ6, H6, I6, q6⟩ => ?_) fun x s' hx => out n s₀ x s' hx
        have hmore : ∀ q ∈ pinsAt fp s2.heap, q.1 ≠ S := fun q hq => apart _ (of_pinsAt hq).1
        refine hb.run A S (ip ++ pinsAt fp s2.heap) R n ys s₀ _ _ _ _ id id s3 σ6 H6 { D with nx := N, ct := N, bk := D.nx } (gl _ _ hmore) hn ⟨fun n' ys' s₀' s4 f hn' hs => ?_, fun n' s₀' x s4 hx => out n' s₀' x s4 hx⟩ ⟨acc, ac, r, I6⟩ q6
        have again : ∀ {σ7 : L2.St} {H7 : Hp}, GI X S (ip ++ pinsAt fp s2.heap) ys' σ7 H7 s4 → N ys' σ7 H7 → Seg (model X.prog X.w) A R (GY X S) n' s₀' (.forLoop tg (.ref it) body [] X.env) (.pure (.again (.forLoop tg (.ref it) body [] X.env)))
          (.ret (fun r => ((match r with | .ok f => (.pure f : Sem Flow) | .error e => .raise e).onRaise (cameBack X.env)).wrap K J gd lv) none (gd false) (lv []) c p [] :: fs) s4 := fun {σ7 H7} G7 n7 => by
          obtain ⟨m', hm, w7⟩ := hN ys' σ7 H7 n7
          obtain ⟨acc', ac', r', I7⟩ := G7
          have pin7 : ∀ b o, b ∈ fp → s2.heap.get? b = some o → (b, o) ∈ X.pn ++ ((S, lstObj acc' ac') :: (ip ++ pinsAt fp s2.heap)) := fun b o hb e => List.mem_append_right _ (List.mem_cons_of_mem _ (List.mem_append_right _ (mem_pinsAt hb e)))
          refine seg_again rfl (ih m' hm n' ys' s₀' s4 σ7 H7 (i + 1) hn' w7 ⟨acc', ac', r', Inv.unpinned (pins := (S, lstObj acc' ac') :: ip) I7⟩ (T.keep _ _ _ st5 fun b hb o e => (I7.pin (b, o) (pin7 b o hb e)).1) fun b hb => ?_)
          obtain ⟨o, e, _⟩ := T.obj _ _ st5 b hb
          exact (I7.pin (b, o) (pin7 b o hb e)).2.1
        cases f with
        | next =>
          obtain ⟨σ7, H7, G7, n7⟩ := hs
          exact again G7 n7
        | cont =>
          obtain ⟨σ7, H7, G7, n7⟩ := hs
          exact again G7 n7
        | brk =>
          obtain ⟨σ7, H7, ⟨acc', ac', r', I7⟩, n7⟩ := hs
          exact seg_leaf (.ok .next) (k.ok n' ys' s₀' s4 .next hn' ⟨σ7, H7, ⟨acc', ac', r', Inv.unpinned (pins := (S, lstObj acc' ac') :: ip) I7⟩, n7⟩)
        | ret v =>
          obtain ⟨x7, σ7, H7, ⟨acc', ac', r', I7⟩, rv, n7⟩ := hs
          exact seg_leaf (.ok (.ret v)) (k.ok n' ys' s₀' s4 (.ret v) hn' ⟨x7, σ7, H7, ⟨acc', ac', r', Inv.unpinned (pins := (S, lstObj acc' ac') :: ip) I7⟩, rv, n7⟩)
  exact loop m0 n ys₀ s₀ s2 σ H2 0 hn w0 ⟨acc, cc, r, I2⟩ st2 fun b hb => (f2 b hb).1
end
end Vd
set_option Elab.async false
set_option linter.all false
set_option maxRecDepth 100000
set_option maxHeartbeats 4000000
/-! Generators that hand out integers, told by data. -/
namespace Vd
open PySem L2
open PySem.Spec PyProof.Rows GenW
def WpG (X : Cx) (ss : List Stmt) : TGn := fun D ys σ H => ∀ (A : Around) (S : Addr) (ip : List (Addr × Obj)) (R : GenEnd) (n : Nat) (s₀ : Shared) (c : Code) (fs : List Frame) (K : Flow → Sem PySem.Fin) (J : Value → Sem PySem.Fin) (gd : Bool → Bool) (lv : List Value → List Value) (s : Shared),
  GC X S ip A c fs gd → n + ys.length = sizeLine → GK X S ip A R c fs K J D → GI X S ip ys σ H s → Seg (model X.prog X.w) A R (GY X S) n s₀ c ((execs ss X.env).wrap K J gd lv) fs s
theorem gss_can {X : Cx} {ss : List Stmt} : GSs X ss (WpG X ss) := ⟨fun A S ip R n ys s₀ c fs K J gd lv s σ H D g hn k hI ht => ht A S ip R n s₀ c fs K J gd lv s g hn k hI⟩
theorem wpg {X : Cx} {ss : List Stmt} {t : TGn} (p : GSs X ss t) {D : GEnds} {ys : List V} {σ : L2.St} {H : Hp} (h : t D ys σ H) : WpG X ss D ys σ H := fun A S ip R n s₀ c fs K J gd lv s g hn k hI => p.run A S ip R n ys s₀ c fs K J gd lv s σ H D g hn k hI h
/-- a block of a generator; out: what is handed out so far -/
structure Rg (X : Cx) (B : Hp) (ss : List Stmt) (Dn : GEnds) (env : List (Option D)) (ow : Ow) (out : List Int) : Prop where
  run : ∀ (σ : L2.St) (F H : Hp), Ex B F → Sl X.K F σ env → Wo X.K ow F H → WpG X ss Dn (out.map V.int) σ H
section
variable {X : Cx} {B : Hp} {env : List (Option D)} {ow : Ow} {c e tg it : Expr} {d : D} {ds : List D} {pos yp : Pos} {Dn : GEnds} {rest s1 s2 : List Stmt} {out : List Int}
def GThen (X : Cx) (rest : List Stmt) (Dn : GEnds) : GEnds := { Dn with nx := fun ys σ H => WpG X rest Dn ys σ H }
theorem rg_one {st : Stmt} {t : TGn} (p : GS X st t) (h : ∀ (σ : L2.St) (F H : Hp), Ex B F → Sl X.K F σ env → Wo X.K ow F H → t (GThen X rest Dn) (out.map V.int) σ H) : Rg X B (st :: rest) Dn env ow out := .mk fun σ F H eB s w => wpg (gss_cons p gss_can) (h σ F H eB s w)
theorem rg_go (h : Rg X B rest Dn env ow out) : Rg X B [] (GThen X rest Dn) env ow out := .mk fun σ F H eB s w => wpg gss_nil (h.run σ F H eB s w)
theorem rg_set {x : Str} {p : Pos} {i : Nat} (hN : X.N.Nodup) (hi : X.N[i]? = some x) (hx : Loc X.env.scope x) (h : Ve X e env ow d) (k : ∀ B', Ex B B' → Rg X B' rest Dn (env.set i (some d)) ow out) (hs : swapsWith e (some (.Name x p)) pos.line X.env = pure false := by rfl) (hf : X.fn x = true ∨ X.env.scope.names.lookup x = some .local := by first | exact .inl rfl | exact .inr rfl | assumption) : Rg X B (.Assign [.Name x p] e pos :: rest) Dn env ow out :=
  rg_one (gs_ps (ps_set hN hi hx pe_can hs hf)) fun σ F H eB s w => h σ F H _ s w fun F1 H1 v e1 w1 r1 => (k F1 (eB.trans e1)).run _ F1 H1 (Evl.Ex.refl F1) ((s.mono e1).set r1 i) w1
theorem rg_if {t : Bool} (h : Vt X c env ow t) (h1 : t = true → ∀ B', Ex B B' → Rg X B' s1 (GThen X rest Dn) env ow out) (h2 : t = false → ∀ B', Ex B B' → Rg X B' s2 (GThen X rest Dn) env ow out) : Rg X B (.If c s1 s2 pos :: rest) Dn env ow out :=
  rg_one (gs_if pt_can gss_can gss_can) fun σ F H eB s w => h σ F H _ s w fun F1 H1 e1 w1 => by
    cases t with
    | true =>
      rw [if_pos rfl]
      exact (h1 rfl F1 (eB.trans e1)).run σ F1 H1 (Evl.Ex.refl F1) (s.mono e1) w1
    | false =>
      rw [if_neg Bool.false_ne_true]
      exact (h2 rfl F1 (eB.trans e1)).run σ F1 H1 (Evl.Ex.refl F1) (s.mono e1) w1
theorem rg_yield {i : Int} (h : Ve X e env ow (.int i)) (hz : out.length < 100000) (k : ∀ B', Ex B B' → Rg X B' rest Dn env ow (out ++ [i])) (hco : X.env.scope.isCoroutine = false := by rfl) (hi : interactive X.env = false := by rfl) : Rg X B (.Expr (.Yield (some e) yp) pos :: rest) Dn env ow out :=
  rg_one (gs_yield pe_can hco hi) fun σ F H eB s w => ⟨by rw [List.length_map]; exact Evl.sz_lt hz, h σ F H _ s w fun F1 H1 v e1 w1 r1 => by
    cases r1
    have z := (k F1 (eB.trans e1)).run σ F1 H1 (Evl.Ex.refl F1) (s.mono e1) w1
    rw [List.map_append] at z
    exact z⟩
theorem rg_ret0 (k : ∀ (F H : Hp), Ex B F → Wo X.K ow F H → Dn.rt (out.map V.int) .non H) : Rg X B (.Return none pos :: rest) Dn env ow out := rg_one (gs_ps ps_retN) fun σ F H eB s w => k F H eB w
/-- behind a turn -/
def GNx (K : PySem.W.Frag) (B : Hp) (I : List (Option D) → Ow → List Int → Prop) : List V → L2.St → Hp → Prop := fun ys σ H => ∃ out F env ow, ys = out.map V.int ∧ Ex B F ∧ Sl K F σ env ∧ Wo K ow F H ∧ I env ow out
def GTurn (X : Cx) (B : Hp) (rest : List Stmt) (Dn : GEnds) (I : List (Option D) → Ow → List Int → Prop) : GEnds := { nx := GNx X.K B I, ct := GNx X.K B I, bk := fun ys σ H => WpG X rest Dn ys σ H, rt := Dn.rt }
theorem rg_next {B2 : Hp} {I : List (Option D) → Ow → List Int → Prop} (h : I env ow out) (e : Ex B B2) : Rg X B2 [] (GTurn X B rest Dn I) env ow out := .mk fun σ F H eB s w => wpg gss_nil ⟨out, F, env, ow, rfl, e.trans eB, s, w, h⟩
theorem rg_for {g : TG} {f : D → List (Option D) → List (Option D)} {body : List Stmt} (I : Nat → List (Option D) → Ow → List Int → Prop) (hp : PassesOwn (model X.prog X.w) X.A X.env X.xe) (hc : X.calm = true) (hi : Vi X tg it env ow ds) (hg : PG X tg g) (hgd : ∀ ow d, d ∈ ds → Gd X.K ow g d (f d)) (h0 : I 0 env ow out)
    (hs : ∀ B' i d env' ow' out', Ex B B' → ds[i]? = some d → I i env' ow' out' → Rg X B' body (GTurn X B' rest Dn (I (i + 1))) (f d env') ow' out') (hd : ∀ B' env' ow' out', Ex B B' → I ds.length env' ow' out' → Rg X B' rest Dn env' ow' out')
    (hfs : ∀ x, foldedSetIterable it X.env x = pure x := by intro _; rfl) : Rg X B (.For tg it body [] pos :: rest) Dn env ow out := by
  obtain ⟨wi, pi, hw⟩ := hi
  refine rg_one (gs_for hp hc pi hg gss_can hfs) fun σ F H eB s w => hw σ F H _ s w fun Jt F1 H1 e1 w1 src => ?_
  refine ⟨fun i m ys σ H => m = ds.length - i ∧ i ≤ ds.length ∧ GNx X.K F1 (I i) ys σ H, ⟨ds.length, by simp, Nat.zero_le _, out, F1, env, ow, rfl, Evl.Ex.refl F1, s.mono e1, w1, h0⟩, ?_⟩
  rintro i m ys σ' H' ⟨rfl, hi, out', F', env', ow', rfl, eF, s', w', hI⟩
  obtain ⟨stop, go⟩ := src F' H' ow' i eF w'
  by_cases hlt : i < ds.length
  · obtain ⟨hgo, hy⟩ := go ds[i] (by simp [hlt])
    refine .inr ⟨hgo, GNx X.K F1 (I (i + 1)), fun ys2 σ2 H2 q => ⟨ds.length - (i + 1), by omega, rfl, hlt, q⟩, fun x H2 hx => ?_⟩
    obtain ⟨F2, e2, w2, r2⟩ := hy x H2 hx
    refine hgd ow' ds[i] (List.getElem_mem hlt) env' σ' F2 H2 x _ (s'.mono e2) w2 r2 fun σ2 s2 => ?_
    exact (hs F1 i ds[i] env' ow' out' (eB.trans e1) (by simp [hlt]) hI).run σ2 F2 H2 (eF.trans e2) s2 w2
  · have e : i = ds.length := by omega
    subst e
    exact .inl ⟨stop (Nat.le_refl _), (hd F1 env' ow' out' (eB.trans e1) hI).run σ' F' H' eF s' w'⟩
end
/-- what a generator def promises: all that it hands out, if it is asked to the end -/
def spGen (K : PySem.W.Frag) (G : List D → Prop) (R : List D → List Int → Prop) : SpG := fun vs H Q _ => ∃ F ow ds, Wo K ow F H ∧ Rps K F vs ds ∧ G ds ∧ ∀ F2 H2 out, Ex F F2 → Wo K ow F2 H2 → R ds out → Q (out.map V.int) H2
section
variable {P : Program} {w : World} {K : PySem.W.Frag} {mg : Str → Option Value} {base : Heap}
def Cxg (P : Program) (w : World) (K : PySem.W.Frag) (mg : Str → Option Value) (base : Heap) (N : List Str) (qual : Str) (st : Stmt) (f : Addr) (cdv : Value) (A : Around) (outer : List Env) (s : Shared) (H : Hp) (E : XK) (pn : List (Addr × Obj)) : Cx := gcxOf P w K mg base N qual (defScope st) f cdv A outer s H E pn
theorem okGen {x qual : Str} {st : Stmt} {f : Addr} {fd : FuncData} {N ps : List Str} {k : Nat} {G : List D → Prop} {R : List D → List Int → Prop} (Fn : Fun K x qual st f fd) (S : GScope N ps (defScope st)) (len : ∀ ds, G ds → ds.length = ps.length)
    (body : ∀ (cdv : Value) (A : Around) (outer : List Env) (s : Shared) (H B : Hp) (ow : Ow) (ds : List D) (E : XK) (pn : List (Addr × Obj)) (Q : List V → Hp → Prop), Room k (A.deeper (envOfC qual (defScope st) s.heap.objs.size f cdv)) → G ds → (∀ F2 H2 out, Ex B F2 → Wo K ow F2 H2 → R ds out → Q (out.map V.int) H2) →
      Rg (gcxOf P w K mg base N qual (defScope st) f cdv A outer s H E pn) B (defBody st) { nx := fun ys _ H' => Q ys H', rt := fun ys v H' => v = .non ∧ Q ys H' } (env0 N ds) ow []) : GFn P w K mg base (k + 1) f fd ps (spGen K G R) := by
  obtain ⟨oc, od, kV, doc, pm, an, cdv, ct, osl, rfl, lk, hcd⟩ := Fn.ex
  refine gfn_of lk hcd S (fun vs H Q E ⟨F, ow, ds, _, r, hG, _⟩ => by rw [r.length]; exact len ds hG) fun A outer s H vs Q E pn hr ⟨F, ow, ds, w0, r, hG, q⟩ => ⟨_, gss_can, ?_⟩
  exact (body cdv A outer s H F ow ds E pn Q hr hG q).run _ F H (Evl.Ex.refl F) (Sl.start r) w0
end
section
variable {X : Cx} {env : List (Option D)} {ow : Ow} {o e : Expr} {es : List Expr} {ds : List D} {p pos pos2 apos kpos : Pos} {C g : Addr} {fl : List (Str × D)} {m nm kn : Str} {fd : FuncData} {ps : List Str} {k : Nat} {G : List D → Prop} {R : List D → List Int → Prop} {out : List Int} {d : D}
theorem noStop0 {K : PySem.W.Frag} : NoStop K E0 := fun _ _ _ h => h.elim
theorem passG0 {X : Cx} : Passes (CX X.prog X.w) X E0 := fun pins σ H s e s' I hc => by
  obtain ⟨_, _, _, _, _, _, _, _, _, _, _, _, w⟩ := hc
  exact w.elim
/-- o.m(k = e) of a generator method -/
theorem pgen_methK {sp : SpG} {ta : TE} {pl : Sem Bool} {tk : TA} {E : XK} (he : PE X o ta) (c : Cls X.K C) (hm : Meth X.K C m g) (F : GFn X.prog X.w X.K X.mg X.base k g fd ps sp) (hr : Room k X.A) (hb : ∀ (s : Shared) (x : Addr) (u : Value), X.K.In s.heap → BindsTo s fd ⟨[.ref x], [(kn, u)]⟩ (ps.zip [.ref x, u])) (hk : PK X [⟨some kn, e, kpos⟩] tk)
    (hall : (backToKw pos2 (keywordEach [⟨some kn, e, kpos⟩] X.env)).all (·.1.isSome) = true := by rfl) (hks : (backToKw pos2 (keywordEach [⟨some kn, e, kpos⟩] X.env)).filterMap (·.1) = [kn] := by rfl)
    (hpl : ((backTo pos2 (starEach [] X.env)).any (·.1) || (backToKw pos2 (keywordEach [⟨some kn, e, kpos⟩] X.env)).any (·.1.isNone)) = false := by rfl)
    (ht : eval (.Call (.Attribute o m apos) [] [⟨some kn, e, kpos⟩] pos2) X.env = (do let ov ← eval o X.env; standAt apos.atName; let (fn, first) ← holding [ov] (getMethod ov m pl); callWith pos2 fn first (backTo pos2 (starEach [] X.env)) (backToKw pos2 (keywordEach [⟨some kn, e, kpos⟩] X.env))) := by rfl) :
    PGen X k (.Call (.Attribute o m apos) [] [⟨some kn, e, kpos⟩] pos2) (fun σ H cont => ta σ H fun x H1 => ∃ a dx fs, x = .ref a ∧ H1 a = some (.ins C dx fs) ∧ fs.lookup m = none ∧ tk σ H1 fun vs H2 => vs.length = 1 ∧ sp (x :: vs) H2 cont E) E := by
  refine ⟨fun pins s σ H cont I h => PySem.W.methodCall_KW (pl := pl) (thn (he.run pins s σ H _ I h) fun u s1 ⟨x, H1, I1, rx, a, dx, fs, ex, ea, l, q⟩ => ?_) ht⟩
  subst ex
  obtain rfl : u = Value.ref a := rx
  refine getmeth_ok I1 ea c hm l (PySem.W.callWith_KW0 (first := [.ref a]) (h₀ := X.base) I.ok.mod.kin hm.kp hall (thn (hk.run pos2 pins s1 σ H1 _ I1 q) fun us s2 ⟨vs, H2, I2, r, hv, q2⟩ => ⟨I2.kIn, ?_⟩) hpl)
  rw [hks]
  obtain ⟨v, rfl⟩ : ∃ v, vs = [v] := by
    match vs, hv with
    | [v], _ => exact ⟨v, rfl⟩
  obtain ⟨u, rfl, r1⟩ := vals1 r
  refine wpAny_call (codeAny_mono (F.run X.A X.stack s2 H2 ⟨[.ref a], [(kn, u)]⟩ [.ref a, u] [.ref a, v] cont E hr I2.env0 (hb s2 a u I2.kIn) (.cons rfl (.cons r1 .nil)) q2) fun r s' hq => ?_)
  cases r with
  | error e => exact False.elim hq
  | ok fl =>
    cases fl with
    | ret u => exact ⟨H2, s2, [], I2, .nil, hq⟩
    | next => exact False.elim hq
    | brk => exact False.elim hq
    | cont => exact False.elim hq
/-- list(o.m(e, ..)) -/
theorem ve_listG {pl : Sem Bool} (c : Cls X.K C) (hm : Meth X.K C m g) (F : GFn X.prog X.w X.K X.mg X.base k g fd ps (spGen X.K G R)) (hr : Room (k + 3) X.A) (hb : Binds X.K fd ps []) (ho : Ve X o env ow (.ins C fl)) (hn : fl.lookup m = none) (ha : Va X (e :: es) env ow ds) (hG : G (.ins C fl :: ds)) (hU : ∀ o2, R (.ins C fl :: ds) o2 → o2 = out)
    (hg : Gl X nm) (hmg : X.mg nm = none) (hv : bootBuiltins nm = some (.type "list")) (hnm : nm ≠ "__name__" := by decide) (hdb : (nm == ("__debug__" : Str)) = false := by decide)
    (hst : starEach (e :: es) X.env = (false, eval e X.env) :: starEach es X.env := by rfl) (hpl : (backTo pos2 (starEach es X.env)).any (·.1) = false := by rfl)
    (ht : eval (.Call (.Attribute o m apos) (e :: es) [] pos2) X.env = (do let ov ← eval o X.env; standAt apos.atName; let (fn, first) ← holding [ov] (getMethod ov m pl); callWith pos2 fn first (backTo pos2 (starEach (e :: es) X.env)) (backToKw pos2 (keywordEach [] X.env))) := by rfl)
    (he : starEach [.Call (.Attribute o m apos) (e :: es) [] pos2] X.env = (false, eval (.Call (.Attribute o m apos) (e :: es) [] pos2) X.env) :: starEach [] X.env := by rfl) :
    Ve X (.Call (.Name nm p) [.Call (.Attribute o m apos) (e :: es) [] pos2] [] pos) env ow (.lst (out.map D.int)) := .mk fun σ F0 H Q s w k0 => wpe (pe_listG (pgen_meth pe_can c hm F (hr.mono (by omega)) hb .nil pa_can hst hpl ht) passG0 noStop0 hr hg hmg hv hnm hdb he) (ho σ F0 H _ s w fun F1 H1 v e1 w1 r1 => by
  have keep := r1
  cases r1 with
  | @ins a C2 dx fs l g1 r2 =>
    refine ⟨a, dx, fs, rfl, w1.ex _ _ g1, r2.none hn, ha σ F1 H1 _ (s.mono e1) w1 fun F2 H2 vs e2 w2 r3 => ?_⟩
    rw [List.append_nil]
    refine ⟨F2, ow, _, w2, .cons (keep.mono e2) r3, hG, fun F3 H3 o2 e3 w3 hR q hq => ?_⟩
    obtain rfl := hU o2 hR
    exact (k0.ex (e1.trans (e2.trans e3))).new w3 hq (.lst upd_same (Rps.ints _))) 
/-- list(o.m(k = e)) -/
theorem ve_listGK {pl : Sem Bool} (c : Cls X.K C) (hm : Meth X.K C m g) (F : GFn X.prog X.w X.K X.mg X.base k g fd ps (spGen X.K G R)) (hr : Room (k + 3) X.A) (hb : ∀ (s : Shared) (x : Addr) (u : Value), X.K.In s.heap → BindsTo s fd ⟨[.ref x], [(kn, u)]⟩ (ps.zip [.ref x, u])) (ho : Ve X o env ow (.ins C fl)) (hn : fl.lookup m = none) (hk : Vk X [⟨some kn, e, kpos⟩] env ow [d]) (hG : G [.ins C fl, d]) (hU : ∀ o2, R [.ins C fl, d] o2 → o2 = out)
    (hg : Gl X nm) (hmg : X.mg nm = none) (hv : bootBuiltins nm = some (.type "list")) (hnm : nm ≠ "__name__" := by decide) (hdb : (nm == ("__debug__" : Str)) = false := by decide)
    (hall : (backToKw pos2 (keywordEach [⟨some kn, e, kpos⟩] X.env)).all (·.1.isSome) = true := by rfl) (hks : (backToKw pos2 (keywordEach [⟨some kn, e, kpos⟩] X.env)).filterMap (·.1) = [kn] := by rfl)
    (hpl : ((backTo pos2 (starEach [] X.env)).any (·.1) || (backToKw pos2 (keywordEach [⟨some kn, e, kpos⟩] X.env)).any (·.1.isNone)) = false := by rfl)
    (ht : eval (.Call (.Attribute o m apos) [] [⟨some kn, e, kpos⟩] pos2) X.env = (do let ov ← eval o X.env; standAt apos.atName; let (fn, first) ← holding [ov] (getMethod ov m pl); callWith pos2 fn first (backTo pos2 (starEach [] X.env)) (backToKw pos2 (keywordEach [⟨some kn, e, kpos⟩] X.env))) := by rfl)
    (he : starEach [.Call (.Attribute o m apos) [] [⟨some kn, e, kpos⟩] pos2] X.env = (false, eval (.Call (.Attribute o m apos) [] [⟨some kn, e, kpos⟩] pos2) X.env) :: starEach [] X.env := by rfl) :
    Ve X (.Call (.Name nm p) [.Call (.Attribute o m apos) [] [⟨some kn, e, kpos⟩] pos2] [] pos) env ow (.lst (out.map D.int)) := .mk fun σ F0 H Q s w k0 => by
  obtain ⟨tk, pk, qk⟩ := hk
  refine wpe (pe_listG (pgen_methK pe_can c hm F (hr.mono (by omega)) hb pk hall hks hpl ht) passG0 noStop0 hr hg hmg hv hnm hdb he) (ho σ F0 H _ s w fun F1 H1 v e1 w1 r1 => ?_)
  have keep := r1
  cases r1 with
  | @ins a C2 dx fs l g1 r2 =>
    refine ⟨a, dx, fs, rfl, w1.ex _ _ g1, r2.none hn, qk σ F1 H1 _ (s.mono e1) w1 fun F2 H2 vs e2 w2 r3 => ?_⟩
    refine ⟨by rw [r3.length]; rfl, F2, ow, _, w2, .cons (keep.mono e2) r3, hG, fun F3 H3 o2 e3 w3 hR q hq => ?_⟩
    obtain rfl := hU o2 hR
    exact (k0.ex (e1.trans (e2.trans e3))).new w3 hq (.lst upd_same (Rps.ints _))
end
end Vd
set_option Elab.async false
set_option linter.all false
set_option maxRecDepth 100000
set_option maxHeartbeats 4000000
/-! name = [.. for name in .. if ..] in one row, what is owned left alone. -/
namespace Vd
open PySem L2
open PySem.Spec PyProof.Rows
section
variable {X : Cx} {B : Hp} {env : List (Option D)} {ow : Ow} {it elt : Expr} {ds : List D} {pos spos : Pos} {Dn : Ends} {rest : List Stmt} {ifs : List Expr}
abbrev ltts (X : Cx) (scope : Scope) (ifs : List Expr) : TT := fun σ H Q => ∀ (s : Shared) (H0 : Hp) (C : Addr) (cl : List (Str × Addr)) (fp : List Addr), WpTs (X.blk s H0 scope (compEnvC scope cl C X.env) fp) ifs σ H Q
theorem lc_read {scope : Scope} {j : Nat} {wi : TI} (kp : D → Bool) (f : D → D)
    (hw : ∀ (σ : L2.St) (F H : Hp) (R : It → Hp → Prop), Sl X.K F σ env → Wo X.K ow F H → (∀ J F1 H1, Ex F F1 → Wo X.K ow F1 H1 → Src X.K J F1 ds → R J H1) → wi σ H R) (hl : ds.length ≤ 100000)
    (ht : ∀ d ow', d ∈ ds → Sub ow ow' → ∀ (s : Shared) (H : Hp) (C : Addr) (cl : List (Str × Addr)) (fp : List Addr), Vts (X.blk s H scope (compEnvC scope cl C X.env) fp) ifs ((env.set j none).set j (some d)) ow' (kp d))
    (he : ∀ d ow', d ∈ ds → kp d = true → Sub ow ow' → ∀ (s : Shared) (H : Hp) (C : Addr) (cl : List (Str × Addr)) (fp : List Addr), Ve (X.blk s H scope (compEnvC scope cl C X.env) fp) elt ((env.set j none).set j (some d)) ow' (f d))
    (σ : L2.St) (F H : Hp) (Q : VK) (s : Sl X.K F σ env) (w : Wo X.K ow F H) (k0 : Post X.K ow F (.lst ((ds.filter kp).map f)) Q) : tLc wi (gName j) (ltts X scope ifs) (lte X scope elt) [j] σ H Q := by
  refine hw σ F H _ s w fun J F1 H1 e1 w1 src => ?_
  intro Dl hD
  refine ⟨fun i m H => m = ds.length - i ∧ i ≤ ds.length ∧ ∃ F2 xs, Ex F1 F2 ∧ Wo X.K ow F2 H ∧ F2 Dl = none ∧ ow Dl = none ∧ H Dl = some (.lst xs) ∧ Rps X.K F2 xs (((ds.take i).filter kp).map f), ⟨ds.length, by simp, Nat.zero_le _, F1, [], Evl.Ex.refl F1, w1.grow hD, w1.free hD, w1.ofree hD, upd_same, .nil⟩, ?_⟩
  rintro i m H2 ⟨rfl, hi, F2, xs, e2, w2, hF2, hoD, hH2, r2⟩
  obtain ⟨stop, go⟩ := src F2 H2 ow i e2 w2
  by_cases hlt : i < ds.length
  · have hdi : ds[i]? = some ds[i] := by simp [hlt]
    have htk : ds.take (i + 1) = ds.take i ++ [ds[i]] := by rw [List.take_add_one, hdi]; rfl
    obtain ⟨hgo, hy⟩ := go ds[i] hdi
    refine .inr ⟨hgo, fun H3 => ∃ F3 xs, Ex F1 F3 ∧ Wo X.K ow F3 H3 ∧ F3 Dl = none ∧ ow Dl = none ∧ H3 Dl = some (.lst xs) ∧ Rps X.K F3 xs (((ds.take (i + 1)).filter kp).map f), fun H3 q => ⟨ds.length - (i + 1), by omega, rfl, hlt, q⟩, fun x H3 hx => ?_⟩
    -- the new list's place is owned meanwhile
    have w2' : Wo X.K (ou ow Dl (.lst (((ds.take i).filter kp).map f))) F2 H2 := ⟨w2.ex, fun a o q => by
      by_cases z : a = Dl
      · subst z
        rw [ou_same] at q
        cases q
        exact ⟨hF2, xs, hH2, r2⟩
      · rw [ou_ne z] at q
        exact w2.own a o q⟩
    obtain ⟨stop', go'⟩ := src F2 H2 _ i e2 w2'
    obtain ⟨_, hy'⟩ := go' ds[i] hdi
    obtain ⟨F3, e3, w3', r3⟩ := hy' x H3 hx
    have sub : ∀ a o, ow a = some o → ou ow Dl (.lst (((ds.take i).filter kp).map f)) a = some o := fun a o q => by
      rw [ou_ne (fun z => by rw [z, hoD] at q; cases q)]
      exact q
    have sl : Sl X.K F3 ((L2.wipe σ [j]).set j (some x)) ((env.set j none).set j (some ds[i])) := (((s.mono (e1.trans (e2.trans e3))).unset j).set r3 j)
    refine ⟨wipe_one, fun s0 H0 C cl fp => ?_⟩
    have hmem : ds[i] ∈ ds := List.getElem_mem hlt
    obtain ⟨tt, ptt, qtt⟩ := ht ds[i] _ hmem sub s0 H0 C cl fp
    intro pins s' I
    refine ptt.run pins s' _ H3 _ I (qtt _ F3 H3 _ sl w3' fun F4 H4 e4 w4 => ?_)
    cases hk : kp ds[i] with
    | true =>
      rw [if_pos rfl]
      intro s1 H01 C1 cl1 fp1
      refine he ds[i] _ hmem hk sub s1 H01 C1 cl1 fp1 _ F4 H4 _ (sl.mono e4) w4 fun F5 H5 y e5 w5 r5 => ?_
      obtain ⟨n5, ys, h5, s5⟩ := w5.own Dl _ ou_same
      refine ⟨ys, h5, ?_, F5, ys ++ [y], e2.trans (e3.trans (e4.trans e5)), ?_, n5, hoD, upd_same, ?_⟩
      · have z := s5.length
        have y1 : (((ds.take i).filter kp).map f).length ≤ i := by
          rw [List.length_map]
          exact Nat.le_trans (List.length_filter_le _ _) (by rw [List.length_take]; omega)
        exact Evl.sz_lt (by omega)
      · exact (w5.setL ou_same (s5.append (.cons r5 .nil))).drop fun a o q => by
          rw [ou_ne (fun z => by rw [z, hoD] at q; cases q)]
          exact sub a o q
      · rw [htk, List.filter_append, List.map_append]
        have y2 : ([ds[i]].filter kp).map f = [f ds[i]] := by simp [hk]
        rw [y2]
        exact s5.append (.cons r5 .nil)
    | false =>
      rw [if_neg Bool.false_ne_true]
      obtain ⟨n5, ys, h5, s5⟩ := w4.own Dl _ ou_same
      refine ⟨F4, ys, e2.trans (e3.trans e4), w4.drop sub, n5, hoD, h5, ?_⟩
      rw [htk, List.filter_append, List.map_append]
      have y2 : ([ds[i]].filter kp).map f = [] := by simp [hk]
      rw [y2, List.append_nil]
      exact s5
  · have e : i = ds.length := by omega
    subst e
    refine .inl ⟨stop (Nat.le_refl _), ?_⟩
    rw [List.take_length] at r2
    exact k0 (upd F2 Dl (.lst xs)) H2 _ ((e1.trans e2).trans (Evl.Ex.new hF2)) (w2.freeze hF2 hH2 hoD) (.lst upd_same (r2.mono (Evl.Ex.new hF2)))
/-- name = [elt for y in it if ..] in one row -/
theorem rn_setLc {scope : Scope} {j i : Nat} {y x : Str} {py px : Pos} (kp : D → Bool) (f : D → D) (hc : X.calm = true) (hN : X.N.Nodup) (hx : X.N[i]? = some x) (hxl : X.env.scope.names.lookup x = some .local) (hsw : swapsWith (.ListComp elt [⟨.Name y py, it, ifs, 0⟩] scope pos) (some (.Name x px)) spos.line X.env = pure true)
    (hi : Vi X (.Name y py) it env ow ds) (ok : BlkOk X.N X.env.scope scope [(y, j)]) (hl : ds.length ≤ 100000)
    (hg : ∀ (s : Shared) (H : Hp) (C : Addr) (cl : List (Str × Addr)) (fp : List Addr), PG (X.blk s H scope (compEnvC scope cl C X.env) fp) (.Name y py) (gName j))
    (ht : ∀ d ow', d ∈ ds → Sub ow ow' → ∀ (s : Shared) (H : Hp) (C : Addr) (cl : List (Str × Addr)) (fp : List Addr), Vts (X.blk s H scope (compEnvC scope cl C X.env) fp) ifs ((env.set j none).set j (some d)) ow' (kp d))
    (he : ∀ d ow', d ∈ ds → kp d = true → Sub ow ow' → ∀ (s : Shared) (H : Hp) (C : Addr) (cl : List (Str × Addr)) (fp : List Addr), Ve (X.blk s H scope (compEnvC scope cl C X.env) fp) elt ((env.set j none).set j (some d)) ow' (f d))
    (k : ∀ B', Ex B B' → Rn X B' rest Dn (env.set i (some (.lst ((ds.filter kp).map f)))) ow)
    (hsf : ∀ x, foldedSetIterable it X.env x = pure x := by intro _; rfl) : Rn X B (.Assign [.Name x px] (.ListComp elt [⟨.Name y py, it, ifs, 0⟩] scope pos) spos :: rest) Dn env ow := rn_one (by
  obtain ⟨wi, pi, hw⟩ := hi
  refine ⟨_, ps_setLc (own := [(y, j)]) (g := gName j) (tt := ltts X scope ifs) (te := lte X scope elt) hc hN hx hxl hsw pi ok hg (fun s0 H0 C cl fp => ⟨fun pins s σ H Q I h => h s0 H0 C cl fp pins s I⟩) (fun s0 H0 C cl fp => ⟨fun pins s σ H Q I h => h s0 H0 C cl fp pins s I⟩) hsf, fun σ F H eB s w => ?_⟩
  exact lc_read kp f hw hl ht he σ F H _ s w fun F1 H1 v e1 w1 r1 => k F1 (eB.trans e1) _ F1 H1 (Evl.Ex.refl F1) ((s.mono e1).set r1 i) w1)
end
end Vd
set_option Elab.async false
set_option linter.all false
set_option maxRecDepth 100000
set_option maxHeartbeats 4000000
namespace K2
open PySem L2 Vd
open PySem.Spec PyProof.Rows
/-! the walk over data -/
local macro_rules | `(tactic| walk_at "vis") => `(tactic| first | exact Or.inl rfl | exact Or.inr (Or.inl rfl) | exact Or.inr (Or.inr rfl))
local macro_rules | `(tactic| walk_at "none") => `(tactic| first | assumption)
local macro_rules | `(tactic| walk_at "num") => `(tactic| first | decide | omega)
local macro_rules | `(tactic| walk_at "vr") => `(tactic| first
  | exact bo_add | exact bo_sub | exact bo_mulR (by decide) | exact bo_mulL (by decide) | exact bo_mod (by walk_at "num") | exact bo_div (by walk_at "num") (by walk_at "num") | exact bo_pow (by decide) (by decide) (by decide) | exact bo_cat (by walk_at "num") | exact bo_mulR (by omega) | exact bo_mulL (by omega))
local macro_rules | `(tactic| walk_at "vq") => `(tactic| first
  | exact co_lt | exact co_le | exact co_gt | exact co_ge | exact co_eqI | exact co_neI | exact co_eqS | exact co_neS)
local macro_rules | `(tactic| walk_at "vx") => `(tactic| first
  | exact xo_own (by assumption) rfl | exact xo_lst rfl | exact xo_tup rfl)
local macro_rules | `(tactic| walk_at "vf") => `(tactic| first
  | exact fo_abs | exact fo_lenL | exact fo_lenT | exact fo_lenO (by assumption) | exact fo_divmod (by walk_at "num") (by walk_at "num") | exact fo_max rfl | exact fo_min rfl)
local macro_rules | `(tactic| walk_at "vn") => `(tactic| first
  | exact ve_var (i := 0) rfl rfl (by walk_at "vis") | exact ve_var (i := 1) rfl rfl (by walk_at "vis") | exact ve_var (i := 2) rfl rfl (by walk_at "vis") | exact ve_var (i := 3) rfl rfl (by walk_at "vis") | exact ve_var (i := 4) rfl rfl (by walk_at "vis") | exact ve_var (i := 5) rfl rfl (by walk_at "vis") | exact ve_var (i := 6) rfl rfl (by walk_at "vis") | exact ve_var (i := 7) rfl rfl (by walk_at "vis"))
local macro_rules | `(tactic| walk_at "vd") => `(tactic| first
  | exact ve_int | exact ve_bl | exact ve_non | exact ve_str
  | (refine' ve_bin ?ha ?hb ?hr; (case ha => walk_at "vd"); (case hb => walk_at "vd"); (case hr => walk_at "vr"))
  | (refine' ve_sub ?ha ?hb (fun _ _ => rfl) ?hr; (case ha => walk_at "vd"); (case hb => walk_at "vd"); (case hr => walk_at "vx"))
  | (refine' ve_ty (id := "int") ?ha rfl ?hm boot_int ?hr; (case ha => walk_at "va"); (case hm => walk_at "none"); (case hr => exact to_int))
  | (refine' ve_bi ?ha rfl ?hm ?hv ?hr; (case hv => first | exact boot_abs | exact boot_len | exact boot_divmod | exact boot_max | exact boot_min); (case ha => walk_at "va"); (case hm => walk_at "none"); (case hr => walk_at "vf"))
  | (refine' ve_tup ?ha ?hl; (case ha => walk_at "va"); (case hl => walk_at "num"))
  | (refine' ve_lst ?ha ?hl; (case ha => walk_at "va"); (case hl => walk_at "num"))
  | (refine' ve_comp ?ha ?hb ?hr; (case ha => walk_at "vd"); (case hb => walk_at "vd"); (case hr => walk_at "vq"))
  | walk_at "vn")
local macro_rules | `(tactic| walk_at "va") => `(tactic| first | exact va_nil | (refine' va_cons ?ha ?hb; (case ha => walk_at "vd"); (case hb => walk_at "va")))
local macro_rules | `(tactic| walk_at "vt") => `(tactic| first
  | (refine' vt_comp ?ha ?hb ?hr; (case ha => walk_at "vd"); (case hb => walk_at "vd"); (case hr => walk_at "vq"))
  | (refine' vt_val ?hv; case hv => walk_at "vd"))
/-! ### ==, truth, text -/
theorem toI_tup (a : Nat) (A : List Nat) : (D.tup [natD a, .tup (A.map natD)]).eqOk = true := by
  unfold D.eqOk SeqAt.shaped
  rw [natD_ints]
  have z := depth_ints (A.map toI)
  have y := lay_ints (A.map toI)
  simp only [D.plain, plainL, plainL_ints, D.py, pyL, pyL_ints, PyData.canLay0, PyData.canLayAll0, y, PyData.depth, PyData.depthAll, Bool.true_and, Bool.and_true, decide_eq_true_eq]
  omega
theorem eqv_tup (a b : Nat) (A B : List Nat) : PyData.eqv (D.tup [natD a, .tup (A.map natD)]).py (D.tup [natD b, .tup (B.map natD)]).py = (decide (a = b) && decide (A = B)) := by
  rw [natD_ints, natD_ints]
  simp only [D.py, pyL, pyL_ints, PyData.eqv, PyData.eqvAll, eqvAll_ints, Bool.and_true]
  have e1 : ((a : Int) == (b : Int)) = decide (a = b) := by
    by_cases h : a = b
    · simp [h]
    · have : ¬ (a : Int) = (b : Int) := by omega
      simp [h, this]
  rw [e1, decide_eq_decide.mpr ints_inj]
abbrev sEq : Stmt := s_Times___eq__
theorem scEq : FnScope ["self", "other"] ["self", "other"] (defScope sEq) := ⟨rfl, rfl, rfl, by decide +kernel, rfl, by decide +kernel, by decide +kernel⟩
def REq (C : Addr) (ds : List D) (d : D) : Prop := ∃ (ns : List Nat) (a : Nat) (A : List Nat), (∃ v, ds = [.ins C (tmD ns a A), v] ∧ v.kind.isSome = true ∧ d = .bl false) ∨ (∃ (ms : List Nat) (b : Nat) (B : List Nat), ds = [.ins C (tmD ns a A), .ins C (tmD ms b B)] ∧ d = .bl (decide (a = b ∧ A = B ∧ ns = ms)))
/-- what isinstance says of the class -/
structure IsC (K : PySem.W.Frag) (C : Addr) : Prop where
  own : PySem.W.kitOne K (.ref C) (.ref C) = some true
  no : ∀ t ∈ ["NoneType", "bool", "int", "str", "list", "tuple", "dict"], PySem.W.kitOne K (.type t) (.ref C) = some false
theorem kind_mem : ∀ {v : D} {t : String}, v.kind = some t → t ∈ ["NoneType", "bool", "int", "str", "list", "tuple", "dict"] := by
  intro v t h
  cases v <;> simp [D.kind] at h <;> subst h <;> decide
section
variable {γ : Gds} {P : Program} {w : World} {K : PySem.W.Frag} {mg : Str → Option Value} {base : Heap}
theorem ok_eq {f C : Addr} {fd : FuncData} (Fn : Fun K "__eq__" "Times.__eq__" sEq f fd) (c : ClsK K C) (n1 : NoAttr K C "_numbers") (n2 : NoAttr K C "_pattern") (T : IsC K C) (gl : mg "Times" = some (.ref C)) (mI : mg "isinstance" = none) : FnG γ P w K mg base CX0 1 f fd ["self", "other"] (spR K (REq C)) := by
  refine okR Fn scEq (fun ds d ⟨ns, a, A, h⟩ => by rcases h with ⟨v, e, _⟩ | ⟨ms, b, B, e, _⟩ <;> rw [e] <;> rfl) fun cdv A0 outer s H B ow ds d Q E hgd hrm hR kQ => ?_
  obtain ⟨ns, a, A, h⟩ := hR
  have hu64 : A0.units + 3 + 64 < cLine := by
    have z : A0.units + 3 + 16 * 0 + 200 < cLine := hrm.un
    omega
  rcases h with ⟨v, rfl, hk, rfl⟩ | ⟨ms, b, B2, rfl, rfl⟩
  · obtain ⟨t, ht⟩ := Option.isSome_iff_exists.mp hk
    refine rn_ret (ve_is (ve_and (t := false) (u := false) (ve_bi (va_cons (ve_var (d := v) (i := 1) rfl rfl (by walk_at "vis")) (va_cons (ve_gobj rfl gl) va_nil)) rfl mI boot_isinstance (fo_isC (.kind ht) (T.no t (kind_mem ht)))) (fun z => nomatch z)) (by rfl)) kQ
  · have e : decide (a = b ∧ A = B2 ∧ ns = ms) = (true && ((decide (a = b) && decide (A = B2)) && decide (ns.map toI = ms.map toI))) := by
      have e3 : decide (ns.map toI = ms.map toI) = decide (ns = ms) := decide_eq_decide.mpr ints_inj
      rw [e3]
      by_cases h1 : a = b <;> by_cases h2 : A = B2 <;> by_cases h3 : ns = ms <;> simp [h1, h2, h3]
    rw [e] at kQ
    refine rn_ret (ve_and (ve_bi (va_cons (ve_var (d := .ins C (tmD ms b B2)) (i := 1) rfl rfl (by walk_at "vis")) (va_cons (ve_gobj rfl gl) va_nil)) rfl mI boot_isinstance (fo_isC (.ins c) T.own)) (fun _ => ve_and ?h1 (fun _ => ve_and1 ?h2))) kQ
    case h1 => exact ve_comp (ve_pat c.cl n2 (ve_var (i := 0) rfl rfl (by walk_at "vis"))) (ve_pat c.cl n2 (ve_var (i := 1) rfl rfl (by walk_at "vis"))) (co_to (co_eqD hu64 (toI_tup _ _) (toI_tup _ _)) (by rw [eqv_tup]))
    case h2 => exact ve_comp (ve_is (ve_num c.cl n1 (ve_var (i := 0) rfl rfl (by walk_at "vis"))) (by rw [natD_ints])) (ve_is (ve_num c.cl n1 (ve_var (i := 1) rfl rfl (by walk_at "vis"))) (by rw [natD_ints])) (co_eqIT hu64)
abbrev sBoo : Stmt := s_Times___bool__
theorem scBoo : FnScope ["self"] ["self"] (defScope sBoo) := ⟨rfl, rfl, rfl, by decide +kernel, rfl, by decide +kernel, by decide +kernel⟩
def RBoo (C : Addr) (ds : List D) (d : D) : Prop := ∃ (ns : List Nat) (a : Nat) (A : List Nat), ds = [.ins C (tmD ns a A)] ∧ d = .bl (!A.isEmpty || !ns.isEmpty)
theorem ok_bool {f C : Addr} {fd : FuncData} (Fn : Fun K "__bool__" "Times.__bool__" sBoo f fd) (c : Cls K C) (n1 : NoAttr K C "_numbers") (n2 : NoAttr K C "_pattern") (mB : mg "bool" = none) : FnG γ P w K mg base CX0 1 f fd ["self"] (spR K (RBoo C)) := by
  refine okR Fn scBoo (fun ds d ⟨ns, a, A, e, _⟩ => by rw [e]; rfl) fun cdv A0 outer s H B ow ds d Q E hgd hrm hR kQ => ?_
  obtain ⟨ns, a, A, rfl, rfl⟩ := hR
  have e1 : (A.map natD).isEmpty = A.isEmpty := by cases A <;> rfl
  have e2 : (ns.map natD).isEmpty = ns.isEmpty := by cases ns <;> rfl
  rw [← e1, ← e2] at kQ
  refine rn_ret (ve_or (ve_ty (id := "bool") (va_cons (ve_sub (ve_pat c n2 (ve_var (i := 0) rfl rfl (by walk_at "vis"))) ve_int (fun _ _ => rfl) (xo_tup (d := .tup (A.map natD)) rfl)) va_nil) rfl mB boot_bool to_boolT) (fun _ => ve_or1 (ve_ty (id := "bool") (va_cons (ve_num c n1 (ve_var (i := 0) rfl rfl (by walk_at "vis"))) va_nil) rfl mB boot_bool to_boolT))) kQ
/-! the text -/
theorem eqOk_none : True := trivial
def numT (n : Nat) : Str := Str.empty ++ toString (n : Int) ++ (", " : Str)
def setT (ns : List Nat) (a : Nat) (A : List Nat) : Str := catS Str.empty ["Times(", Txt.join "" (ns.map numT), "period=", toString (a : Int), ", marks=", (D.tup (A.map natD)).py.shown, ")"]
/-- what is to be known ahead of the text -/
structure TextFit (ns : List Nat) (a : Nat) (A : List Nat) : Prop where
  n4 : ns.length ≤ 1000
  nb : ∀ x ∈ ns, x < 2 ^ 200
  nl : ∀ x ∈ ns, lenS [toString (x : Int), ", "] ≤ 100000
  ab : a < 2 ^ 30
  jl : (Txt.join "" (ns.map numT)).length ≤ 100000
  At : (D.tup (A.map natD)).textOk = true
  len : lenS ["Times(", Txt.join "" (ns.map numT), "period=", toString (a : Int), ", marks=", (D.tup (A.map natD)).py.shown, ")"] ≤ 100000
  sum : ((ns.map numT).map (·.length)).sum + (ns.map numT).length * ("" : Str).length ≤ 16777216
abbrev sRpr : Stmt := s_Times___repr__
theorem scRpr : FnScope ["self", "number", "numbers"] ["self"] (defScope sRpr) := ⟨rfl, rfl, rfl, by decide +kernel, rfl, by decide +kernel, by decide +kernel⟩
def RRpr (C : Addr) (ds : List D) (d : D) : Prop := ∃ (ns : List Nat) (a : Nat) (A : List Nat), ds = [.ins C (tmD ns a A)] ∧ TextFit ns a A ∧ d = .str (setT ns a A)
theorem log_lt {n k : Nat} (h : n < 2 ^ k) (hk : k < 1920) : (n : Int).natAbs.log2 < 1920 := by
  have e : (n : Int).natAbs = n := rfl
  rw [e]
  by_cases z : n = 0
  · subst z
    decide
  · have y := (Nat.log2_lt z).mpr h
    omega
theorem ok_repr {f C : Addr} {fd : FuncData} (Fn : Fun K "__repr__" "Times.__repr__" sRpr f fd) (c : Cls K C) (n1 : NoAttr K C "_numbers") (n2 : NoAttr K C "_pattern") : FnG gd0 P w K mg base CX0 1 f fd ["self"] (spR K (RRpr C)) := by
  refine okR Fn scRpr (fun ds d ⟨ns, a, A, e, _⟩ => by rw [e]; rfl) fun cdv A0 outer s H B ow ds d Q E hgd hrm hR kQ => ?_
  obtain ⟨ns, a, A, rfl, fit, rfl⟩ := hR
  have hu70 : A0.units + 3 + 70 < cLine := by
    have z : A0.units + 3 + 16 * 0 + 200 < cLine := hrm.un
    omega
  refine rn_setLc (i := 2) (j := 1) (fun _ => true) (fun d => match d with | .int i => .str (numT i.toNat) | _ => .non) rfl scRpr.nd rfl rfl (sw_true rfl rfl rfl (by decide +kernel)) (vi_tup (ve_num c n1 (ve_var (i := 0) rfl rfl (by walk_at "vis")))) (blkOk_by (N := ["self", "number", "numbers"]) (sc := defScope sRpr) (by decide +kernel)) (by rw [List.length_map]; have := fit.n4; omega) (fun _ _ _ _ _ => pg_name (i := 1) scRpr.nd rfl (.inl rfl)) (fun d ow' _ _ s0 H0 C0 cl fp => vts_nil) ?he ?k
  case he =>
    intro d ow' hd _ _ s0 H0 C0 cl fp
    obtain ⟨n, hn, rfl⟩ := List.mem_map.mp hd
    refine ve_is (ve_joined (.cons (ve_fI (ve_var (d := natD n) (i := 1) rfl rfl (by walk_at "vis")) (log_lt (fit.nb n hn) (by decide))) (.cons ve_str .nil)) (fit.nl n hn)) (by rfl)
  case k =>
    intro B' e1
    have lst : (((ns.map natD).filter (fun _ => true)).map fun d => match d with | .int i => D.str (numT i.toNat) | _ => .non) = (ns.map numT).map D.str := by
      rw [List.filter_eq_self.mpr (fun _ _ => rfl), List.map_map, List.map_map]
      exact List.map_congr_left fun n _ => rfl
    rw [lst]
    refine rn_ret (ve_joined (.cons ve_str (.cons (ve_fS (ve_join ve_str (ve_var (d := .lst ((ns.map numT).map D.str)) (i := 2) rfl rfl (by walk_at "vis")) fit.sum) fit.jl) (.cons ve_str (.cons (ve_fI (ve_sub (ve_pat c n2 (ve_var (i := 0) rfl rfl (by walk_at "vis"))) ve_int (fun _ _ => rfl) (xo_tup (d := natD a) rfl)) (log_lt fit.ab (by decide))) (.cons ve_str (.cons (ve_fT hgd hu70 (ve_sub (ve_pat c n2 (ve_var (i := 0) rfl rfl (by walk_at "vis"))) ve_int (fun _ _ => rfl) (xo_tup (d := .tup (A.map natD)) rfl)) fit.At) (.cons ve_str .nil))))))) fit.len) (kQ.ex e1)
end
end K2
set_option Elab.async false
set_option linter.all false
set_option maxRecDepth 100000
set_option maxHeartbeats 4000000
namespace K2
open PySem L2 Vd
open PySem.Spec PyProof.Rows
/-! the walk over data -/
local macro_rules | `(tactic| walk_at "vis") => `(tactic| first | exact Or.inl rfl | exact Or.inr (Or.inl rfl) | exact Or.inr (Or.inr rfl))
local macro_rules | `(tactic| walk_at "none") => `(tactic| first | assumption)
local macro_rules | `(tactic| walk_at "num") => `(tactic| first | decide | omega)
local macro_rules | `(tactic| walk_at "vr") => `(tactic| first
  | exact bo_add | exact bo_sub | exact bo_mulR (by decide) | exact bo_mulL (by decide) | exact bo_mod (by walk_at "num") | exact bo_div (by walk_at "num") (by walk_at "num") | exact bo_pow (by decide) (by decide) (by decide) | exact bo_cat (by walk_at "num") | exact bo_mulR (by omega) | exact bo_mulL (by omega))
local macro_rules | `(tactic| walk_at "vq") => `(tactic| first
  | exact co_lt | exact co_le | exact co_gt | exact co_ge | exact co_eqI | exact co_neI | exact co_eqS | exact co_neS)
local macro_rules | `(tactic| walk_at "vx") => `(tactic| first
  | exact xo_own (by assumption) rfl | exact xo_lst rfl | exact xo_tup rfl)
local macro_rules | `(tactic| walk_at "vf") => `(tactic| first
  | exact fo_abs | exact fo_lenL | exact fo_lenT | exact fo_lenO (by assumption) | exact fo_divmod (by walk_at "num") (by walk_at "num") | exact fo_max rfl | exact fo_min rfl)
local macro_rules | `(tactic| walk_at "vn") => `(tactic| first
  | exact ve_var (i := 0) rfl rfl (by walk_at "vis") | exact ve_var (i := 1) rfl rfl (by walk_at "vis") | exact ve_var (i := 2) rfl rfl (by walk_at "vis") | exact ve_var (i := 3) rfl rfl (by walk_at "vis") | exact ve_var (i := 4) rfl rfl (by walk_at "vis") | exact ve_var (i := 5) rfl rfl (by walk_at "vis") | exact ve_var (i := 6) rfl rfl (by walk_at "vis") | exact ve_var (i := 7) rfl rfl (by walk_at "vis"))
local macro_rules | `(tactic| walk_at "vd") => `(tactic| first
  | exact ve_int | exact ve_bl | exact ve_non | exact ve_str
  | (refine' ve_bin ?ha ?hb ?hr; (case ha => walk_at "vd"); (case hb => walk_at "vd"); (case hr => walk_at "vr"))
  | (refine' ve_sub ?ha ?hb (fun _ _ => rfl) ?hr; (case ha => walk_at "vd"); (case hb => walk_at "vd"); (case hr => walk_at "vx"))
  | (refine' ve_ty (id := "int") ?ha rfl ?hm boot_int ?hr; (case ha => walk_at "va"); (case hm => walk_at "none"); (case hr => exact to_int))
  | (refine' ve_bi ?ha rfl ?hm ?hv ?hr; (case hv => first | exact boot_abs | exact boot_len | exact boot_divmod | exact boot_max | exact boot_min); (case ha => walk_at "va"); (case hm => walk_at "none"); (case hr => walk_at "vf"))
  | (refine' ve_tup ?ha ?hl; (case ha => walk_at "va"); (case hl => walk_at "num"))
  | (refine' ve_lst ?ha ?hl; (case ha => walk_at "va"); (case hl => walk_at "num"))
  | (refine' ve_comp ?ha ?hb ?hr; (case ha => walk_at "vd"); (case hb => walk_at "vd"); (case hr => walk_at "vq"))
  | walk_at "vn")
local macro_rules | `(tactic| walk_at "va") => `(tactic| first | exact va_nil | (refine' va_cons ?ha ?hb; (case ha => walk_at "vd"); (case hb => walk_at "va")))
local macro_rules | `(tactic| walk_at "vt") => `(tactic| first
  | (refine' vt_comp ?ha ?hb ?hr; (case ha => walk_at "vd"); (case hb => walk_at "vd"); (case hr => walk_at "vq"))
  | (refine' vt_val ?hv; case hv => walk_at "vd"))
/-! ### ascending -/
/-- the first k of what p holds -/
structure IsFirst (p : Nat → Bool) (k : Nat) (L : List Nat) : Prop where
  asc : Per.Asc L
  len : L.length ≤ k
  all : ∀ x ∈ L, p x = true
  rest : ∀ y, p y = true → ¬ y ∈ L → L.length = k ∧ ∀ x ∈ L, x < y
theorem asc_nodup : ∀ {L : List Nat}, Per.Asc L → L.Nodup := fun h => List.Pairwise.imp (fun {a b} h e => by subst e; exact absurd h (Nat.lt_irrefl _)) h
theorem nodup_len : ∀ (M L : List Nat), M.Nodup → (∀ x ∈ M, x ∈ L) → M.length ≤ L.length
  | [], _, _, _ => Nat.zero_le _
  | m :: M, L, hn, h => by
    obtain ⟨h1, h2⟩ := List.nodup_cons.mp hn
    have z := nodup_len M (L.erase m) h2 fun x hx => (List.mem_erase_of_ne (fun e => h1 (by rw [← e]; exact hx))).mpr (h x (List.mem_cons_of_mem _ hx))
    have y := List.length_erase_of_mem (h m List.mem_cons_self)
    have w : 0 < L.length := List.length_pos_of_mem (h m List.mem_cons_self)
    rw [List.length_cons]
    omega
theorem first_sub {p : Nat → Bool} {k : Nat} {L M : List Nat} (a : IsFirst p k L) (b : IsFirst p k M) : ∀ x, x ∈ L → x ∈ M := fun x hx => Classical.byContradiction fun no => by
  obtain ⟨lm, big⟩ := b.rest x (a.all x hx) no
  have sub : ∀ m ∈ M, m ∈ L := fun m hm => Classical.byContradiction fun no2 => by
    obtain ⟨_, big2⟩ := a.rest m (b.all m hm) no2
    have := big2 x hx
    have := big m hm
    omega
  have z := nodup_len (x :: M) L (List.nodup_cons.mpr ⟨no, asc_nodup b.asc⟩) fun y hy => by
    rcases List.mem_cons.mp hy with e | e
    · rw [e]; exact hx
    · exact sub y e
  have := a.len
  rw [List.length_cons] at z
  omega
theorem IsFirst.uniq {p : Nat → Bool} {k : Nat} {L M : List Nat} (a : IsFirst p k L) (b : IsFirst p k M) : L = M := Per.asc_ext a.asc b.asc fun x => ⟨first_sub a b x, first_sub b a x⟩
/-- so far: all below low -/
structure SoFar (p : Nat → Bool) (i low : Nat) (L : List Nat) : Prop where
  asc : Per.Asc L
  len : L.length = i
  all : ∀ x ∈ L, p x = true ∧ x < low
  low : ∀ y, y < low → p y = true → y ∈ L
theorem SoFar.nil {p : Nat → Bool} : SoFar p 0 0 [] := ⟨List.Pairwise.nil, rfl, fun x h => (by cases h), fun y h => (by omega)⟩
theorem SoFar.step {p : Nat → Bool} {i low x : Nat} {L : List Nat} (h : SoFar p i low L) (hx : low ≤ x) (px : p x = true) (mn : ∀ y, low ≤ y → p y = true → x ≤ y) : SoFar p (i + 1) (x + 1) (L ++ [x]) := by
  refine ⟨List.pairwise_append.mpr ⟨h.asc, List.pairwise_singleton _ _, fun a ha b hb => ?_⟩, by rw [List.length_append, h.len]; rfl, fun y hy => ?_, fun y hy py => ?_⟩
  · rw [List.mem_singleton.mp hb]
    have := (h.all a ha).2
    omega
  · rcases List.mem_append.mp hy with z | z
    · have := h.all y z
      exact ⟨this.1, by omega⟩
    · rw [List.mem_singleton.mp z]
      exact ⟨px, by omega⟩
  · by_cases q : y < low
    · exact List.mem_append_left _ (h.low y q py)
    · have := mn y (by omega) py
      have e : y = x := by omega
      exact List.mem_append_right _ (List.mem_singleton.mpr e)
theorem SoFar.stop {p : Nat → Bool} {i k low : Nat} {L : List Nat} (h : SoFar p i low L) (hk : i ≤ k) (no : ∀ y, low ≤ y → p y = false) : IsFirst p k L := ⟨h.asc, by rw [h.len]; exact hk, fun x hx => (h.all x hx).1, fun y py ny => by
  by_cases q : y < low
  · exact absurd (h.low y q py) ny
  · rw [no y (by omega)] at py
    cases py⟩
theorem SoFar.done {p : Nat → Bool} {k low : Nat} {L : List Nat} (h : SoFar p k low L) : IsFirst p k L := ⟨h.asc, by rw [h.len]; exact Nat.le_refl _, fun x hx => (h.all x hx).1, fun y py ny => ⟨h.len, fun x hx => by
  have := (h.all x hx).2
  by_cases q : y < low
  · exact absurd (h.low y q py) ny
  · omega⟩⟩
abbrev sAsc : Stmt := s_Times_ascending
theorem scAsc : GScope ["self", "count", "least", "_", "time"] ["self", "count"] (defScope sAsc) := ⟨rfl, rfl, rfl, by decide +kernel, rfl, by decide +kernel, by decide +kernel⟩
def GAsc (C : Addr) (ds : List D) : Prop := ∃ (ns : List Nat) (a : Nat) (A : List Nat) (k : Nat), ds = [.ins C (tmD ns a A), natD k] ∧ Per.Asc ns ∧ Per.Pat a A ∧ a < 1073741824 ∧ k ≤ 100
def RAsc (C : Addr) (ds : List D) (out : List Int) : Prop := ∀ (ns : List Nat) (a : Nat) (A : List Nat) (k : Nat), ds = [.ins C (tmD ns a A), natD k] → ∃ L : List Nat, out = L.map toI ∧ IsFirst (inT ns a A) k L
theorem natD_inj : ∀ {M N : List Nat}, M.map natD = N.map natD → M = N := fun h => by
  rw [natD_ints, natD_ints] at h
  have z : ∀ {l k : List Int}, l.map D.int = k.map D.int → l = k := fun {l k} e => by
    induction l generalizing k with
    | nil =>
      cases k with
      | nil => rfl
      | cons a k => cases e
    | cons a l ih =>
      cases k with
      | nil => cases e
      | cons b k =>
        injection e with e1 e2
        injection e1 with e1
        rw [e1, ih e2]
  exact ints_inj.mp (z h)
theorem tmD_inj {C C' : Addr} {ns ns' : List Nat} {a a' : Nat} {A A' : List Nat} (e : D.ins C (tmD ns a A) = D.ins C' (tmD ns' a' A')) : ns = ns' ∧ a = a' ∧ A = A' := by
  injection e with _ e
  injection e with e1 e2
  injection e1 with _ e1
  injection e1 with e1
  injection e2 with e2 _
  injection e2 with _ e2
  injection e2 with e2
  injection e2 with e2 e3
  injection e3 with e3 _
  injection e3 with e3
  injection e2 with e2
  exact ⟨natD_inj e1, Int.ofNat.inj e2, natD_inj e3⟩
theorem asc_args {C : Addr} {ns ns' : List Nat} {a a' : Nat} {A A' : List Nat} {k k' : Nat} (e : ([.ins C (tmD ns a A), natD k] : List D) = [.ins C (tmD ns' a' A'), natD k']) : ns = ns' ∧ a = a' ∧ A = A' ∧ k = k' := by
  injection e with e1 e2
  injection e2 with e2 _
  injection e2 with e2
  obtain ⟨h1, h2, h3⟩ := tmD_inj e1
  exact ⟨h1, h2, h3, Int.ofNat.inj e2⟩
abbrev gdT : Gds := fun _ => True
theorem nextt_ex (ns : List Nat) (a : Nat) (A : List Nat) (low : Nat) : ∃ o, NextT ns a A low o := by
  by_cases h : ∃ x, low ≤ x ∧ inT ns a A x = true
  · obtain ⟨x, hx⟩ := h
    have go : ∀ n x, x ≤ n → low ≤ x → inT ns a A x = true → ∃ o, NextT ns a A low o := by
      intro n
      induction n with
      | zero =>
        intro x h1 h2 h3
        exact ⟨some x, h2, h3, fun y hy _ => by omega⟩
      | succ n ih =>
        intro x h1 h2 h3
        by_cases q : ∃ y, y < x ∧ low ≤ y ∧ inT ns a A y = true
        · obtain ⟨y, q1, q2, q3⟩ := q
          exact ih y (by omega) q2 q3
        · refine ⟨some x, h2, h3, fun y hy py => ?_⟩
          apply Classical.byContradiction
          intro no
          exact q ⟨y, by omega, hy, py⟩
    exact go x x (Nat.le_refl _) hx.1 hx.2
  · refine ⟨none, fun y hy => ?_⟩
    cases q : inT ns a A y with
    | false => rfl
    | true => exact absurd ⟨y, hy, q⟩ h
section
variable {P : Program} {w : World} {K : PySem.W.Frag} {mg : Str → Option Value} {base : Heap}
theorem ok_ascending {f f1 f2 C : Addr} {fd fd1 fd2 : FuncData} (Fn : Fun K "ascending" "Times.ascending" sAsc f fd) (c : Cls K C) (hm : Meth K C "_least_from" f1) (F1 : FnG gdT P w K mg base CX0 3 f1 fd1 ["self", "low"] (spR K (RLst C))) (b1 : Binds K fd1 ["self", "low"] [])
    (F2 : FnG gdT P w K mg base CX0 2 f2 fd2 ["value", "least", "most"] (spR K RIsW)) (m2 : mg "is_within" = some (.ref f2)) (k2 : PySem.W.keepIn K (.ref f2) = true) (b2 : Binds K fd2 ["value", "least", "most"] []) (g1 : ∃ t, mg "MOST_COUNT" = some (.int 100 t)) (mR : mg "range" = none) :
    GFn P w K mg base 4 f fd ["self", "count"] (spGen K (GAsc C) (RAsc C)) := by
  refine okGen Fn scAsc (fun ds ⟨ns, a, A, k, e, _⟩ => by rw [e]; rfl) fun cdv A0 outer s H B ow ds E pn Q hrm hG kQ => ?_
  obtain ⟨ns, a, A, k, rfl, asc, pat, ha, hk⟩ := hG
  have wi : D.within 0 100 (natD k) = true := decide_eq_true (show (0 : Int) ≤ (k : Int) ∧ (k : Int) ≤ 100 by omega)
  refine' rg_if (t := !D.within 0 100 (natD k)) ?h (fun t => by rw [wi] at t; cases t) ?h2
  case h => exact vt_not (vt_val (ve_R F2 trivial (hrm.mono (by decide)) rfl m2 k2 b2 (va_cons (ve_var (d := natD k) (i := 1) rfl rfl (by walk_at "vis")) (va_cons ve_int (va_cons (ve_cst g1 rfl (by decide)) va_nil))) ⟨natD k, 0, 100, rfl, rfl, rfl⟩))
  case h2 =>
  intro _ B1 e1
  refine rg_go ?_
  refine rg_set scAsc.nd rfl (.inl rfl) (i := 2) (d := natD 0) ve_int fun B2 e2 => ?_
  refine' rg_for (ds := rangeD 0 (k : Int).toNat) (g := gName 3) (f := fun d env => env.set 3 (some d)) (fun i env ow' out => ow' = ow ∧ i ≤ k ∧ ∃ low L, env[0]? = some (some (.ins C (tmD ns a A))) ∧ env[2]? = some (some (natD low)) ∧ env.length = 5 ∧ out = L.map toI ∧ SoFar (inT ns a A) i low L) owns_gcx rfl ?hi ?hg (fun ow d _ => gd_name 3) ⟨rfl, Nat.zero_le _, 0, [], rfl, rfl, rfl, rfl, SoFar.nil⟩ ?hs ?hd
  case hi => exact vi_range1 rfl mR (ve_var (d := natD k) (i := 1) rfl rfl (by walk_at "vis")) (by omega)
  case hg => exact pg_name (i := 3) scAsc.nd rfl (.inl rfl)
  case hd =>
    rintro B3 env' ow' out e3 ⟨rfl, hi, low, L, _, _, _, rfl, sf⟩
    rw [rangeD_len] at sf
    have sf : SoFar (inT ns a A) k low L := sf
    exact .mk fun σ F3 H3 eB s3 w3 => wpg gss_nil (kQ F3 H3 _ (e1.trans (e2.trans (e3.trans eB))) w3 fun ns' a' A' k' e => by
      obtain ⟨rfl, rfl, rfl, rfl⟩ := asc_args e
      exact ⟨L, rfl, sf.done⟩)
  case hs =>
    rintro B3 i d env' ow' out e3 hd ⟨rfl, hi, low, L, h0, h2, h5, rfl, sf⟩
    obtain ⟨hik, rfl⟩ := rangeD_get hd
    have hik : i < k := hik
    obtain ⟨o, hO⟩ := nextt_ex ns a A low
    have h0' : (env'.set 3 (some (D.int (0 + (i : Nat)))))[0]? = some (some (.ins C (tmD ns a A))) := by rw [List.getElem?_set_ne (by decide)]; exact h0
    have h2' : (env'.set 3 (some (D.int (0 + (i : Nat)))))[2]? = some (some (natD low)) := by rw [List.getElem?_set_ne (by decide)]; exact h2
    refine rg_set scAsc.nd rfl (.inl rfl) (i := 4) (d := optD o) (ve_meth c hm F1 trivial hrm b1 (ve_var h0' rfl (by walk_at "vis")) rfl (va_cons (ve_var h2' rfl (by walk_at "vis")) va_nil) ⟨ns, a, A, low, o, rfl, asc, pat, ha, hO, rfl⟩) fun B4 e4 => ?_
    have h4 : ((env'.set 3 (some (D.int (0 + (i : Nat))))).set 4 (some (optD o)))[4]? = some (some (optD o)) := by
      rw [List.getElem?_set_self]
      rw [List.length_set, h5]
      decide
    cases o with
    | none =>
      refine' rg_if (t := true) ?h1 ?h2 (fun t => nomatch t)
      case h1 => exact vt_comp (ve_var (d := .non) h4 rfl (by walk_at "vis")) ve_non (co_isN (by
        intro K F x r
        cases r
        rfl))
      case h2 =>
      intro _ B5 e5
      exact rg_ret0 fun F6 H6 e6 w6 => ⟨rfl, kQ F6 H6 _ (e1.trans (e2.trans (e3.trans (e4.trans (e5.trans e6))))) w6 fun ns' a' A' k' e => by
        obtain ⟨rfl, rfl, rfl, rfl⟩ := asc_args e
        exact ⟨L, rfl, sf.stop (Nat.le_of_lt hik) hO⟩⟩
    | some x =>
      refine' rg_if (t := false) ?h1 (fun t => nomatch t) ?h2
      case h1 => exact vt_comp (ve_var (d := natD x) h4 rfl (by walk_at "vis")) ve_non (co_isN (by
        intro K F x r
        cases r
        rfl))
      case h2 =>
      intro _ B5 e5
      refine rg_go ?_
      refine rg_yield (i := (x : Nat)) (ve_var (d := natD x) h4 rfl (by walk_at "vis")) (by rw [List.length_map, sf.len]; omega) fun B6 e6 => ?_
      refine rg_set scAsc.nd rfl (.inl rfl) (i := 2) (d := natD (x + 1)) (ve_is (ve_bin (ve_var (d := natD x) h4 rfl (by walk_at "vis")) ve_int bo_add) (by rfl)) fun B7 e7 => ?_
      refine rg_next ⟨rfl, hik, x + 1, L ++ [x], ?_, ?_, ?_, by rw [List.map_append]; rfl, sf.step hO.1 hO.2.1 hO.2.2⟩ (e4.trans (e5.trans (e6.trans e7)))
      · rw [List.getElem?_set_ne (by decide), List.getElem?_set_ne (by decide)]
        exact h0'
      · rw [List.getElem?_set_self]
        rw [List.length_set, List.length_set, h5]
        decide
      · rw [List.length_set, List.length_set, List.length_set, h5]
end
end K2
set_option Elab.async false
set_option linter.all false
set_option maxRecDepth 100000
set_option maxHeartbeats 4000000
/-! list(range(..)); pieces of lists. -/
namespace Vd
open PySem L2
open PySem.Spec PyProof.Rows
theorem rps_range {K : PySem.W.Frag} {F : Hp} (lo : Int) : ∀ l : List Nat, Rps K F (l.map fun i => V.int (lo + (i : Nat))) (l.map fun i => D.int (lo + (i : Nat)))
  | [] => .nil
  | _ :: l => .cons (.int _) (rps_range lo l)
section
variable {X : Cx} {env : List (Option D)} {ow : Ow} {a b : Expr} {p p2 pos pos2 : Pos}
theorem ve_listR {n : Nat} (hc : X.calm = true) (hg : Gl X "list") (hm : X.mg "list" = none) (hgR : Gl X "range") (hmR : X.mg "range" = none) (h : Ve X a env ow (.int (n : Nat))) (hn : n ≤ 100000)
    (na : starEach [a] X.env = (false, eval a X.env) :: starEach [] X.env := by rfl) (ne : starEach [.Call (.Name "range" p2) [a] [] pos2] X.env = (false, eval (.Call (.Name "range" p2) [a] [] pos2) X.env) :: starEach [] X.env := by rfl) :
    Ve X (.Call (.Name "list" p) [.Call (.Name "range" p2) [a] [] pos2] [] pos) env ow (.lst (rangeD 0 n)) := .mk fun σ F H Q s w k0 => wpe (pe_listRg hc hg hm (prg_1 hgR hmR pe_can na) ne) (h σ F H _ s w fun F1 H1 v e1 w1 r1 => by
  cases r1
  refine ⟨(n : Int), rfl, RgOk.of_le (by omega) (by omega) (by omega) (by omega), fun q hq => (k0.ex e1).new w1 hq (.lst upd_same ?_)⟩
  have z : ((n : Int) - 0).toNat = n := by omega
  unfold rgV rangeD
  rw [z]
  exact rps_range 0 _)
end
end Vd
set_option Elab.async false
set_option linter.all false
set_option maxRecDepth 100000
set_option maxHeartbeats 4000000
/-! An own operator of two objects of one class. -/
namespace Vd
open PySem L2
open PySem.Spec PyProof.Rows
section
variable {γ : Gds} {X : Cx} {env : List (Option D)} {ow : Ow} {e : Expr} {d d2 : D} {C C3 f : Addr} {fl fl2 fl3 : List (Str × D)} {t : Value} {b : Bool} {fd : FuncData} {ps : List Str} {k : Nat} {R : List D → D → Prop}
/-- what the operator asks of the class -/
structure BinOf (K : PySem.W.Frag) (C : Addr) (op : Operator) (f : Addr) : Prop where
  me : PySem.W.selfFirst K C = true
  at_ : PySem.W.findIn K (.ref C) (PySem.dunder op.info.2) = some (some (.ref f))
  fn : PySem.W.isFn K (.ref f) = true
def rOwnB (K : PySem.W.Frag) (C : Addr) (R : List D → D → Prop) : R2 := fun x y H Q => ∃ a dx fs, x = .ref a ∧ H a = some (.ins C dx fs) ∧ TyX K H y (.ref C) ∧ spR K R [x, y] H (fun v H' => (∃ p, v = .ref p) ∧ Q v H') E0
theorem op_binOwn {op : Operator} (F : FnG γ X.prog X.w X.K X.mg X.base CX0 k f fd ps (spR X.K R)) (hgd : γ X.A.guards) (hr : Room k X.A) (hb : Binds X.K fd ps []) (T : BinOf X.K C op f) : OpR X (binaryOp op) (rOwnB X.K C R) := by
  intro pins s σ H x y v u Q I rx ry h
  obtain ⟨a, dx, fs, ex, ea, ty, q⟩ := h
  subst ex
  obtain rfl : v = Value.ref a := rx
  obtain ⟨ox, od, J⟩ := inst_of I ea
  obtain ⟨m, fr⟩ := I.fr
  refine PySem.W.binop_K (op := op) fr I.ok.mod.kin J (typeof_of I ry ty) T.me T.at_ T.fn ?_
  refine wpAny_mono (run_fnG (us := [.ref a, u]) (vs := [.ref a, y]) F hgd hr hb .nil pass0 I (.cons rfl (.cons ry .nil)) q) (fun r s' z => ?_) fun _ _ z => z
  obtain ⟨z, H', I', rz, ⟨p, ez⟩, q2⟩ := z
  subst ez
  obtain rfl : r = Value.ref p := rz
  exact ⟨.ref p, H', I', rfl, q2⟩
theorem bo_own {op : Operator} (F : FnG γ X.prog X.w X.K X.mg X.base CX0 k f fd ps (spR X.K R)) (hgd : γ X.A.guards) (hr : Room k X.A) (hb : Binds X.K fd ps []) (T : BinOf X.K C op f) (c : ClsK X.K C) (hR : R [.ins C fl, .ins C fl2] (.ins C3 fl3)) : BinOk X ow op (.ins C fl) (.ins C fl2) (.ins C3 fl3) := ⟨_, op_binOwn F hgd hr hb T, .mk fun F1 H x y Q w r1 r2 k0 => by
  have keep := r1
  cases r1 with
  | @ins a C2 dx fs l g1 r3 =>
    refine ⟨a, dx, fs, rfl, w.ex _ _ g1, r2.tyx w.ex (.ins c), F1, ow, _, _, w, .cons keep (.cons r2 .nil), hR, fun F2 H2 v e2 w2 r4 => ?_⟩
    have r5 := r4
    cases r4 with
    | @ins a4 C4 dx4 fs4 l4 g4 r6 => exact ⟨⟨a4, rfl⟩, k0 F2 H2 _ e2 w2 r5⟩⟩
end
end Vd
set_option Elab.async false
set_option linter.all false
set_option maxRecDepth 100000
set_option maxHeartbeats 4000000
/-! A made object that is still changed; gcd, lcm. -/
namespace Vd
open PySem L2
open PySem.Spec PyProof.Rows
section
variable {γ : Gds} {X : Cx} {env : List (Option D)} {ow : Ow} {e : Expr} {es : List Expr} {kws : List Keyword} {d : D} {ds kd : List D} {pos p kpos : Pos} {nm : Option Str} {C f : Addr} {k : Nat} {ks : List Str} {fl : List (Str × D)} {x : Str} {R : List D → List D → List (Str × D) → Prop}
/-- what the making comes to where the object is still owned -/
theorem madeO {F2 H2 : Hp} {vs zs : List V} {Q : VK} (w2 : Wo X.K ow F2 H2) (r : Rps X.K F2 vs ds) (rz : Rps X.K F2 zs kd) (hR : R ds kd fl) (hz : ds.length ≤ 100000) (a dx : Addr) (ha : H2 a = none) (hd : H2 dx = none) (hne : dx ≠ a)
    (k0 : ow a = none → ∀ F4 H4, Ex F2 F4 → Wo X.K (ou ow a (.ins C fl)) F4 H4 → Q (.ref a) H4) :
    spI X.K C R a vs zs (upd (upd H2 dx (.own a)) a (.ins C dx [])) (fun v H3 => v = .non ∧ Q (.ref a) H3) := by
  have w3 := w2.new (o := .own a) hd
  have e3 := w2.exnew (o := .own a) hd
  have ha3 : upd H2 dx (.own a) a = none := by rw [upd_ne (Ne.symm hne)]; exact ha
  have oa : ow a = none := w2.ofree ha
  have w4 : Wo X.K (ou ow a (.ins C [])) (upd F2 dx (.own a)) (upd (upd H2 dx (.own a)) a (.ins C dx [])) := by
    have y := w3.grow (o := .ins C dx []) ha3
    refine ⟨y.ex, fun b o q => ?_⟩
    by_cases z : b = a
    · subst z
      rw [ou_same] at q
      cases q
      exact ⟨w3.free ha3, dx, [], upd_same, .nil⟩
    · rw [ou_ne z] at q
      exact y.own b o q
  exact ⟨_, ow, ds, kd, fl, w4, r.mono e3, rz.mono e3, hR, hz, fun F4 H4 e4 w5 => ⟨rfl, k0 oa F4 H4 (e3.trans e4) w5⟩⟩
/-- C(k = v, ..), still to be changed -/
theorem vm_mk0 (M : Mk X.K C f) (Fi : InS γ X.prog X.w X.K X.mg X.base k f ks (spI X.K C R)) (hgd : γ X.A.guards) (hr : Room (k + 1) X.A) (hg : Gl X x) (hm : X.mg x = some (.ref C)) (hk : Vk X kws env ow kd) (hkl : kd.length = ks.length) (hR : R [] kd fl)
    (hall : (backToKw pos (keywordEach kws X.env)).all (·.1.isSome) = true := by rfl) (hks : (backToKw pos (keywordEach kws X.env)).filterMap (·.1) = ks := by rfl) (hdb : (x == ("__debug__" : Str)) = false := by decide)
    (hpl : ((backTo pos (starEach [] X.env)).any (·.1) || (backToKw pos (keywordEach kws X.env)).any (·.1.isNone)) = false := by rfl) : Vm X (.Call (.Name x p) [] kws pos) env ow (fun d ow2 => ∃ q, ow q = none ∧ d = .ob (.ref q) ∧ ow2 = ou ow q (.ins C fl)) := .mk fun σ F H Q s w k0 => by
  obtain ⟨tk, pk, q⟩ := hk
  have pe : PE X (.Call (.Name x p) [] kws pos) (fun σ H Q => tk σ H fun zs H2 => zs.length = ks.length ∧ ∀ a dx, H2 a = none → H2 dx = none → dx ≠ a → spI X.K C R a [] zs (upd (upd H2 dx (.own a)) a (.ins C dx [])) (fun v H3 => v = .non ∧ Q (.ref a) H3)) := by
    refine ⟨fun pins s σ H Q I h => wpAny_Call_Name_kw (ld_glob I hg hm (PySem.W.callWith_KW0 (h₀ := X.base) I.ok.mod.kin M.kp hall (thn (pk.run pos pins s σ H _ I h) fun ws s2 ⟨zs, H2, I2, rz, l2, q2⟩ => ⟨I2.kIn, ?_⟩) hpl) hdb)⟩
    rw [hks]
    exact run_mkS (us := []) (vs := []) M Fi hgd hr I2 .nil rz l2 q2
  refine wpe pe (q σ F H _ s w fun F2 H2 zs e2 w2 rz => ⟨by rw [rz.length]; exact hkl, fun a dx ha hd hne => madeO w2 .nil rz hR (Nat.zero_le _) a dx ha hd hne fun oa F4 H4 e4 w4 => k0 F4 H4 (.ref a) (.ob (.ref a)) _ (e2.trans e4) w4 (.ob _) ⟨a, oa, rfl, rfl⟩⟩)
/-- f(e, ..), f a built-in function that the module has taken from another one -/
theorem ve_gb {id : String} (ha : Va X (e :: es) env ow ds) (hg : Gl X x) (hm : X.mg x = some (.builtin id)) (h : BiOk X ow id ds d) (hdb : (x == ("__debug__" : Str)) = false := by decide)
    (he : starEach (e :: es) X.env = (false, eval e X.env) :: starEach es X.env := by rfl) (hpl : (backTo pos (starEach es X.env)).any (·.1) = false := by rfl) : Ve X (.Call (.Name x p) (e :: es) [] pos) env ow d := .mk fun σ F H Q s w k => by
  obtain ⟨r, hc, hr⟩ := h
  exact wpe (pe_callBfun hc hg hm pa_can hdb he hpl) (ha σ F H _ s w fun F1 H1 xs e1 w1 r1 => hr F1 H1 xs Q w1 r1 (k.ex e1))
def rTwoI (g : Int → Int → Prop) (r : Int → Int → Int) : List V → Hp → VK → Prop := fun xs H Q => ∃ i j : Int, xs = [.int i, .int j] ∧ g i j ∧ Q (.int (r i j)) H
theorem rc_two {K : PySem.W.Frag} {i j : Int} {g : Int → Int → Prop} {r : Int → Int → Int} (h : g i j) : RC K ow (rTwoI g r) [.int i, .int j] (.int (r i j)) := .mk fun F H xs Q w q k => by
  cases q with
  | cons r1 r2 =>
    cases r1
    cases r2 with
    | cons r3 r4 =>
      cases r4
      cases r3
      exact ⟨i, j, rfl, h, k.here w (.int _)⟩
theorem cr_lcm : CallR X (.builtin "math.lcm") (rTwoI (fun i j => i.natAbs < 2 ^ 64 ∧ j.natAbs < 2 ^ 64) fun i j => ((i.natAbs.lcm j.natAbs : Nat) : Int)) := by
  intro pins s σ H vs us Q I r h
  obtain ⟨a, b, rfl, ⟨h1, h2⟩, q⟩ := h
  obtain ⟨t, u, rfl⟩ := Vals.int2 r
  exact PySem.W.mc_lcm h1 h2 fun _ => ⟨.int _, H, I.tok _, ⟨_, rfl⟩, q⟩
theorem fo_gcd {a b : Nat} : BiOk X ow "math.gcd" [.int (a : Int), .int (b : Int)] (.int ((a.gcd b : Nat) : Int)) := ⟨_, cr_gcd, .mk fun F H xs Q w q k => by
  cases q with
  | cons r1 r2 =>
    cases r1
    cases r2 with
    | cons r3 r4 =>
      cases r4
      cases r3
      exact ⟨_, _, rfl, k.here w (.int _)⟩⟩
theorem fo_lcm {a b : Nat} (ha : a < 2 ^ 64) (hb : b < 2 ^ 64) : BiOk X ow "math.lcm" [.int (a : Int), .int (b : Int)] (.int ((a.lcm b : Nat) : Int)) := ⟨_, cr_lcm, rc_two (r := fun i j => ((i.natAbs.lcm j.natAbs : Nat) : Int)) ⟨ha, hb⟩⟩
end
end Vd
set_option Elab.async false
set_option linter.all false
set_option maxRecDepth 100000
set_option maxHeartbeats 4000000
/-! sorted(set(t)) of a tuple of integers; sorted(xs). -/
namespace Vd
open PySem L2
open PySem.Spec PyProof.Rows
section
variable {X : Cx} {env : List (Option D)} {ow : Ow} {e : Expr} {pos p p2 q : Pos}
def rSetTI (K : PySem.W.Frag) (w : World) : List V → Hp → VK → Prop := fun xs H Q => ∃ (p : Addr) (ns : List Int), xs = [.ref p] ∧ SqT K H p (ns.map V.int) ∧ ns.length ≤ 60 ∧ ∀ (a : Addr) (c : Nat), H a = none → c ≤ ns.length → Q (.ref a) (upd H a (SetO w a (fun j => decide (j ∈ ns)) c))
theorem cr_setTI (hc : X.calm = true) : CallR X (.type "set") (rSetTI X.K X.w) := by
  intro pins s σ H xs us Q I r h
  obtain ⟨p0, ns, rfl, hq, hl, q⟩ := h
  rw [Vals.ref1 r]
  obtain ⟨its, rv, pt, hz⟩ := I.tuple hq
  have hi : IntsAre its.toArray.toList ns := ints_of_vals rv
  refine call_set_tupI ns (I.ok.hd hc) (show s.heap.IsTuple p0 its.toArray from pt) hi (by unfold scanBound; omega) fun h' tk c R1 hcn k => ?_
  exact ⟨.ref _, upd H s.heap.objs.size (SetO X.w s.heap.objs.size (fun j => decide (j ∈ ns)) c), I.laid (t' := tk) k (Nat.le_refl _) (setO_new R1), rfl, q _ c (I.hok.fresh (Nat.le_refl _)) hcn⟩
/-- sorted(set(t)) -/
theorem ve_sortSet {ns l : List Int} (hc : X.calm = true) (hg : Gl X "sorted") (hm : X.mg "sorted" = none) (hg2 : Gl X "set") (hm2 : X.mg "set" = none) (h : Ve X e env ow (.tup (ns.map D.int))) (hn : ns.length ≤ 60) (hs : l.Pairwise (· < ·)) (hl : ∀ k : Int, k ∈ l ↔ k ∈ ns)
    (he1 : starEach [e] X.env = (false, eval e X.env) :: starEach [] X.env := by rfl) (hpl1 : (backTo q (starEach [] X.env)).any (·.1) = false := by rfl)
    (he2 : starEach [Expr.Call (.Name "set" p2) [e] [] q] X.env = (false, eval (.Call (.Name "set" p2) [e] [] q) X.env) :: starEach [] X.env := by rfl) (hpl2 : (backTo pos (starEach [] X.env)).any (·.1) = false := by rfl) :
    Ve X (.Call (.Name "sorted" p) [.Call (.Name "set" p2) [e] [] q] [] pos) env ow (.lst (l.map D.int)) := .mk fun σ F H Q s w k0 => by
  refine wpe (pe_callB (cr_sortedSet hc) hg hm boot_sorted (pa_cons (pe_callTy (cr_setTI hc) hg2 hm2 boot_set (pa_cons pe_can pa_nil he1) (by decide) (by decide) he1 hpl1) pa_nil he2) (by decide) (by decide) he2 hpl2) ?_
  refine h σ F H _ s w fun F1 H1 v e1 w1 r1 => ?_
  cases r1 with
  | @tup a xs _ g s1 =>
    have e := Rps.intsV s1
    subst e
    refine ⟨a, ns, rfl, Evl.ex_t w1.ex g, hn, fun b c hb hcn => ?_⟩
    have w2 : Wo X.K ow F1 (upd H1 b (SetO X.w b (fun j => decide (j ∈ ns)) c)) := w1.grow hb
    refine ⟨b, _, c, rfl, upd_same, by omega, fun l2 p hs2 hm3 _ hp => ?_⟩
    obtain rfl : l2 = l := List.Perm.eq_of_pairwise (le := fun a b : Int => a < b) (fun a b _ _ h1 h2 => absurd (Int.lt_trans h1 h2) (Int.lt_irrefl _)) hs2 hs ((List.perm_ext_iff_of_nodup (hs2.imp (fun h => Int.ne_of_lt h)) (hs.imp (fun h => Int.ne_of_lt h))).mpr fun k => by rw [hm3, hl, decide_eq_true_eq])
    exact (k0.ex e1).new w2 hp (.lst upd_same ((Rps.ints l2).mono (w2.exnew hp)))
/-- sorted(xs) of integers -/
theorem fo_sorted {ns l : List Int} (hs : l.Pairwise (· ≤ ·)) (hp : l.Perm ns) : BiOk X ow "sorted" [.lst (ns.map D.int)] (.lst (l.map D.int)) := ⟨_, cr_sortedI, .mk fun F H xs Q w r k => by
  cases r with
  | cons r1 r2 =>
    cases r2
    cases r1 with
    | lst g s1 =>
      have e := Rps.intsV s1
      subst e
      refine ⟨_, ns, rfl, SqL.of (w.ex _ _ g), fun l2 p hp2 hs2 hn => ?_⟩
      obtain rfl : l2 = l := List.Perm.eq_of_pairwise (le := fun a b : Int => a ≤ b) (fun a b _ _ h1 h2 => Int.le_antisymm h1 h2) hs2 hs (hp2.trans hp.symm)
      exact k.new w hn (.lst upd_same ((Rps.ints l2).mono (w.exnew hn)))⟩
/-- t + u -/
theorem bo_catTu {l m : List D} (h : l.length + m.length ≤ 100000) : BinOk X ow .Add (.tup l) (.tup m) (.tup (l ++ m)) := ⟨_, op_catA, .mk fun F H x y Q w r1 r2 k => by
  have k1 := r1
  have k2 := r2
  cases r1 with
  | tup g1 s1 =>
    cases r2 with
    | tup g2 s2 =>
      refine ⟨_, _, _, _, rfl, rfl, Evl.ex_t w.ex g1, Evl.ex_t w.ex g2, Evl.sz_of (by rw [s1.length, s2.length]; exact h), fun e => ?_, fun _ e => ?_, fun _ _ p hp => k.new w hp (.tup (SqT.of upd_same) ((s1.append s2).mono (w.exnew hp)))⟩
      · subst e
        cases s1
        exact k.here w k2
      · subst e
        cases s2
        rw [List.append_nil] at k
        exact k.here w k1⟩
end
end Vd
set_option Elab.async false
set_option linter.all false
set_option maxRecDepth 100000
set_option maxHeartbeats 4000000
namespace K2
open PySem L2 Vd
open PySem.Spec PyProof.Rows
/-! the walk over data -/
local macro_rules | `(tactic| walk_at "vis") => `(tactic| first | exact Or.inl rfl | exact Or.inr (Or.inl rfl) | exact Or.inr (Or.inr rfl))
local macro_rules | `(tactic| walk_at "none") => `(tactic| first | assumption)
local macro_rules | `(tactic| walk_at "num") => `(tactic| first | decide | omega)
local macro_rules | `(tactic| walk_at "vr") => `(tactic| first
  | exact bo_add | exact bo_sub | exact bo_mulR (by decide) | exact bo_mulL (by decide) | exact bo_mod (by walk_at "num") | exact bo_div (by walk_at "num") (by walk_at "num") | exact bo_pow (by decide) (by decide) (by decide) | exact bo_cat (by walk_at "num") | exact bo_mulR (by omega) | exact bo_mulL (by omega))
local macro_rules | `(tactic| walk_at "vq") => `(tactic| first
  | exact co_lt | exact co_le | exact co_gt | exact co_ge | exact co_eqI | exact co_neI | exact co_eqS | exact co_neS)
local macro_rules | `(tactic| walk_at "vx") => `(tactic| first
  | exact xo_own (by assumption) rfl | exact xo_lst rfl | exact xo_tup rfl)
local macro_rules | `(tactic| walk_at "vf") => `(tactic| first
  | exact fo_abs | exact fo_lenL | exact fo_lenT | exact fo_lenO (by assumption) | exact fo_divmod (by walk_at "num") (by walk_at "num") | exact fo_max rfl | exact fo_min rfl)
local macro_rules | `(tactic| walk_at "vn") => `(tactic| first
  | exact ve_var (i := 0) rfl rfl (by walk_at "vis") | exact ve_var (i := 1) rfl rfl (by walk_at "vis") | exact ve_var (i := 2) rfl rfl (by walk_at "vis") | exact ve_var (i := 3) rfl rfl (by walk_at "vis") | exact ve_var (i := 4) rfl rfl (by walk_at "vis") | exact ve_var (i := 5) rfl rfl (by walk_at "vis") | exact ve_var (i := 6) rfl rfl (by walk_at "vis") | exact ve_var (i := 7) rfl rfl (by walk_at "vis"))
local macro_rules | `(tactic| walk_at "vd") => `(tactic| first
  | exact ve_int | exact ve_bl | exact ve_non | exact ve_str
  | (refine' ve_bin ?ha ?hb ?hr; (case ha => walk_at "vd"); (case hb => walk_at "vd"); (case hr => walk_at "vr"))
  | (refine' ve_sub ?ha ?hb (fun _ _ => rfl) ?hr; (case ha => walk_at "vd"); (case hb => walk_at "vd"); (case hr => walk_at "vx"))
  | (refine' ve_ty (id := "int") ?ha rfl ?hm boot_int ?hr; (case ha => walk_at "va"); (case hm => walk_at "none"); (case hr => exact to_int))
  | (refine' ve_bi ?ha rfl ?hm ?hv ?hr; (case hv => first | exact boot_abs | exact boot_len | exact boot_divmod | exact boot_max | exact boot_min); (case ha => walk_at "va"); (case hm => walk_at "none"); (case hr => walk_at "vf"))
  | (refine' ve_tup ?ha ?hl; (case ha => walk_at "va"); (case hl => walk_at "num"))
  | (refine' ve_lst ?ha ?hl; (case ha => walk_at "va"); (case hl => walk_at "num"))
  | (refine' ve_comp ?ha ?hb ?hr; (case ha => walk_at "vd"); (case hb => walk_at "vd"); (case hr => walk_at "vq"))
  | walk_at "vn")
local macro_rules | `(tactic| walk_at "va") => `(tactic| first | exact va_nil | (refine' va_cons ?ha ?hb; (case ha => walk_at "vd"); (case hb => walk_at "va")))
local macro_rules | `(tactic| walk_at "vt") => `(tactic| first
  | (refine' vt_comp ?ha ?hb ?hr; (case ha => walk_at "vd"); (case hb => walk_at "vd"); (case hr => walk_at "vq"))
  | (refine' vt_val ?hv; case hv => walk_at "vd"))
/-! ### merged -/
abbrev sMrg : Stmt := s_merged
theorem scMrg : FnScope ["numbers", "others"] ["numbers", "others"] (defScope sMrg) := ⟨rfl, rfl, rfl, by decide +kernel, rfl, by decide +kernel, by decide +kernel⟩
/-- the ascending row of both -/
def Both (a b l : List Nat) : Prop := Per.Asc l ∧ ∀ x, x ∈ l ↔ x ∈ a ∨ x ∈ b
def ins1 (x : Nat) : List Nat → List Nat
  | [] => [x]
  | y :: r => if x < y then x :: y :: r else if x = y then y :: r else y :: ins1 x r
theorem mem_ins1 {x z : Nat} : ∀ {l : List Nat}, z ∈ ins1 x l ↔ z = x ∨ z ∈ l
  | [] => by simp [ins1]
  | y :: r => by
    unfold ins1
    by_cases h : x < y
    · rw [if_pos h]
      simp
    · rw [if_neg h]
      by_cases h2 : x = y
      · rw [if_pos h2]
        subst h2
        simp
      · rw [if_neg h2, List.mem_cons, mem_ins1 (l := r), List.mem_cons]
        constructor
        · rintro (h | h | h)
          · exact .inr (.inl h)
          · exact .inl h
          · exact .inr (.inr h)
        · rintro (h | h | h)
          · exact .inr (.inl h)
          · exact .inl h
          · exact .inr (.inr h)
theorem asc_ins1 {x : Nat} : ∀ {l : List Nat}, Per.Asc l → Per.Asc (ins1 x l)
  | [], _ => List.pairwise_singleton _ _
  | y :: r, h => by
    unfold ins1
    have h0 := List.pairwise_cons.mp h
    by_cases q : x < y
    · rw [if_pos q]
      refine List.pairwise_cons.mpr ⟨fun z hz => ?_, h⟩
      rcases List.mem_cons.mp hz with e | e
      · rw [e]; exact q
      · exact Nat.lt_trans q (h0.1 z e)
    · rw [if_neg q]
      by_cases q2 : x = y
      · rw [if_pos q2]
        exact h
      · rw [if_neg q2]
        refine List.pairwise_cons.mpr ⟨fun z hz => ?_, asc_ins1 h0.2⟩
        rcases mem_ins1.mp hz with e | e
        · omega
        · exact h0.1 z e
theorem both_ex (a : List Nat) : ∀ b : List Nat, Per.Asc a → ∃ l, Both a b l
  | [], ha => ⟨a, ha, fun x => by simp⟩
  | y :: r, ha => by
    obtain ⟨l, h1, h2⟩ := both_ex a r ha
    refine ⟨ins1 y l, asc_ins1 h1, fun x => ?_⟩
    rw [mem_ins1, h2, List.mem_cons]
    constructor
    · rintro (h | h | h)
      · exact .inr (.inl h)
      · exact .inl h
      · exact .inr (.inr h)
    · rintro (h | h | h)
      · exact .inr (.inl h)
      · exact .inl h
      · exact .inr (.inr h)
theorem Both.len {a b l : List Nat} (h : Both a b l) : l.length ≤ a.length + b.length := by
  have z : l.length ≤ (a ++ b).length := nodup_len l (a ++ b) (List.Pairwise.imp (fun {a b} h e => by subst e; exact absurd h (Nat.lt_irrefl _)) h.1) fun x hx => List.mem_append.mpr ((h.2 x).mp hx)
  rw [List.length_append] at z
  exact z
def RMrg (ds : List D) (d : D) : Prop := ∃ (a b l : List Nat), ds = [.tup (a.map natD), .tup (b.map natD)] ∧ a.length + b.length ≤ 60 ∧ Both a b l ∧ d = .tup (l.map natD)
section
variable {γ : Gds} {P : Program} {w : World} {K : PySem.W.Frag} {mg : Str → Option Value} {base : Heap}
theorem ok_merged {f : Addr} {fd : FuncData} (Fn : Fun K "merged" "merged" sMrg f fd) (mT : mg "tuple" = none) (mS : mg "sorted" = none) (mSe : mg "set" = none) : FnG γ P w K mg base CX0 1 f fd ["numbers", "others"] (spR K RMrg) := by
  refine okR Fn scMrg (fun ds d ⟨a, b, l, e, _⟩ => by rw [e]; rfl) fun cdv A0 outer s H B ow ds d Q E hgd hrm hR kQ => ?_
  obtain ⟨a, b, l, rfl, hn, hl, rfl⟩ := hR
  refine rn_ret (ve_is (ve_ty (id := "tuple") (va_cons (ve_sortSet (ns := (a ++ b).map toI) (l := l.map toI) rfl rfl mS rfl mSe (ve_is (ve_bin (ve_var (d := .tup (a.map natD)) (i := 0) rfl rfl (by walk_at "vis")) (ve_var (d := .tup (b.map natD)) (i := 1) rfl rfl (by walk_at "vis")) (bo_catTu (by rw [List.length_map, List.length_map]; omega))) ?h1) ?h2 ?h3 ?h4) va_nil) rfl mT boot_tuple to_tupL) ?h5) kQ
  case h1 => rw [← natD_ints, List.map_append]
  case h2 => rw [List.length_map, List.length_append]; exact hn
  case h3 => exact List.pairwise_map.mpr (hl.1.imp fun h => by show (_ : Int) < _; unfold toI; omega)
  case h4 =>
    intro k
    constructor
    · intro h
      obtain ⟨x, hx, rfl⟩ := List.mem_map.mp h
      exact List.mem_map.mpr ⟨x, List.mem_append.mpr ((hl.2 x).mp hx), rfl⟩
    · intro h
      obtain ⟨x, hx, rfl⟩ := List.mem_map.mp h
      exact List.mem_map.mpr ⟨x, (hl.2 x).mpr (List.mem_append.mp hx), rfl⟩
  case h5 => rw [natD_ints]
end
end K2
set_option Elab.async false
set_option linter.all false
set_option maxRecDepth 100000
set_option maxHeartbeats 4000000
/-! [elt for a in xs for b in ys]; range with a step. -/
namespace Vd
open PySem L2
open PySem.Spec PyProof.Rows
section
variable {X : Cx} {env : List (Option D)} {ow : Ow} {e elt it it1 : Expr} {ds : List D} {pos p : Pos}
def WpI (X : Cx) (tg it : Expr) : TI := fun σ H R => ∀ pins s, Inv X pins σ H s → wpAny (model X.prog X.w) X.A (eval it X.env) (fun v s1 => wpAny (model X.prog X.w) X.A (pyIter v) (PIE X pins σ tg R) X.xe s1) X.xe s
theorem wipe_two {σ : L2.St} {j j1 : Nat} {v : V} (h : j ≠ j1) : L2.wipe ((L2.wipe σ [j, j1]).set j (some v)) [j, j1] = L2.wipe σ [j, j1] := by
  show ((((σ.set j1 none).set j none).set j (some v)).set j1 none).set j none = (σ.set j1 none).set j none
  rw [List.set_set, List.set_comm _ _ h, List.set_set, List.set_set, List.set_comm _ _ (Ne.symm h), List.set_comm _ _ h]
/-- the two fors, without tests: gs the inner row, f what is kept -/
theorem ve_lc2 {scope : Scope} {j j1 : Nat} {y z : Str} {py pz : Pos} (gs : D → List D) (f : D → D → D) (hc : X.calm = true) (hN : X.N.Nodup) (hi : Vi X (.Name y py) it env ow ds) (ok : BlkOk X.N X.env.scope scope [(y, j), (z, j1)]) (hjj : j ≠ j1) (hl : ∀ i, i ≤ ds.length → ((ds.take i).flatMap fun d => (gs d).map (f d)).length ≤ 100000)
    (hg : ∀ (s : Shared) (H : Hp) (C : Addr) (cl : List (Str × Addr)) (fp : List Addr), PG (X.blk s H scope (compEnvC scope cl C X.env) fp) (.Name y py) (gName j))
    (hg1 : ∀ (s : Shared) (H : Hp) (C : Addr) (cl : List (Str × Addr)) (fp : List Addr), PG (X.blk s H scope (compEnvC scope cl C X.env) fp) (.Name z pz) (gName j1))
    (hi1 : ∀ d ow', d ∈ ds → Sub ow ow' → ∀ (s : Shared) (H : Hp) (C : Addr) (cl : List (Str × Addr)) (fp : List Addr), Vi (X.blk s H scope (compEnvC scope cl C X.env) fp) (.Name z pz) it1 (((env.set j1 none).set j none).set j (some d)) ow' (gs d))
    (he : ∀ d d1 ow', d ∈ ds → d1 ∈ gs d → Sub ow ow' → ∀ (s : Shared) (H : Hp) (C : Addr) (cl : List (Str × Addr)) (fp : List Addr), Ve (X.blk s H scope (compEnvC scope cl C X.env) fp) elt ((((env.set j1 none).set j none).set j (some d)).set j1 (some d1)) ow' (f d d1))
    (hsf : ∀ x, foldedSetIterable it X.env x = pure x := by intro _; rfl) (hsf1 : ∀ env x, foldedSetIterable it1 env x = pure x := by intro _ _; rfl) :
    Ve X (.ListComp elt [⟨.Name y py, it, [], 0⟩, ⟨.Name z pz, it1, [], 0⟩] scope pos) env ow (.lst (ds.flatMap fun d => (gs d).map (f d))) := .mk fun σ F H Q s w k0 => by
  obtain ⟨wi, pi, hw⟩ := hi
  refine wpe (pe_lc2 (own := [(y, j), (z, j1)]) (vs1 := [j1]) (g := gName j) (g1 := gName j1) (tt := tYes) (tt1 := tYes) (wi1 := fun σ H R => ∀ (s : Shared) (H0 : Hp) (C : Addr) (cl : List (Str × Addr)) (fp : List Addr), WpI (X.blk s H0 scope (compEnvC scope cl C X.env) fp) (.Name z pz) it1 σ H R)
    (te := fun σ H Q => ∀ (s : Shared) (H0 : Hp) (C : Addr) (cl : List (Str × Addr)) (fp : List Addr), WpE (X.blk s H0 scope (compEnvC scope cl C X.env) fp) elt σ H Q) hc hN pi ok (fun i hi => by rw [List.mem_singleton.mp hi]; show j1 ∈ [j, j1]; simp) hg
    (fun s0 H0 C cl fp => pts_nil) (fun s0 H0 C cl fp => ⟨fun pins s σ H R I h => h s0 H0 C cl fp pins s I⟩) hg1 (fun s0 H0 C cl fp => pts_nil) (fun s0 H0 C cl fp => ⟨fun pins s σ H Q I h => h s0 H0 C cl fp pins s I⟩) hsf hsf1) ?_
  refine hw σ F H _ s w fun J F1 H1 e1 w1 src => ?_
  intro Dl hD
  have hoD : ow Dl = none := w1.ofree hD
  let fl : Nat → List D := fun i => (ds.take i).flatMap fun d => (gs d).map (f d)
  refine ⟨fun i m H => m = ds.length - i ∧ i ≤ ds.length ∧ ∃ F2 xs, Ex F1 F2 ∧ Wo X.K ow F2 H ∧ F2 Dl = none ∧ H Dl = some (.lst xs) ∧ Rps X.K F2 xs (fl i), ⟨ds.length, by simp, Nat.zero_le _, F1, [], Evl.Ex.refl F1, w1.grow hD, w1.free hD, upd_same, .nil⟩, ?_⟩
  rintro i m H2 ⟨rfl, hi, F2, xs, e2, w2, hF2, hH2, r2⟩
  obtain ⟨stop, go⟩ := src F2 H2 ow i e2 w2
  by_cases hlt : i < ds.length
  · have hdi : ds[i]? = some ds[i] := by simp [hlt]
    have htk : fl (i + 1) = fl i ++ (gs ds[i]).map (f ds[i]) := by
      show (ds.take (i + 1)).flatMap _ = _
      rw [List.take_add_one, hdi]
      show (ds.take i ++ [ds[i]]).flatMap _ = _
      rw [List.flatMap_append]
      simp [fl]
    have hmem : ds[i] ∈ ds := List.getElem_mem hlt
    obtain ⟨hgo, hy⟩ := go ds[i] hdi
    refine .inr ⟨hgo, fun H3 => ∃ F3 xs, Ex F1 F3 ∧ Wo X.K ow F3 H3 ∧ F3 Dl = none ∧ H3 Dl = some (.lst xs) ∧ Rps X.K F3 xs (fl (i + 1)), fun H3 q => ⟨ds.length - (i + 1), by omega, rfl, hlt, q⟩, fun x H3 hx => ?_⟩
    have own_ : ∀ {F2 H2 : Hp} {xs : List V} {l : List D}, Wo X.K ow F2 H2 → F2 Dl = none → H2 Dl = some (.lst xs) → Rps X.K F2 xs l → Wo X.K (ou ow Dl (.lst l)) F2 H2 := fun w2 hF2 hH2 r2 => ⟨w2.ex, fun a o q => by
      by_cases z : a = Dl
      · subst z
        rw [ou_same] at q
        cases q
        exact ⟨hF2, _, hH2, r2⟩
      · rw [ou_ne z] at q
        exact w2.own a o q⟩
    have sub : ∀ {l : List D}, ∀ a o, ow a = some o → ou ow Dl (.lst l) a = some o := fun a o q => by
      rw [ou_ne (fun z => by rw [z, hoD] at q; cases q)]
      exact q
    obtain ⟨stop', go'⟩ := src F2 H2 _ i e2 (own_ w2 hF2 hH2 r2)
    obtain ⟨_, hy'⟩ := go' ds[i] hdi
    obtain ⟨F3, e3, w3, r3⟩ := hy' x H3 hx
    have sl : Sl X.K F3 (((L2.wipe σ [j, j1])).set j (some x)) (((env.set j1 none).set j none).set j (some ds[i])) := ((((s.mono (e1.trans (e2.trans e3))).unset j1).unset j).set r3 j)
    refine ⟨wipe_two hjj, ?_⟩
    unfold tYes
    dsimp only
    rw [if_pos rfl]
    intro s0 H0 C cl fp
    obtain ⟨wi1, pi1, hw1⟩ := hi1 ds[i] _ hmem (sub (l := fl i)) s0 H0 C cl fp
    intro pins sA I
    refine pi1.run pins sA _ H3 _ I (hw1 _ F3 H3 _ sl w3 fun J1 F4 H4 e4 w4 src1 => ?_)
    have e14 : Ex F1 F4 := e2.trans (e3.trans e4)
    obtain ⟨n4, ys4, h4, s4⟩ := w4.own Dl _ ou_same
    refine ⟨fun b m H => m = (gs ds[i]).length - b ∧ b ≤ (gs ds[i]).length ∧ ∃ F5 ys, Ex F4 F5 ∧ Wo X.K ow F5 H ∧ F5 Dl = none ∧ H Dl = some (.lst ys) ∧ Rps X.K F5 ys (fl i ++ ((gs ds[i]).take b).map (f ds[i])), ⟨(gs ds[i]).length, by simp, Nat.zero_le _, F4, ys4, Evl.Ex.refl F4, w4.drop (sub (l := fl i)), n4, h4, by simpa using s4⟩, ?_⟩
    rintro b m H5 ⟨rfl, hb, F5, ys, e5, w5, hF5, hH5, r5⟩
    obtain ⟨stop1, go1⟩ := src1 F5 H5 ow b e5 w5
    by_cases hbt : b < (gs ds[i]).length
    · have hdb : (gs ds[i])[b]? = some (gs ds[i])[b] := by simp [hbt]
      obtain ⟨hgo1, _⟩ := go1 _ hdb
      have htb : (gs ds[i]).take (b + 1) = (gs ds[i]).take b ++ [(gs ds[i])[b]] := by rw [List.take_add_one, hdb]; rfl
      refine .inr ⟨hgo1, fun H6 => ∃ F6 ys, Ex F4 F6 ∧ Wo X.K ow F6 H6 ∧ F6 Dl = none ∧ H6 Dl = some (.lst ys) ∧ Rps X.K F6 ys (fl i ++ ((gs ds[i]).take (b + 1)).map (f ds[i])), fun H6 q => ⟨(gs ds[i]).length - (b + 1), by omega, rfl, hbt, q⟩, fun x1 H6 hx1 => ?_⟩
      obtain ⟨_, go1'⟩ := src1 F5 H5 _ b e5 (own_ w5 hF5 hH5 r5)
      obtain ⟨_, hy1⟩ := go1' _ hdb
      obtain ⟨F6, e6, w6, r6⟩ := hy1 x1 H6 hx1
      refine ⟨wipe_one, ?_⟩
      dsimp only
      rw [if_pos rfl]
      intro s1 H01 C1 cl1 fp1
      have sl1 : Sl X.K F6 ((L2.wipe ((L2.wipe σ [j, j1]).set j (some x)) [j1]).set j1 (some x1)) ((((env.set j1 none).set j none).set j (some ds[i])).set j1 (some (gs ds[i])[b])) := by
        have z := (((sl.mono (e4.trans (e5.trans e6))).unset j1).set r6 j1)
        have ee : ∀ E : List (Option D), (E.set j1 none).set j1 (some (gs ds[i])[b]) = E.set j1 (some (gs ds[i])[b]) := fun E => List.set_set _
        rw [ee] at z
        exact z
      refine he ds[i] _ _ hmem (List.getElem_mem hbt) (sub (l := fl i ++ ((gs ds[i]).take b).map (f ds[i]))) s1 H01 C1 cl1 fp1 _ F6 H6 _ sl1 w6 fun F7 H7 v e7 w7 r7 => ?_
      obtain ⟨n7, ys7, h7, s7⟩ := w7.own Dl _ ou_same
      refine ⟨ys7, h7, ?_, F7, ys7 ++ [v], e5.trans (e6.trans e7), ?_, n7, upd_same, ?_⟩
      · have z := s7.length
        have y1 := hl (i + 1) hlt
        have y2 : (fl (i + 1)).length ≤ 100000 := y1
        rw [htk, List.length_append, List.length_map] at y2
        rw [List.length_append, List.length_map, List.length_take] at z
        exact Evl.sz_lt (by omega)
      · exact (w7.setL ou_same (s7.append (.cons r7 .nil))).drop fun a o q => by
          rw [ou_ne (fun z => by rw [z, hoD] at q; cases q)]
          exact sub a o q
      · rw [htb, List.map_append, ← List.append_assoc]
        exact s7.append (.cons r7 .nil)
    · have eb : b = (gs ds[i]).length := by omega
      subst eb
      refine .inl ⟨stop1 (Nat.le_refl _), F5, ys, e14.trans e5, w5, hF5, hH5, ?_⟩
      rw [List.take_length] at r5
      rw [htk]
      exact r5
  · have e : i = ds.length := by omega
    subst e
    refine .inl ⟨stop (Nat.le_refl _), ?_⟩
    have r2' : Rps X.K F2 xs (ds.flatMap fun d => (gs d).map (f d)) := by
      have z : fl ds.length = ds.flatMap fun d => (gs d).map (f d) := by show (ds.take ds.length).flatMap _ = _; rw [List.take_length]
      rw [← z]
      exact r2
    exact k0 (upd F2 Dl (.lst xs)) H2 _ ((e1.trans e2).trans (Evl.Ex.new hF2)) (w2.freeze hF2 hH2 hoD) (.lst upd_same (r2'.mono (Evl.Ex.new hF2)))
/-- the first n multiples of c -/
def stepD (n c : Nat) : List D := (List.range n).map fun k => .int ((k * c : Nat) : Int)
theorem rgC_mul {n c : Nat} (hc : 0 < c) (hc2 : c < 1073741824) (hn : n * c < 2 ^ 40) : RgC 0 ((n * c : Nat) : Int) (c : Int) n := by
  have hs : Builtin.Range.rangeSize 0 ((n * c : Nat) : Int) (c : Int) = (n : Int) := by
    unfold Builtin.Range.rangeSize
    rw [if_pos (by omega)]
    rcases Nat.eq_zero_or_pos n with h | h
    · subst h
      simp
    · have : 0 < n * c := Nat.mul_pos h hc
      rw [if_pos (by omega)]
      obtain ⟨m, rfl⟩ : ∃ m, n = m + 1 := ⟨n - 1, by omega⟩
      have e : (((m + 1) * c : Nat) : Int) - 0 - 1 = ((c : Int) - 1) + (m : Int) * (c : Int) := by
        rw [Nat.add_mul, Int.natCast_add, Int.natCast_mul]
        omega
      rw [e, Int.add_mul_ediv_right _ _ (by omega), Int.ediv_eq_zero_of_lt (by omega) (by omega)]
      omega
  have hb : n ≤ n * c := Nat.le_mul_of_pos_right n hc
  refine ⟨by omega, by omega, ?_, hs⟩
  unfold Builtin.Range.small
  rw [hs]
  simp only [Builtin.Range.rangeFitsLong, Bool.and_eq_true, Bool.or_eq_true, decide_eq_true_eq, beq_iff_eq]
  rw [if_pos (show (c : Int) > 0 by omega)]
  simp only [decide_eq_true_eq, Bool.and_eq_true]
  omega
theorem src_step {K : PySem.W.Frag} {F1 : Hp} {n c : Nat} : Src K (Itc 0 (c : Int) n) F1 (stepD n c) := fun F H ow i e w => by
  refine ⟨fun hl => by unfold stepD at hl; rw [List.length_map, List.length_range] at hl; exact hl, fun d hd => ?_⟩
  unfold stepD at hd
  rw [List.getElem?_map] at hd
  by_cases hi : i < n
  · rw [List.getElem?_range hi] at hd
    cases hd
    refine ⟨hi, fun x H' hy => ?_⟩
    obtain ⟨rfl, rfl⟩ := hy
    refine ⟨F, Evl.Ex.refl F, w, ?_⟩
    have e : (0 : Int) + (i : Int) * (c : Int) = ((i * c : Nat) : Int) := by rw [Int.natCast_mul]; omega
    rw [e]
    exact .int _
  · have y : (List.range n)[i]? = none := by simp; omega
    rw [y] at hd
    cases hd
theorem vi_step {tg a b c0 : Expr} {n c : Nat} (hg : Gl X "range") (hm : X.mg "range" = none) (h : Ve X a env ow (.int 0)) (h2 : Ve X b env ow (.int ((n * c : Nat) : Int))) (h3 : Ve X c0 env ow (.int (c : Int))) (hc : 0 < c) (hc2 : c < 1073741824) (hn : n * c < 2 ^ 40)
    (hs : starEach [a, b, c0] X.env = (false, eval a X.env) :: starEach [b, c0] X.env := by rfl) (hs2 : starEach [b, c0] X.env = (false, eval b X.env) :: starEach [c0] X.env := by rfl) (hs3 : starEach [c0] X.env = (false, eval c0 X.env) :: starEach [] X.env := by rfl) (hpl : (backTo pos (starEach [b, c0] X.env)).any (·.1) = false := by rfl) : Vi X tg (.Call (.Name "range" p) [a, b, c0] [] pos) env ow (stepD n c) :=
  ⟨_, pi_range3 hg hm (pa_can) hs hpl, fun σ F H R s w k => va_cons h (va_cons h2 (va_cons h3 va_nil hs3) hs2) hs σ F H _ s w fun F1 H1 vs e1 w1 r1 => by
    cases r1 with
    | cons r2 r3 =>
      cases r2
      cases r3 with
      | cons r4 r5 =>
        cases r4
        cases r5 with
        | cons r6 r7 =>
          cases r6
          cases r7
          exact ⟨0, _, _, n, rfl, rgC_mul hc hc2 hn, k _ F1 H1 e1 w1 src_step⟩⟩
end
end Vd
set_option Elab.async false
set_option linter.all false
set_option maxRecDepth 100000
set_option maxHeartbeats 4000000
namespace K2
open PySem L2 Vd
open PySem.Spec PyProof.Rows
/-! the walk over data -/
local macro_rules | `(tactic| walk_at "vis") => `(tactic| first | exact Or.inl rfl | exact Or.inr (Or.inl rfl) | exact Or.inr (Or.inr rfl))
local macro_rules | `(tactic| walk_at "none") => `(tactic| first | assumption)
local macro_rules | `(tactic| walk_at "num") => `(tactic| first | decide | omega)
local macro_rules | `(tactic| walk_at "vr") => `(tactic| first
  | exact bo_add | exact bo_sub | exact bo_mulR (by decide) | exact bo_mulL (by decide) | exact bo_mod (by walk_at "num") | exact bo_div (by walk_at "num") (by walk_at "num") | exact bo_pow (by decide) (by decide) (by decide) | exact bo_cat (by walk_at "num") | exact bo_mulR (by omega) | exact bo_mulL (by omega))
local macro_rules | `(tactic| walk_at "vq") => `(tactic| first
  | exact co_lt | exact co_le | exact co_gt | exact co_ge | exact co_eqI | exact co_neI | exact co_eqS | exact co_neS)
local macro_rules | `(tactic| walk_at "vx") => `(tactic| first
  | exact xo_own (by assumption) rfl | exact xo_lst rfl | exact xo_tup rfl)
local macro_rules | `(tactic| walk_at "vf") => `(tactic| first
  | exact fo_abs | exact fo_lenL | exact fo_lenT | exact fo_lenO (by assumption) | exact fo_divmod (by walk_at "num") (by walk_at "num") | exact fo_max rfl | exact fo_min rfl)
local macro_rules | `(tactic| walk_at "vn") => `(tactic| first
  | exact ve_var (i := 0) rfl rfl (by walk_at "vis") | exact ve_var (i := 1) rfl rfl (by walk_at "vis") | exact ve_var (i := 2) rfl rfl (by walk_at "vis") | exact ve_var (i := 3) rfl rfl (by walk_at "vis") | exact ve_var (i := 4) rfl rfl (by walk_at "vis") | exact ve_var (i := 5) rfl rfl (by walk_at "vis") | exact ve_var (i := 6) rfl rfl (by walk_at "vis") | exact ve_var (i := 7) rfl rfl (by walk_at "vis"))
local macro_rules | `(tactic| walk_at "vd") => `(tactic| first
  | exact ve_int | exact ve_bl | exact ve_non | exact ve_str
  | (refine' ve_bin ?ha ?hb ?hr; (case ha => walk_at "vd"); (case hb => walk_at "vd"); (case hr => walk_at "vr"))
  | (refine' ve_sub ?ha ?hb (fun _ _ => rfl) ?hr; (case ha => walk_at "vd"); (case hb => walk_at "vd"); (case hr => walk_at "vx"))
  | (refine' ve_ty (id := "int") ?ha rfl ?hm boot_int ?hr; (case ha => walk_at "va"); (case hm => walk_at "none"); (case hr => exact to_int))
  | (refine' ve_bi ?ha rfl ?hm ?hv ?hr; (case hv => first | exact boot_abs | exact boot_len | exact boot_divmod | exact boot_max | exact boot_min); (case ha => walk_at "va"); (case hm => walk_at "none"); (case hr => walk_at "vf"))
  | (refine' ve_tup ?ha ?hl; (case ha => walk_at "va"); (case hl => walk_at "num"))
  | (refine' ve_lst ?ha ?hl; (case ha => walk_at "va"); (case hl => walk_at "num"))
  | (refine' ve_comp ?ha ?hb ?hr; (case ha => walk_at "vd"); (case hb => walk_at "vd"); (case hr => walk_at "vq"))
  | walk_at "vn")
local macro_rules | `(tactic| walk_at "va") => `(tactic| first | exact va_nil | (refine' va_cons ?ha ?hb; (case ha => walk_at "vd"); (case hb => walk_at "va")))
local macro_rules | `(tactic| walk_at "vt") => `(tactic| first
  | (refine' vt_comp ?ha ?hb ?hr; (case ha => walk_at "vd"); (case hb => walk_at "vd"); (case hr => walk_at "vq"))
  | (refine' vt_val ?hv; case hv => walk_at "vd"))
/-! ### stretched -/
abbrev sStr : Stmt := s_stretched
theorem scStr : FnScope ["period", "marks", "length", "start", "mark"] ["period", "marks", "length"] (defScope sStr) := ⟨rfl, rfl, rfl, by decide +kernel, rfl, by decide +kernel, by decide +kernel⟩
/-- the marked ones below n periods -/
def strL (c : Nat) (M : List Nat) (n : Nat) : List Nat := (List.range n).flatMap fun k => M.map fun x => k * c + x
theorem strL_len {c : Nat} {M : List Nat} : ∀ n : Nat, (strL c M n).length = n * M.length
  | 0 => by simp [strL]
  | n + 1 => by
    have z := strL_len (c := c) (M := M) n
    unfold strL at z ⊢
    rw [List.range_succ, List.flatMap_append, List.length_append, z, List.flatMap_cons, List.flatMap_nil, List.append_nil, List.length_map, Nat.add_mul, Nat.one_mul]
theorem mem_strL {c n x : Nat} {M : List Nat} (hc : 0 < c) (hM : ∀ m ∈ M, m < c) : x ∈ strL c M n ↔ x < n * c ∧ x % c ∈ M := by
  unfold strL
  rw [List.mem_flatMap]
  constructor
  · rintro ⟨k, hk, hx⟩
    obtain ⟨m, hm, rfl⟩ := List.mem_map.mp hx
    have hk2 := List.mem_range.mp hk
    have h1 := hM m hm
    refine ⟨?_, ?_⟩
    · have : (k + 1) * c ≤ n * c := Nat.mul_le_mul_right c hk2
      rw [Nat.add_mul] at this
      omega
    · rw [Nat.mul_comm, Nat.mul_add_mod, Nat.mod_eq_of_lt h1]
      exact hm
  · rintro ⟨h1, h2⟩
    refine ⟨x / c, List.mem_range.mpr ((Nat.div_lt_iff_lt_mul hc).mpr h1), List.mem_map.mpr ⟨x % c, h2, ?_⟩⟩
    have := Nat.div_add_mod x c
    rw [Nat.mul_comm] at this
    exact this
theorem asc_strL {c : Nat} {M : List Nat} (hM : ∀ m ∈ M, m < c) (a : Per.Asc M) : ∀ n : Nat, Per.Asc (strL c M n)
  | 0 => by simp [strL, Per.Asc]
  | n + 1 => by
    have z := asc_strL hM a n
    unfold strL at z ⊢
    rw [List.range_succ, List.flatMap_append, List.flatMap_cons, List.flatMap_nil, List.append_nil]
    refine List.pairwise_append.mpr ⟨z, List.pairwise_map.mpr (a.imp fun h => by omega), fun x hx y hy => ?_⟩
    obtain ⟨m, hm, rfl⟩ := List.mem_map.mp hy
    obtain ⟨k, hk, hx2⟩ := List.mem_flatMap.mp hx
    obtain ⟨m2, hm2, rfl⟩ := List.mem_map.mp hx2
    have hk2 := List.mem_range.mp hk
    have h1 := hM m2 hm2
    have : (k + 1) * c ≤ n * c := Nat.mul_le_mul_right c hk2
    rw [Nat.add_mul] at this
    omega
def RStr (ds : List D) (d : D) : Prop := ∃ (c n : Nat) (M : List Nat), ds = [natD c, .tup (M.map natD), natD (n * c)] ∧ 0 < c ∧ c ≤ 100000 ∧ n * c ≤ 100000 ∧ n * M.length ≤ 100000 ∧ d = .lst ((strL c M n).map natD)
section
variable {γ : Gds} {P : Program} {w : World} {K : PySem.W.Frag} {mg : Str → Option Value} {base : Heap}
theorem ok_stretched {f : Addr} {fd : FuncData} (Fn : Fun K "stretched" "stretched" sStr f fd) (mL : mg "len" = none) (mR : mg "range" = none) : FnG γ P w K mg base CX0 1 f fd ["period", "marks", "length"] (spR K RStr) := by
  refine okR Fn scStr (fun ds d ⟨c, n, M, e, _⟩ => by rw [e]; rfl) fun cdv A0 outer s H B ow ds d Q E hgd hrm hR kQ => ?_
  obtain ⟨c, n, M, rfl, hc, hc2, hn, hl, rfl⟩ := hR
  refine' rn_if (t := decide (M = [])) ?h ?h1 ?h2
  case h => exact vt_is (vt_comp (ve_bi (va_cons (ve_var (d := .tup (M.map natD)) (i := 1) rfl rfl (by walk_at "vis")) va_nil) rfl mL boot_len fo_lenT) ve_int co_eqI) (by rw [List.length_map]; cases M <;> simp <;> omega)
  case h1 =>
    intro t B1 e1
    have e : M = [] := of_decide_eq_true t
    subst e
    exact rn_ret (ve_is (ve_lst va_nil (Nat.zero_le _)) (by simp [strL])) (kQ.ex e1)
  case h2 =>
    intro _ B1 e1
    refine rn_go ?_
    refine rn_ret (ve_is (ve_lc2 (j := 3) (j1 := 4) (ds := stepD n c) (fun _ => M.map natD) (fun d1 d2 => match d1, d2 with | .int i, .int j => .int (i + j) | _, _ => .non) rfl scStr.nd ?hi (blkOk_by (N := ["period", "marks", "length", "start", "mark"]) (sc := defScope sStr) (by decide +kernel)) (by decide) ?hl (fun _ _ _ _ _ => pg_name (i := 3) scStr.nd rfl (.inl rfl)) (fun _ _ _ _ _ => pg_name (i := 4) scStr.nd rfl (.inl rfl)) ?hi1 ?he) ?eq) (kQ.ex e1)
    case hi => exact vi_step rfl mR ve_int (ve_var (d := natD (n * c)) (i := 2) rfl rfl (by walk_at "vis")) (ve_var (d := natD c) (i := 0) rfl rfl (by walk_at "vis")) hc (by omega) (by omega)
    case hl =>
      intro i hi
      have z : ∀ (l : List D), (l.flatMap fun d => (M.map natD).map fun d2 => match d, d2 with | .int i, .int j => D.int (i + j) | _, _ => D.non).length = l.length * M.length := by
        intro l
        induction l with
        | nil => simp
        | cons a r ih => rw [List.flatMap_cons, List.length_append, ih, List.length_map, List.length_map, List.length_cons, Nat.add_mul]; omega
      rw [z, List.length_take]
      have : stepD n c = (List.range n).map fun k => .int ((k * c : Nat) : Int) := rfl
      have hd : (stepD n c).length = n := by rw [this, List.length_map, List.length_range]
      rw [hd] at hi ⊢
      have : min i n * M.length ≤ n * M.length := Nat.mul_le_mul_right _ (Nat.min_le_right _ _)
      omega
    case hi1 =>
      intro d ow' hd sub s0 H0 C0 cl fp
      exact vi_tup (ve_var (d := .tup (M.map natD)) (i := 1) rfl rfl (by walk_at "vis"))
    case he =>
      intro d d1 ow' hd hd1 sub s0 H0 C0 cl fp
      obtain ⟨k, _, rfl⟩ := List.mem_map.mp hd
      obtain ⟨m, _, rfl⟩ := List.mem_map.mp hd1
      exact ve_bin (ve_var (i := 3) rfl rfl (by walk_at "vis")) (ve_var (i := 4) rfl rfl (by walk_at "vis")) bo_add
    case eq =>
      congr 1
      unfold strL stepD
      rw [List.map_flatMap, List.flatMap_map]
      congr 1
      funext k
      rw [List.map_map, List.map_map]
      exact List.map_congr_left fun m _ => by show D.int _ = D.int _; congr 1
end
end K2
set_option Elab.async false
set_option linter.all false
set_option maxRecDepth 100000
set_option maxHeartbeats 4000000
namespace K2
open PySem L2 Vd
open PySem.Spec PyProof.Rows
/-! the walk over data -/
local macro_rules | `(tactic| walk_at "vis") => `(tactic| first | exact Or.inl rfl | exact Or.inr (Or.inl rfl) | exact Or.inr (Or.inr rfl))
local macro_rules | `(tactic| walk_at "none") => `(tactic| first | assumption)
local macro_rules | `(tactic| walk_at "num") => `(tactic| first | decide | omega)
local macro_rules | `(tactic| walk_at "vr") => `(tactic| first
  | exact bo_add | exact bo_sub | exact bo_mulR (by decide) | exact bo_mulL (by decide) | exact bo_mod (by walk_at "num") | exact bo_div (by walk_at "num") (by walk_at "num") | exact bo_pow (by decide) (by decide) (by decide) | exact bo_cat (by walk_at "num") | exact bo_mulR (by omega) | exact bo_mulL (by omega))
local macro_rules | `(tactic| walk_at "vq") => `(tactic| first
  | exact co_lt | exact co_le | exact co_gt | exact co_ge | exact co_eqI | exact co_neI | exact co_eqS | exact co_neS)
local macro_rules | `(tactic| walk_at "vx") => `(tactic| first
  | exact xo_own (by assumption) rfl | exact xo_lst rfl | exact xo_tup rfl)
local macro_rules | `(tactic| walk_at "vf") => `(tactic| first
  | exact fo_abs | exact fo_lenL | exact fo_lenT | exact fo_lenO (by assumption) | exact fo_divmod (by walk_at "num") (by walk_at "num") | exact fo_max rfl | exact fo_min rfl)
local macro_rules | `(tactic| walk_at "vn") => `(tactic| first
  | exact ve_var (i := 0) rfl rfl (by walk_at "vis") | exact ve_var (i := 1) rfl rfl (by walk_at "vis") | exact ve_var (i := 2) rfl rfl (by walk_at "vis") | exact ve_var (i := 3) rfl rfl (by walk_at "vis") | exact ve_var (i := 4) rfl rfl (by walk_at "vis") | exact ve_var (i := 5) rfl rfl (by walk_at "vis") | exact ve_var (i := 6) rfl rfl (by walk_at "vis") | exact ve_var (i := 7) rfl rfl (by walk_at "vis"))
local macro_rules | `(tactic| walk_at "vd") => `(tactic| first
  | exact ve_int | exact ve_bl | exact ve_non | exact ve_str
  | (refine' ve_bin ?ha ?hb ?hr; (case ha => walk_at "vd"); (case hb => walk_at "vd"); (case hr => walk_at "vr"))
  | (refine' ve_sub ?ha ?hb (fun _ _ => rfl) ?hr; (case ha => walk_at "vd"); (case hb => walk_at "vd"); (case hr => walk_at "vx"))
  | (refine' ve_ty (id := "int") ?ha rfl ?hm boot_int ?hr; (case ha => walk_at "va"); (case hm => walk_at "none"); (case hr => exact to_int))
  | (refine' ve_bi ?ha rfl ?hm ?hv ?hr; (case hv => first | exact boot_abs | exact boot_len | exact boot_divmod | exact boot_max | exact boot_min); (case ha => walk_at "va"); (case hm => walk_at "none"); (case hr => walk_at "vf"))
  | (refine' ve_tup ?ha ?hl; (case ha => walk_at "va"); (case hl => walk_at "num"))
  | (refine' ve_lst ?ha ?hl; (case ha => walk_at "va"); (case hl => walk_at "num"))
  | (refine' ve_comp ?ha ?hb ?hr; (case ha => walk_at "vd"); (case hb => walk_at "vd"); (case hr => walk_at "vq"))
  | walk_at "vn")
local macro_rules | `(tactic| walk_at "va") => `(tactic| first | exact va_nil | (refine' va_cons ?ha ?hb; (case ha => walk_at "vd"); (case hb => walk_at "va")))
local macro_rules | `(tactic| walk_at "vt") => `(tactic| first
  | (refine' vt_comp ?ha ?hb ?hr; (case ha => walk_at "vd"); (case hb => walk_at "vd"); (case hr => walk_at "vq"))
  | (refine' vt_val ?hv; case hv => walk_at "vd"))
/-! ### inverse -/
abbrev sInv : Stmt := s_inverse
theorem scInv : FnScope ["number", "modulus", "ahead", "behind", "worth_ahead", "worth_behind", "many"] ["number", "modulus"] (defScope sInv) := ⟨rfl, rfl, rfl, by decide +kernel, rfl, by decide +kernel, by decide +kernel⟩
theorem bez : ∀ (b a : Nat), ∃ u v : Int, (a : Int) * u + (b : Int) * v = (Nat.gcd a b : Int) := by
  intro b
  induction b using Nat.strongRecOn with
  | _ b ih =>
    intro a
    rcases Nat.eq_zero_or_pos b with h | h
    · subst h
      exact ⟨1, 0, by simp⟩
    · obtain ⟨u, v, e⟩ := ih (a % b) (Nat.mod_lt _ h) b
      refine ⟨v, u - (a / b : Nat) * v, ?_⟩
      have g : Nat.gcd a b = Nat.gcd b (a % b) := by rw [Nat.gcd_comm a b, Nat.gcd_rec, Nat.gcd_comm]
      rw [g, ← e]
      have d : (a : Int) = (b : Int) * ((a / b : Nat) : Int) + ((a % b : Nat) : Int) := by
        rw [← Int.natCast_mul, ← Int.natCast_add, Nat.div_add_mod]
      rw [Int.mul_sub]
      conv => lhs; lhs; rw [d]
      rw [Int.add_mul, ← Int.mul_assoc]
      omega
theorem inv_uniq {a m x : Nat} {y : Int} (hm : 0 < m) (hx : x < m) (h1 : (a * x) % m = 1 % m) (h2 : 0 ≤ y) (h3 : y < m) (h4 : ∃ k : Int, (a : Int) * y = 1 + k * m) : y = x := by
  obtain ⟨k1, e1⟩ := h4
  obtain ⟨k2, e2⟩ : ∃ k : Int, (a : Int) * x = 1 + k * m := by
    have z : ((a * x : Nat) : Int) % (m : Int) = (1 : Int) % (m : Int) := by
      have := congrArg (fun n : Nat => (n : Int)) h1
      simpa using this
    have d := Int.emod_emod_of_dvd
    have z2 : (((a * x : Nat) : Int) - 1) % (m : Int) = 0 := Int.emod_eq_emod_iff_emod_sub_eq_zero.mp z
    obtain ⟨k, hk⟩ := Int.dvd_of_emod_eq_zero z2
    refine ⟨k, ?_⟩
    rw [← Int.natCast_mul, Int.mul_comm k]
    omega
  have dv : (m : Int) ∣ y - x := by
    refine ⟨(x : Int) * k1 - y * k2, ?_⟩
    have q1 : y * ((a : Int) * x) = y * (1 + k2 * m) := by rw [e2]
    have q2 : (x : Int) * ((a : Int) * y) = x * (1 + k1 * m) := by rw [e1]
    have q3 : y * ((a : Int) * x) = (x : Int) * ((a : Int) * y) := by
      rw [Int.mul_left_comm, Int.mul_comm y x, Int.mul_left_comm]
    rw [q1, q2, Int.mul_add, Int.mul_add, Int.mul_one, Int.mul_one] at q3
    rw [Int.mul_sub, Int.mul_left_comm (m : Int), Int.mul_left_comm (m : Int), Int.mul_comm (m : Int) k1, Int.mul_comm (m : Int) k2]
    omega
  have z := Int.emod_eq_zero_of_dvd dv
  obtain ⟨q, hq⟩ := dv
  have : q = 0 := by
    rcases Int.lt_trichotomy q 0 with h | h | h
    · have : (m : Int) * q ≤ (m : Int) * (-1) := Int.mul_le_mul_of_nonneg_left (by omega) (by omega)
      omega
    · exact h
    · have : (m : Int) * 1 ≤ (m : Int) * q := Int.mul_le_mul_of_nonneg_left (by omega) (by omega)
      omega
  subst this
  omega
theorem inv_ex {a m : Nat} (hm : 0 < m) (hg : Nat.gcd a m = 1) : ∃ x, x < m ∧ (a * x) % m = 1 % m := by
  obtain ⟨u, v, e⟩ := bez m a
  rw [hg] at e
  have h0 := Int.emod_nonneg u (show (m : Int) ≠ 0 by omega)
  have h1 := Int.emod_lt_of_pos u (show (0 : Int) < m by omega)
  refine ⟨(u % (m : Int)).toNat, by omega, ?_⟩
  have z : ((a : Int) * (u % (m : Int))) % (m : Int) = 1 % (m : Int) := by
    rw [Int.mul_emod, Int.emod_emod, ← Int.mul_emod]
    have : (a : Int) * u = 1 + (m : Int) * (-v) := by
      rw [Int.mul_neg]
      omega
    rw [this, Int.add_mul_emod_self_left]
  have c : ((u % (m : Int)).toNat : Int) = u % (m : Int) := Int.toNat_of_nonneg h0
  have : ((a * (u % (m : Int)).toNat : Nat) : Int) % (m : Int) = ((1 : Nat) : Int) % (m : Int) := by
    rw [Int.natCast_mul, c]
    exact z
  exact_mod_cast this
def RInv (ds : List D) (d : D) : Prop := ∃ a m x : Nat, ds = [natD a, natD m] ∧ 0 < m ∧ m ≤ 100000 ∧ Nat.gcd a m = 1 ∧ x < m ∧ (a * x) % m = 1 % m ∧ d = natD x
section
variable {γ : Gds} {P : Program} {w : World} {K : PySem.W.Frag} {mg : Str → Option Value} {base : Heap}
theorem ok_inverse {f : Addr} {fd : FuncData} (Fn : Fun K "inverse" "inverse" sInv f fd) : FnG γ P w K mg base CX0 1 f fd ["number", "modulus"] (spR K RInv) := by
  refine okR Fn scInv (fun ds d ⟨a, m, x, e, _⟩ => by rw [e]; rfl) fun cdv A0 outer s H B ow ds d Q E hgd hrm hR kQ => ?_
  obtain ⟨a, m, x, rfl, hm, hm2, hg, hx, hax, rfl⟩ := hR
  have hmod : (a : Int) % (m : Int) = ((a % m : Nat) : Int) := (Int.natCast_emod a m).symm
  refine' rn_par (i := 2) (j := 3) (d1 := natD m) (d2 := natD (a % m)) rfl scInv.nd rfl rfl (by decide) rfl rfl ?p1 ?p2 ?k1 ?w1 rfl rfl ⟨_, ps_par rfl scInv.nd rfl rfl (by decide) rfl rfl pa_can rfl, rfl⟩
  case w1 => rfl
  case p1 => exact ve_var (i := 1) rfl rfl (by walk_at "vis")
  case p2 => exact ve_is (ve_bin (ve_var (d := natD a) (i := 0) rfl rfl (by walk_at "vis")) (ve_var (d := natD m) (i := 1) rfl rfl (by walk_at "vis")) (bo_mod (by omega))) (by show D.int _ = D.int _; rw [hmod])
  case k1 =>
  intro B1 e1
  refine' rn_asg (g := gTup K 2 (gCons (gName 4) (gCons (gName 5) gNil))) (f := fun env => (env.set 4 (some (.int 0))).set 5 (some (.int 1))) (d := .tup [.int 0, .int 1]) (pg_tup rfl (pgs_cons (pg_name scInv.nd rfl (.inl rfl)) (pgs_cons (pg_name scInv.nd rfl (.inl rfl)) pgs_nil))) (ve_tup (va_cons ve_int (va_cons ve_int va_nil)) (by show 2 ≤ 100000; decide)) (gd_two 4 5) ?k2
  case k2 =>
  intro B2 e2
  refine' rn_while (fun n env' ow' => ow = ow' ∧ ∃ (A Bb : Nat) (wa wb : Int) (z : Option D), Bb = n ∧ env' = [some (natD a), some (natD m), some (natD A), some (natD Bb), some (.int wa), some (.int wb), z] ∧ 0 < A ∧ A ≤ m ∧ Bb < m + 1 ∧ Nat.gcd A Bb = 1 ∧ (∃ k : Int, (a : Int) * wa = A + k * m) ∧ (∃ k : Int, (a : Int) * wb = Bb + k * m)) PassesOwn.never ?h0 ?hs
  case h0 =>
    refine ⟨_, rfl, m, a % m, 0, 1, none, rfl, rfl, hm, Nat.le_refl _, by have := Nat.mod_lt a hm; omega, ?_, ⟨-1, by omega⟩, ⟨((a / m : Nat) : Int), ?_⟩⟩
    · rw [Nat.gcd_comm, ← Nat.gcd_rec, Nat.gcd_comm]
      exact hg
    · have := Nat.div_add_mod a m
      have z : ((m * (a / m) + a % m : Nat) : Int) = (a : Int) := by rw [this]
      rw [Int.natCast_add, Int.natCast_mul, Int.mul_comm] at z
      omega
  case hs =>
    rintro B3 n env' ow' e3 ⟨rfl, A, Bb, wa, wb, z, rfl, rfl, hA, hAm, hBm, hg2, ⟨k1, q1⟩, ⟨k2, q2⟩⟩
    refine ⟨decide ((Bb : Int) > 0), vt_comp (ve_var (d := natD Bb) (i := 3) rfl rfl (by walk_at "vis")) ve_int co_gt, fun t B4 e4 => ?_, fun t B4 e4 => ?_⟩
    · have hb : 0 < Bb := by have := of_decide_eq_true t; omega
      have hdiv : (A : Int) / (Bb : Int) = ((A / Bb : Nat) : Int) := (Int.natCast_ediv A Bb).symm
      have hle : A / Bb ≤ A := Nat.div_le_self _ _
      have hbq : -(2 ^ 64) < ((A / Bb : Nat) : Int) ∧ ((A / Bb : Nat) : Int) < 2 ^ 64 := ⟨Int.lt_of_lt_of_le (by decide) (Int.natCast_nonneg (A / Bb)), Int.lt_of_le_of_lt (Int.ofNat_le.mpr (Nat.le_trans hle (Nat.le_trans hAm hm2))) (by decide)⟩
      refine' rn_set (i := 6) (d := natD (A / Bb)) scInv.nd rfl (.inl rfl) ?h1 ?k3
      case h1 => exact ve_is (ve_bin (ve_var (d := natD A) (i := 2) rfl rfl (by walk_at "vis")) (ve_var (d := natD Bb) (i := 3) rfl rfl (by walk_at "vis")) (bo_div (by omega) (by omega))) (by show D.int _ = D.int _; rw [hdiv])
      case k3 =>
      intro B5 e5
      have hrest : (A : Int) - ((A / Bb : Nat) : Int) * (Bb : Int) = ((A % Bb : Nat) : Int) := by
        have := Nat.div_add_mod A Bb
        have z : ((Bb * (A / Bb) + A % Bb : Nat) : Int) = (A : Int) := by rw [this]
        rw [Int.natCast_add, Int.natCast_mul, Int.mul_comm] at z
        omega
      refine' rn_par (i := 2) (j := 3) (d1 := natD Bb) (d2 := natD (A % Bb)) rfl scInv.nd rfl rfl (by decide) rfl rfl ?p3 ?p4 ?k4 ?w3 rfl rfl ⟨_, ps_par rfl scInv.nd rfl rfl (by decide) rfl rfl pa_can rfl, rfl⟩
      case w3 => rfl
      case p3 => exact ve_var (i := 3) rfl rfl (by walk_at "vis")
      case p4 => exact ve_is (ve_bin (ve_var (d := natD A) (i := 2) rfl rfl (by walk_at "vis")) (ve_bin (ve_var (d := natD (A / Bb)) (i := 6) rfl rfl (by walk_at "vis")) (ve_var (d := natD Bb) (i := 3) rfl rfl (by walk_at "vis")) (bo_mulL hbq)) bo_sub) (by show D.int _ = D.int _; rw [hrest])
      case k4 =>
      intro B6 e6
      refine' rn_par (i := 4) (j := 5) (d1 := .int wb) (d2 := .int (wa - ((A / Bb : Nat) : Int) * wb)) rfl scInv.nd rfl rfl (by decide) rfl rfl ?p5 ?p6 ?k5 ?w4 rfl rfl ⟨_, ps_par rfl scInv.nd rfl rfl (by decide) rfl rfl pa_can rfl, rfl⟩
      case w4 => rfl
      case p5 => exact ve_var (i := 5) rfl rfl (by walk_at "vis")
      case p6 => exact ve_bin (ve_var (d := .int wa) (i := 4) rfl rfl (by walk_at "vis")) (ve_bin (ve_var (d := natD (A / Bb)) (i := 6) rfl rfl (by walk_at "vis")) (ve_var (d := .int wb) (i := 5) rfl rfl (by walk_at "vis")) (bo_mulL hbq)) bo_sub
      case k5 =>
      intro B7 e7
      have hlt := Nat.mod_lt A hb
      refine rn_nextW ⟨A % Bb, hlt, rfl, Bb, A % Bb, wb, _, _, rfl, rfl, hb, by omega, by omega, ?_, ⟨k2, q2⟩, ⟨k1 - ((A / Bb : Nat) : Int) * k2, ?_⟩⟩ (e4.trans (e5.trans (e6.trans e7)))
      · rw [Nat.gcd_comm, ← Nat.gcd_rec, Nat.gcd_comm]
        exact hg2
      · rw [Int.mul_sub, q1, Int.mul_left_comm, q2, Int.sub_mul, Int.mul_assoc, ← hrest, Int.mul_add]
        omega
    · have hb : Bb = 0 := by have := of_decide_eq_false t; omega
      subst hb
      rw [Nat.gcd_zero_right] at hg2
      subst hg2
      have y1 := Int.emod_nonneg wa (show (m : Int) ≠ 0 by omega)
      have y2 := Int.emod_lt_of_pos wa (show (0 : Int) < m by omega)
      have y : wa % (m : Int) = (x : Int) := inv_uniq hm hx hax y1 y2 ⟨k1 - (a : Int) * (wa / (m : Int)), by
        have := Int.mul_ediv_add_emod wa (m : Int)
        have e : (a : Int) * (wa % (m : Int)) = (a : Int) * wa - (a : Int) * ((m : Int) * (wa / (m : Int))) := by
          rw [← Int.mul_sub]
          congr 1
          omega
        rw [e, q1, Int.sub_mul, Int.mul_assoc, Int.mul_comm (wa / (m : Int)) (m : Int)]
        omega⟩
      refine rn_ret (ve_is (ve_bin (ve_var (d := .int wa) (i := 4) rfl rfl (by walk_at "vis")) (ve_var (d := natD m) (i := 1) rfl rfl (by walk_at "vis")) (bo_mod (by omega))) (by show D.int _ = D.int _; rw [y])) (kQ.ex (e1.trans (e2.trans (e3.trans e4))))
end
end K2
set_option Elab.async false
set_option linter.all false
set_option maxRecDepth 100000
set_option maxHeartbeats 4000000
namespace K2
open PySem L2 Vd
open PySem.Spec PyProof.Rows
/-! the walk over data -/
local macro_rules | `(tactic| walk_at "vis") => `(tactic| first | exact Or.inl rfl | exact Or.inr (Or.inl rfl) | exact Or.inr (Or.inr rfl))
local macro_rules | `(tactic| walk_at "none") => `(tactic| first | assumption)
local macro_rules | `(tactic| walk_at "num") => `(tactic| first | decide | omega)
local macro_rules | `(tactic| walk_at "vr") => `(tactic| first
  | exact bo_add | exact bo_sub | exact bo_mulR (by decide) | exact bo_mulL (by decide) | exact bo_mod (by walk_at "num") | exact bo_div (by walk_at "num") (by walk_at "num") | exact bo_pow (by decide) (by decide) (by decide) | exact bo_cat (by walk_at "num") | exact bo_mulR (by omega) | exact bo_mulL (by omega))
local macro_rules | `(tactic| walk_at "vq") => `(tactic| first
  | exact co_lt | exact co_le | exact co_gt | exact co_ge | exact co_eqI | exact co_neI | exact co_eqS | exact co_neS)
local macro_rules | `(tactic| walk_at "vx") => `(tactic| first
  | exact xo_own (by assumption) rfl | exact xo_lst rfl | exact xo_tup rfl)
local macro_rules | `(tactic| walk_at "vf") => `(tactic| first
  | exact fo_abs | exact fo_lenL | exact fo_lenT | exact fo_lenO (by assumption) | exact fo_divmod (by walk_at "num") (by walk_at "num") | exact fo_max rfl | exact fo_min rfl)
local macro_rules | `(tactic| walk_at "vn") => `(tactic| first
  | exact ve_var (i := 0) rfl rfl (by walk_at "vis") | exact ve_var (i := 1) rfl rfl (by walk_at "vis") | exact ve_var (i := 2) rfl rfl (by walk_at "vis") | exact ve_var (i := 3) rfl rfl (by walk_at "vis") | exact ve_var (i := 4) rfl rfl (by walk_at "vis") | exact ve_var (i := 5) rfl rfl (by walk_at "vis") | exact ve_var (i := 6) rfl rfl (by walk_at "vis") | exact ve_var (i := 7) rfl rfl (by walk_at "vis"))
local macro_rules | `(tactic| walk_at "vd") => `(tactic| first
  | exact ve_int | exact ve_bl | exact ve_non | exact ve_str
  | (refine' ve_bin ?ha ?hb ?hr; (case ha => walk_at "vd"); (case hb => walk_at "vd"); (case hr => walk_at "vr"))
  | (refine' ve_sub ?ha ?hb (fun _ _ => rfl) ?hr; (case ha => walk_at "vd"); (case hb => walk_at "vd"); (case hr => walk_at "vx"))
  | (refine' ve_ty (id := "int") ?ha rfl ?hm boot_int ?hr; (case ha => walk_at "va"); (case hm => walk_at "none"); (case hr => exact to_int))
  | (refine' ve_bi ?ha rfl ?hm ?hv ?hr; (case hv => first | exact boot_abs | exact boot_len | exact boot_divmod | exact boot_max | exact boot_min); (case ha => walk_at "va"); (case hm => walk_at "none"); (case hr => walk_at "vf"))
  | (refine' ve_tup ?ha ?hl; (case ha => walk_at "va"); (case hl => walk_at "num"))
  | (refine' ve_lst ?ha ?hl; (case ha => walk_at "va"); (case hl => walk_at "num"))
  | (refine' ve_comp ?ha ?hb ?hr; (case ha => walk_at "vd"); (case hb => walk_at "vd"); (case hr => walk_at "vq"))
  | walk_at "vn")
local macro_rules | `(tactic| walk_at "va") => `(tactic| first | exact va_nil | (refine' va_cons ?ha ?hb; (case ha => walk_at "vd"); (case hb => walk_at "va")))
local macro_rules | `(tactic| walk_at "vt") => `(tactic| first
  | (refine' vt_comp ?ha ?hb ?hr; (case ha => walk_at "vd"); (case hb => walk_at "vd"); (case hr => walk_at "vq"))
  | (refine' vt_val ?hv; case hv => walk_at "vd"))
/-! ### places -/
abbrev sPlc : Stmt := s__law_places
theorem scPlc : FnScope ["s", "size", "found", "at", "step"] ["s", "size"] (defScope sPlc) := ⟨rfl, rfl, rfl, by decide +kernel, rfl, by decide +kernel, by decide +kernel⟩
def stepL (n x : Nat) : List Nat := (([-1, 0, 1, (n : Int)] : List Int).filter fun j => decide (0 ≤ (x : Int) + j)).map fun j => ((x : Int) + j).toNat
theorem stepL_len (n x : Nat) : (stepL n x).length ≤ 4 := by
  unfold stepL
  rw [List.length_map]
  exact List.length_filter_le _ _
theorem stepL_eq (n x : Nat) : ((([.int (-1), .int 0, .int 1, natD n] : List D).filter (fun d => match d with | .int j => decide (0 ≤ (x : Int) + j) | _ => false)).map fun d => match d with | .int j => .int ((x : Int) + j) | _ => .non) = (stepL n x).map natD := by
  have e : ([.int (-1), .int 0, .int 1, natD n] : List D) = ([-1, 0, 1, (n : Int)] : List Int).map D.int := rfl
  rw [e, List.filter_map, List.map_map]
  unfold stepL
  rw [List.map_map]
  apply List.map_congr_left
  intro j hj
  have pos : 0 ≤ (x : Int) + j := of_decide_eq_true (List.mem_filter.mp hj).2
  show D.int ((x : Int) + j) = D.int ((((x : Int) + j).toNat : Nat) : Int)
  rw [Int.toNat_of_nonneg pos]
def plcL (ns : List Nat) (n : Nat) : List Nat := (List.range (2 * n + 6) ++ ns.flatMap (stepL n)) ++ [100000000000000000007, 1000000000000000000000000000000]
theorem flat_len (n : Nat) : ∀ l : List Nat, (l.flatMap (stepL n)).length ≤ 4 * l.length
  | [] => Nat.le_refl _
  | x :: l => by
    have z := flat_len n l
    have y := stepL_len n x
    rw [List.flatMap_cons, List.length_append, List.length_cons]
    omega
def RPlc (ds : List D) (d : D) : Prop := ∃ (ns : List Nat) (n : Nat), ds = [.lst (ns.map natD), natD n] ∧ ns.length ≤ 8 ∧ n ≤ 10000 ∧ d = .lst ((plcL ns n).map natD)
theorem nat_list {kp : D → Bool} {f : D → D} : ∀ {l : List D}, (∀ d ∈ l, kp d = true → ∃ n : Nat, f d = natD n) → ∃ L : List Nat, (l.filter kp).map f = L.map natD ∧ L.length ≤ l.length
  | [], _ => ⟨[], rfl, Nat.le_refl _⟩
  | d :: l, h => by
    obtain ⟨L, e, z⟩ := nat_list (l := l) fun x hx => h x (List.mem_cons_of_mem _ hx)
    cases q : kp d with
    | false =>
      refine ⟨L, ?_, Nat.le_succ_of_le z⟩
      rw [List.filter_cons_of_neg (by rw [q]; decide)]
      exact e
    | true =>
      obtain ⟨n, hn⟩ := h d List.mem_cons_self q
      refine ⟨n :: L, ?_, Nat.succ_le_succ z⟩
      rw [List.filter_cons_of_pos q, List.map_cons, List.map_cons, e, hn]
theorem range_nat (n : Nat) : rangeD 0 n = (List.range n).map natD := List.map_congr_left fun x _ => by
  show D.int (0 + (x : Int)) = D.int (x : Int)
  rw [Int.zero_add]
section
variable {γ : Gds} {P : Program} {w : World} {K : PySem.W.Frag} {mg : Str → Option Value} {base : Heap}
theorem ok_lplaces {f : Addr} {fd : FuncData} (Fn : Fun K "_law_places" "_law_places" sPlc f fd) (mR : mg "range" = none) (mL : mg "list" = none) : FnG γ P w K mg base CX0 1 f fd ["s", "size"] (spR K RPlc) := by
  refine okR Fn scPlc (fun ds d ⟨ns, n, e, _⟩ => by rw [e]; rfl) fun cdv A0 outer s H B ow ds d Q E hgd hrm hR kQ => ?_
  obtain ⟨ns, n, rfl, hl, hn, rfl⟩ := hR
  refine' rn_set scPlc.nd rfl (.inl rfl) (i := 2) (d := .lst ((List.range (2 * n + 6)).map natD)) ?h1 ?k1
  case h1 => exact ve_is (ve_listR (n := 2 * n + 6) rfl rfl mL rfl mR (ve_is (ve_bin (ve_bin ve_int (ve_var (d := natD n) (i := 1) rfl rfl (by walk_at "vis")) (bo_mulL (by omega))) ve_int bo_add) (by rfl)) (by omega)) (by rw [range_nat])
  case k1 =>
  intro B1 e1
  refine' rn_for (ds := ns.map natD) (g := gName 3) (f := fun d env => env.set 3 (some d)) (fun i env ow' => ow' = ow ∧ env[1]? = some (some (natD n)) ∧ env.length = 5 ∧ env[2]? = some (some (.lst ((List.range (2 * n + 6) ++ (ns.take i).flatMap (stepL n)).map natD)))) PassesOwn.never rfl ?hi ?hg (fun ow d _ => gd_name 3) ⟨rfl, rfl, rfl, by rw [List.take_zero, List.flatMap_nil, List.append_nil]; rfl⟩ ?hs ?hd
  case hi => exact vi_list (ve_var (i := 0) rfl rfl (by walk_at "vis"))
  case hg => exact pg_name (i := 3) scPlc.nd rfl (.inr rfl)
  case hd =>
    rintro B2 env' ow' e2 ⟨rfl, _, _, h2⟩
    rw [List.length_map, List.take_length] at h2
    have z := flat_len n ns
    refine rn_ret (ve_is (ve_bin (ve_var h2 rfl (by walk_at "vis")) (ve_lst (va_cons (ve_bin (ve_bin ve_int ve_int (bo_pow (by decide) (by decide) (by decide))) ve_int bo_add) (va_cons (ve_bin ve_int ve_int (bo_pow (by decide) (by decide) (by decide))) va_nil)) (by show 2 ≤ 100000; decide)) (bo_cat ?_)) (by rw [plcL, List.map_append (l₂ := [100000000000000000007, 1000000000000000000000000000000])]; rfl)) (kQ.ex (e1.trans e2))
    rw [List.length_map, List.length_append, List.length_range]
    show _ + 2 ≤ 100000
    omega
  case hs =>
    rintro B2 i d env' ow' e2 hd ⟨rfl, h1, h5, h2⟩
    obtain ⟨x, hx, rfl⟩ : ∃ x, ns[i]? = some x ∧ d = natD x := by
      rw [List.getElem?_map] at hd
      cases q : ns[i]? with
      | none => rw [q] at hd; cases hd
      | some x => rw [q] at hd; exact ⟨x, rfl, (Option.some.inj hd).symm⟩
    have hi : i < ns.length := by
      rcases Nat.lt_or_ge i ns.length with h | h
      · exact h
      · rw [List.getElem?_eq_none h] at hx; cases hx
    have htk : ns.take (i + 1) = ns.take i ++ [x] := by rw [List.take_add_one, hx]; rfl
    have zf := flat_len n (ns.take i)
    have zt : (ns.take i).length ≤ 8 := by rw [List.length_take]; omega
    generalize hLL : List.range (2 * n + 6) ++ (ns.take i).flatMap (stepL n) = L at h2
    have hL : L.length ≤ 2 * n + 6 + 32 := by rw [← hLL, List.length_append, List.length_range]; omega
    have hl5 : (env'.set 3 (some (natD x))).length = 5 := by rw [List.length_set]; exact h5
    have g1 : (env'.set 3 (some (natD x)))[1]? = some (some (natD n)) := by rw [List.getElem?_set_ne (by decide)]; exact h1
    have g2 : (env'.set 3 (some (natD x)))[2]? = some (some (.lst (L.map natD))) := by rw [List.getElem?_set_ne (by decide)]; exact h2
    have g3 : (env'.set 3 (some (natD x)))[3]? = some (some (natD x)) := by rw [List.getElem?_set_self (by rw [h5]; decide)]
    generalize env'.set 3 (some (natD x)) = env at hl5 g1 g2 g3 ⊢
    have b3 : ∀ d : D, ((env.set 4 none).set 4 (some d))[3]? = some (some (natD x)) := fun d => by rw [List.getElem?_set_ne (by decide), List.getElem?_set_ne (by decide)]; exact g3
    have b4 : ∀ d : D, ((env.set 4 none).set 4 (some d))[4]? = some (some d) := fun d => by rw [List.getElem?_set_self (by rw [List.length_set, hl5]; decide)]
    have allI : ∀ d ∈ ([.int (-1), .int 0, .int 1, natD n] : List D), ∃ j, d = .int j := fun d hd => by
      rcases List.mem_cons.mp hd with e | hd
      · exact ⟨_, e⟩
      rcases List.mem_cons.mp hd with e | hd
      · exact ⟨_, e⟩
      rcases List.mem_cons.mp hd with e | hd
      · exact ⟨_, e⟩
      rcases List.mem_cons.mp hd with e | hd
      · exact ⟨_, e⟩
      cases hd
    have z2 := stepL_len n x
    have hL2 := stepL_eq n x
    have hEnd : List.range (2 * n + 6) ++ (ns.take (i + 1)).flatMap (stepL n) = L ++ stepL n x := by rw [htk, List.flatMap_append, ← List.append_assoc, hLL, List.flatMap_cons, List.flatMap_nil, List.append_nil]
    generalize stepL n x = L2 at z2 hL2 hEnd
    refine' rn_set scPlc.nd rfl (.inl rfl) (i := 2) (d := .lst ((L ++ L2).map natD)) ?h2 ?k2
    case h2 =>
      rw [List.map_append, ← hL2]
      refine ve_bin (ve_var g2 rfl (by walk_at "vis")) (ve_lc (j := 4) (fun d => match d with | .int j => decide (0 ≤ (x : Int) + j) | _ => false) (fun d => match d with | .int j => .int ((x : Int) + j) | _ => .non) (ds := [.int (-1), .int 0, .int 1, natD n]) rfl scPlc.nd (vi_list (ve_lst (va_cons (ve_neg ve_int) (va_cons ve_int (va_cons ve_int (va_cons (ve_var g1 rfl (by walk_at "vis")) va_nil)))) (by show 4 ≤ 100000; decide))) (blkOk_by (N := ["s", "size", "found", "at", "step"]) (sc := defScope sPlc) (by decide +kernel)) (by show 4 ≤ 100000; decide) (fun _ _ _ _ _ => pg_name (i := 4) scPlc.nd rfl (.inl rfl)) ?ht ?he) (bo_cat ?len)
      case ht =>
        intro d ow' hd sub s0 H0 C0 cl fp
        obtain ⟨j, rfl⟩ := allI d hd
        exact vts_one (vt_comp (ve_bin (ve_var (b3 _) rfl (by walk_at "vis")) (ve_var (b4 _) rfl (by walk_at "vis")) bo_add) ve_int co_ge)
      case he =>
        intro d ow' hd _ sub s0 H0 C0 cl fp
        obtain ⟨j, rfl⟩ := allI d hd
        exact ve_bin (ve_var (b3 _) rfl (by walk_at "vis")) (ve_var (b4 _) rfl (by walk_at "vis")) bo_add
      case len =>
        rw [hL2, List.length_map, List.length_map]
        omega
    case k2 =>
    intro B3 e3
    refine rn_nextW ⟨rfl, ?_, ?_, ?_⟩ e3
    · rw [List.getElem?_set_ne (by decide)]; exact g1
    · rw [List.length_set]; exact hl5
    · rw [List.getElem?_set_self (by rw [hl5]; decide), hEnd]
end
end K2
set_option Elab.async false
set_option linter.all false
set_option maxRecDepth 100000
set_option maxHeartbeats 4000000
namespace K2
open PySem L2 Vd
open PySem.Spec PyProof.Rows
/-! the walk over data -/
local macro_rules | `(tactic| walk_at "vis") => `(tactic| first | exact Or.inl rfl | exact Or.inr (Or.inl rfl) | exact Or.inr (Or.inr rfl))
local macro_rules | `(tactic| walk_at "none") => `(tactic| first | assumption)
local macro_rules | `(tactic| walk_at "num") => `(tactic| first | decide | omega)
local macro_rules | `(tactic| walk_at "vr") => `(tactic| first
  | exact bo_add | exact bo_sub | exact bo_mulR (by decide) | exact bo_mulL (by decide) | exact bo_mod (by walk_at "num") | exact bo_div (by walk_at "num") (by walk_at "num") | exact bo_pow (by decide) (by decide) (by decide) | exact bo_cat (by walk_at "num") | exact bo_mulR (by omega) | exact bo_mulL (by omega))
local macro_rules | `(tactic| walk_at "vq") => `(tactic| first
  | exact co_lt | exact co_le | exact co_gt | exact co_ge | exact co_eqI | exact co_neI | exact co_eqS | exact co_neS)
local macro_rules | `(tactic| walk_at "vx") => `(tactic| first
  | exact xo_own (by assumption) rfl | exact xo_lst rfl | exact xo_tup rfl)
local macro_rules | `(tactic| walk_at "vf") => `(tactic| first
  | exact fo_abs | exact fo_lenL | exact fo_lenT | exact fo_lenO (by assumption) | exact fo_divmod (by walk_at "num") (by walk_at "num") | exact fo_max rfl | exact fo_min rfl)
local macro_rules | `(tactic| walk_at "vn") => `(tactic| first
  | exact ve_var (i := 0) rfl rfl (by walk_at "vis") | exact ve_var (i := 1) rfl rfl (by walk_at "vis") | exact ve_var (i := 2) rfl rfl (by walk_at "vis") | exact ve_var (i := 3) rfl rfl (by walk_at "vis") | exact ve_var (i := 4) rfl rfl (by walk_at "vis") | exact ve_var (i := 5) rfl rfl (by walk_at "vis") | exact ve_var (i := 6) rfl rfl (by walk_at "vis") | exact ve_var (i := 7) rfl rfl (by walk_at "vis"))
local macro_rules | `(tactic| walk_at "vd") => `(tactic| first
  | exact ve_int | exact ve_bl | exact ve_non | exact ve_str
  | (refine' ve_bin ?ha ?hb ?hr; (case ha => walk_at "vd"); (case hb => walk_at "vd"); (case hr => walk_at "vr"))
  | (refine' ve_sub ?ha ?hb (fun _ _ => rfl) ?hr; (case ha => walk_at "vd"); (case hb => walk_at "vd"); (case hr => walk_at "vx"))
  | (refine' ve_ty (id := "int") ?ha rfl ?hm boot_int ?hr; (case ha => walk_at "va"); (case hm => walk_at "none"); (case hr => exact to_int))
  | (refine' ve_bi ?ha rfl ?hm ?hv ?hr; (case hv => first | exact boot_abs | exact boot_len | exact boot_divmod | exact boot_max | exact boot_min); (case ha => walk_at "va"); (case hm => walk_at "none"); (case hr => walk_at "vf"))
  | (refine' ve_tup ?ha ?hl; (case ha => walk_at "va"); (case hl => walk_at "num"))
  | (refine' ve_lst ?ha ?hl; (case ha => walk_at "va"); (case hl => walk_at "num"))
  | (refine' ve_comp ?ha ?hb ?hr; (case ha => walk_at "vd"); (case hb => walk_at "vd"); (case hr => walk_at "vq"))
  | walk_at "vn")
local macro_rules | `(tactic| walk_at "va") => `(tactic| first | exact va_nil | (refine' va_cons ?ha ?hb; (case ha => walk_at "vd"); (case hb => walk_at "va")))
local macro_rules | `(tactic| walk_at "vt") => `(tactic| first
  | (refine' vt_comp ?ha ?hb ?hr; (case ha => walk_at "vd"); (case hb => walk_at "vd"); (case hr => walk_at "vq"))
  | (refine' vt_val ?hv; case hv => walk_at "vd"))
/-! ### the law's first elements: the mathematics -/
theorem cut_take {l : List D} (c : Nat) : Vd.cutD l none (some (c : Int)) = l.take c := by
  by_cases h : c ≤ l.length
  · exact cut_to h
  · unfold Vd.cutD
    rw [HT.sIx_nat, HT.sIx_none, List.drop_zero, Nat.sub_zero, Nat.min_eq_right (by omega), List.take_of_length_le (Nat.le_refl _), List.take_of_length_le (by omega)]
theorem asc_take {L : List Nat} (a : Per.Asc L) (k : Nat) : Per.Asc (L.take k) := List.Pairwise.sublist (List.take_sublist k L) a
theorem asc_filter {L : List Nat} (a : Per.Asc L) (p : Nat → Bool) : Per.Asc (L.filter p) := List.Pairwise.sublist List.filter_sublist a
theorem take_rest {L : List Nat} (a : Per.Asc L) {k y : Nat} (hy : y ∈ L) (no : ¬ y ∈ L.take k) : (L.take k).length = k ∧ ∀ x ∈ L.take k, x < y := by
  have e := List.take_append_drop k L
  have hd : y ∈ L.drop k := by
    rw [← e] at hy
    rcases List.mem_append.mp hy with z | z
    · exact absurd z no
    · exact z
  refine ⟨?_, fun x hx => ?_⟩
  · rw [List.length_take]
    have : (L.drop k).length ≠ 0 := fun z => by rw [List.length_eq_zero_iff.mp z] at hd; cases hd
    rw [List.length_drop] at this
    omega
  · have a2 : Per.Asc (L.take k ++ L.drop k) := by rw [e]; exact a
    exact (List.pairwise_append.mp a2).2.2 x hx y hd
theorem split_len (p : Nat → Bool) : ∀ l : List Nat, (l.filter p).length + (l.filter fun x => !p x).length = l.length
  | [] => rfl
  | x :: l => by
    have z := split_len p l
    cases q : p x with
    | true =>
      rw [List.filter_cons_of_pos q, List.filter_cons_of_neg (by rw [q]; decide), List.length_cons, List.length_cons]
      omega
    | false =>
      rw [List.filter_cons_of_neg (by rw [q]; decide), List.filter_cons_of_pos (by rw [q]; rfl), List.length_cons, List.length_cons]
      omega
theorem asc_range (n : Nat) : Per.Asc (List.range n) := List.pairwise_lt_range
/-- among so many rounds there are nearly as many elements -/
theorem many_near {ns M : List Nat} {n m : Nat} (pat : Per.Pat n M) (hM : M ≠ []) : m ≤ ((List.range (n * m)).filter (inT ns n M)).length + ns.length := by
  obtain ⟨m0, hm0⟩ := List.exists_mem_of_ne_nil M hM
  have lt0 := pat.lt m0 hm0
  let E := (List.range m).map fun i => i * n + m0
  have ascE : Per.Asc E := by
    refine List.pairwise_map.mpr (List.Pairwise.imp (fun {i j} (h : i < j) => ?_) List.pairwise_lt_range)
    have : (i + 1) * n ≤ j * n := Nat.mul_le_mul_right n h
    have e : (i + 1) * n = i * n + n := Nat.succ_mul i n
    omega
  have lenE : E.length = m := by rw [List.length_map, List.length_range]
  have z := split_len (fun x => decide (x ∈ ns)) E
  have z1 := nodup_len (E.filter fun x => decide (x ∈ ns)) ns (asc_nodup (asc_filter ascE _)) fun x hx => of_decide_eq_true (List.mem_filter.mp hx).2
  have z2 := nodup_len (E.filter fun x => !decide (x ∈ ns)) ((List.range (n * m)).filter (inT ns n M)) (asc_nodup (asc_filter ascE _)) fun x hx => by
    obtain ⟨h1, h2⟩ := List.mem_filter.mp hx
    obtain ⟨i, hi, rfl⟩ := List.mem_map.mp h1
    have hi := List.mem_range.mp hi
    have no : ¬ (i * n + m0) ∈ ns := by simpa using h2
    refine List.mem_filter.mpr ⟨List.mem_range.mpr ?_, ?_⟩
    · have : (i + 1) * n ≤ m * n := Nat.mul_le_mul_right n hi
      have e : (i + 1) * n = i * n + n := Nat.succ_mul i n
      have e2 : n * m = m * n := Nat.mul_comm n m
      omega
    · have md : (i * n + m0) % n = m0 := by
        rw [Nat.mul_comm, Nat.mul_add_mod, Nat.mod_eq_of_lt lt0]
      show (decide ((i * n + m0) % n ∈ M) != decide ((i * n + m0) ∈ ns)) = true
      rw [md, decide_eq_true hm0, decide_eq_false no]
      rfl
  omega
theorem inT_nil {ns : List Nat} {n x : Nat} : inT ns n [] x = decide (x ∈ ns) := by
  show (decide (x % n ∈ ([] : List Nat)) != decide (x ∈ ns)) = decide (x ∈ ns)
  rw [decide_eq_false List.not_mem_nil]
  cases decide (x ∈ ns) <;> rfl
theorem first_none {ns : List Nat} (a : Per.Asc ns) (n k : Nat) : IsFirst (inT ns n []) k (ns.take k) := ⟨asc_take a k, by rw [List.length_take]; omega, fun x hx => by
  rw [inT_nil]
  exact decide_eq_true (List.mem_of_mem_take hx), fun y py no => by
  rw [inT_nil] at py
  exact take_rest a (of_decide_eq_true py) no⟩
def nearL (ns : List Nat) (n k : Nat) : List Nat := List.range (n * (k + 6)) ++ ns.filter fun x => decide (n * (k + 6) ≤ x)
theorem first_some {ns M : List Nat} {n : Nat} (a : Per.Asc ns) (pat : Per.Pat n M) (hM : M ≠ []) (hl : ns.length ≤ 4) (k : Nat) : IsFirst (inT ns n M) k (((nearL ns n k).filter (inT ns n M)).take k) := by
  have ascU : Per.Asc (nearL ns n k) := List.pairwise_append.mpr ⟨asc_range _, asc_filter a _, fun x hx y hy => by
    have h1 := List.mem_range.mp hx
    have h2 := of_decide_eq_true (List.mem_filter.mp hy).2
    omega⟩
  have ascF := asc_filter ascU (inT ns n M)
  refine ⟨asc_take ascF k, by rw [List.length_take]; omega, fun x hx => (List.mem_filter.mp (List.mem_of_mem_take hx)).2, fun y py no => ?_⟩
  by_cases hy : y ∈ (nearL ns n k).filter (inT ns n M)
  · exact take_rest ascF hy no
  · have noU : ¬ y ∈ nearL ns n k := fun z => hy (List.mem_filter.mpr ⟨z, py⟩)
    have big : n * (k + 6) ≤ y := by
      apply Classical.byContradiction
      intro q
      exact noU (List.mem_append_left _ (List.mem_range.mpr (by omega)))
    have cnt := many_near (ns := ns) (m := k + 6) pat hM
    have e : (nearL ns n k).filter (inT ns n M) = (List.range (n * (k + 6))).filter (inT ns n M) ++ (ns.filter fun x => decide (n * (k + 6) ≤ x)).filter (inT ns n M) := List.filter_append ..
    have e2 : ((nearL ns n k).filter (inT ns n M)).take k = ((List.range (n * (k + 6))).filter (inT ns n M)).take k := by
      rw [e, List.take_append_of_le_length (by omega)]
    rw [e2]
    refine ⟨by rw [List.length_take]; omega, fun x hx => ?_⟩
    have := List.mem_range.mp (List.mem_filter.mp (List.mem_of_mem_take hx)).1
    omega
end K2
set_option Elab.async false
set_option linter.all false
set_option maxRecDepth 100000
set_option maxHeartbeats 4000000
namespace K2
open PySem L2 Vd
open PySem.Spec PyProof.Rows
/-! the walk over data -/
local macro_rules | `(tactic| walk_at "vis") => `(tactic| first | exact Or.inl rfl | exact Or.inr (Or.inl rfl) | exact Or.inr (Or.inr rfl))
local macro_rules | `(tactic| walk_at "none") => `(tactic| first | assumption)
local macro_rules | `(tactic| walk_at "num") => `(tactic| first | decide | omega)
local macro_rules | `(tactic| walk_at "vr") => `(tactic| first
  | exact bo_add | exact bo_sub | exact bo_mulR (by decide) | exact bo_mulL (by decide) | exact bo_mod (by walk_at "num") | exact bo_div (by walk_at "num") (by walk_at "num") | exact bo_pow (by decide) (by decide) (by decide) | exact bo_cat (by walk_at "num") | exact bo_mulR (by omega) | exact bo_mulL (by omega))
local macro_rules | `(tactic| walk_at "vq") => `(tactic| first
  | exact co_lt | exact co_le | exact co_gt | exact co_ge | exact co_eqI | exact co_neI | exact co_eqS | exact co_neS)
local macro_rules | `(tactic| walk_at "vx") => `(tactic| first
  | exact xo_own (by assumption) rfl | exact xo_lst rfl | exact xo_tup rfl)
local macro_rules | `(tactic| walk_at "vf") => `(tactic| first
  | exact fo_abs | exact fo_lenL | exact fo_lenT | exact fo_lenO (by assumption) | exact fo_divmod (by walk_at "num") (by walk_at "num") | exact fo_max rfl | exact fo_min rfl)
local macro_rules | `(tactic| walk_at "vn") => `(tactic| first
  | exact ve_var (i := 0) rfl rfl (by walk_at "vis") | exact ve_var (i := 1) rfl rfl (by walk_at "vis") | exact ve_var (i := 2) rfl rfl (by walk_at "vis") | exact ve_var (i := 3) rfl rfl (by walk_at "vis") | exact ve_var (i := 4) rfl rfl (by walk_at "vis") | exact ve_var (i := 5) rfl rfl (by walk_at "vis") | exact ve_var (i := 6) rfl rfl (by walk_at "vis") | exact ve_var (i := 7) rfl rfl (by walk_at "vis"))
local macro_rules | `(tactic| walk_at "vd") => `(tactic| first
  | exact ve_int | exact ve_bl | exact ve_non | exact ve_str
  | (refine' ve_bin ?ha ?hb ?hr; (case ha => walk_at "vd"); (case hb => walk_at "vd"); (case hr => walk_at "vr"))
  | (refine' ve_sub ?ha ?hb (fun _ _ => rfl) ?hr; (case ha => walk_at "vd"); (case hb => walk_at "vd"); (case hr => walk_at "vx"))
  | (refine' ve_ty (id := "int") ?ha rfl ?hm boot_int ?hr; (case ha => walk_at "va"); (case hm => walk_at "none"); (case hr => exact to_int))
  | (refine' ve_bi ?ha rfl ?hm ?hv ?hr; (case hv => first | exact boot_abs | exact boot_len | exact boot_divmod | exact boot_max | exact boot_min); (case ha => walk_at "va"); (case hm => walk_at "none"); (case hr => walk_at "vf"))
  | (refine' ve_tup ?ha ?hl; (case ha => walk_at "va"); (case hl => walk_at "num"))
  | (refine' ve_lst ?ha ?hl; (case ha => walk_at "va"); (case hl => walk_at "num"))
  | (refine' ve_comp ?ha ?hb ?hr; (case ha => walk_at "vd"); (case hb => walk_at "vd"); (case hr => walk_at "vq"))
  | walk_at "vn")
local macro_rules | `(tactic| walk_at "va") => `(tactic| first | exact va_nil | (refine' va_cons ?ha ?hb; (case ha => walk_at "vd"); (case hb => walk_at "va")))
local macro_rules | `(tactic| walk_at "vt") => `(tactic| first
  | (refine' vt_comp ?ha ?hb ?hr; (case ha => walk_at "vd"); (case hb => walk_at "vd"); (case hr => walk_at "vq"))
  | (refine' vt_val ?hv; case hv => walk_at "vd"))
/-! ### the law's first elements -/
theorem ve_lstN {X : Cx} {env : List (Option D)} {ow : Ow} {e : Expr} {L : List Nat} (h : Ve X e env ow (.lst (L.map natD))) : Ve X e env ow (.lst ((L.map toI).map D.int)) := ve_is h (by rw [natD_ints])
theorem co_neIT {X : Cx} {ow : Ow} {b : Expr} {l m : List Int} (hu : X.A.units + 64 < cLine) : CmpOk X ow .NotEq b (.tup (l.map D.int)) (.tup (m.map D.int)) (.bl (!decide (l = m))) := co_to (co_neD hu (eqOk_intsT l) (eqOk_intsT m)) (by
  simp only [D.py, pyL_ints, PyData.eqv, eqvAll_ints])
theorem co_neIL {X : Cx} {ow : Ow} {b : Expr} {l m : List Int} (hu : X.A.units + 64 < cLine) : CmpOk X ow .NotEq b (.lst (l.map D.int)) (.lst (m.map D.int)) (.bl (!decide (l = m))) := co_to (co_neD hu (eqOk_ints l) (eqOk_ints m)) (by
  simp only [D.py, pyL_ints, PyData.eqv, eqvAll_ints])
theorem map_nil_iff {M : List Nat} : decide (M.map toI = []) = decide (M = []) := decide_eq_decide.mpr List.map_eq_nil_iff
def tstN (p : Nat → Bool) : D → Bool
  | .int i => p i.toNat
  | _ => false
theorem filt_nat (p : Nat → Bool) (L : List Nat) : ((L.map natD).filter (tstN p)).map (fun d => d) = (L.filter p).map natD := by
  rw [List.map_id', List.filter_map]
  rfl
end K2
set_option Elab.async false
set_option linter.all false
set_option maxRecDepth 100000
set_option maxHeartbeats 4000000
/-! Dicts as data: made by a comprehension, asked for a key. -/
namespace Vd
open PySem L2
open PySem.Spec PyProof.Rows
section
variable {K : PySem.W.Frag} {F : Hp}
def valD (l : List (Key × D)) (k : Key) : Option D := (l.find? fun kv => decide (kv.1 = k)).map (·.2)
theorem Rpk.app {F : Hp} : ∀ {v : List (Key × V)} {d : List (Key × D)} {k : Key} {x : V} {y : D}, Rpk K F v d → Rp K F x y → Rpk K F (v ++ [(k, x)]) (d ++ [(k, y)])
  | [], [], _, _, _, .nil, h => .cons h .nil
  | _ :: _, _ :: _, _, _, _, .cons r rs, h => .cons r (Rpk.app rs h)
theorem Rpk.len : ∀ {v : List (Key × V)} {d : List (Key × D)}, Rpk K F v d → v.length = d.length
  | [], [], .nil => rfl
  | _ :: _, _ :: _, .cons _ rs => by simp [Rpk.len rs]
theorem Rpk.keys : ∀ {v : List (Key × V)} {d : List (Key × D)}, Rpk K F v d → v.map (·.1) = d.map (·.1)
  | [], [], .nil => rfl
  | _ :: _, _ :: _, .cons _ rs => by simp [Rpk.keys rs]
theorem Rpk.val : ∀ {v : List (Key × V)} {d : List (Key × D)} (k : Key), Rpk K F v d → (valV v k = none ∧ valD d k = none) ∨ ∃ x y, valV v k = some x ∧ valD d k = some y ∧ Rp K F x y
  | [], [], _, .nil => .inl ⟨rfl, rfl⟩
  | (k1, x) :: v, (_, y) :: d, k, .cons r rs => by
    by_cases h : k1 = k
    · refine .inr ⟨x, y, ?_, ?_, r⟩ <;> simp [valV, valD, h]
    · rcases Rpk.val k rs with ⟨a, b⟩ | ⟨x2, y2, a, b, c⟩
      · refine .inl ⟨?_, ?_⟩
        · unfold valV at a ⊢
          rw [List.find?_cons_of_neg (by simp [h])]
          exact a
        · unfold valD at b ⊢
          rw [List.find?_cons_of_neg (by simp [h])]
          exact b
      · refine .inr ⟨x2, y2, ?_, ?_, c⟩
        · unfold valV at a ⊢
          rw [List.find?_cons_of_neg (by simp [h])]
          exact a
        · unfold valD at b ⊢
          rw [List.find?_cons_of_neg (by simp [h])]
          exact b
theorem putK_new {kvs : List (Key × V)} {k : Key} {z : V} (h : ¬ k ∈ kvs.map (·.1)) : putK kvs k z = kvs ++ [(k, z)] := by
  unfold putK
  rw [if_neg]
  intro e
  rw [List.any_eq_true] at e
  obtain ⟨p, hp, e⟩ := e
  exact h (List.mem_map.mpr ⟨p, hp, of_decide_eq_true e⟩)
end
section
variable {X : Cx} {env : List (Option D)} {ow : Ow} {e it kx vx o f0 : Expr} {ds : List D} {d : D} {pos p : Pos} {l : List (Key × D)} {i : Int}
/-- {k: v for name in it}: other keys at every turn -/
theorem ve_dc {scope : Scope} {j : Nat} {y : Str} {py : Pos} (kf : D → Int) (f : D → D) (hc : X.calm = true) (hN : X.N.Nodup) (hi : Vi X (.Name y py) it env ow ds) (ok : BlkOk X.N X.env.scope scope [(y, j)]) (hl : ds.length ≤ 100000) (hnd : (ds.map kf).Nodup)
    (hg : ∀ (s : Shared) (H : Hp) (C : Addr) (cl : List (Str × Addr)) (fp : List Addr), PG (X.blk s H scope (compEnvC scope cl C X.env) fp) (.Name y py) (gName j))
    (hk : ∀ d ow', d ∈ ds → Sub ow ow' → ∀ (s : Shared) (H : Hp) (C : Addr) (cl : List (Str × Addr)) (fp : List Addr), Ve (X.blk s H scope (compEnvC scope cl C X.env) fp) kx ((env.set j none).set j (some d)) ow' (.int (kf d)))
    (he : ∀ d ow', d ∈ ds → Sub ow ow' → ∀ (s : Shared) (H : Hp) (C : Addr) (cl : List (Str × Addr)) (fp : List Addr), Ve (X.blk s H scope (compEnvC scope cl C X.env) fp) vx ((env.set j none).set j (some d)) ow' (f d))
    (hsf : ∀ x, foldedSetIterable it X.env x = pure x := by intro _; rfl) : Ve X (.DictComp kx vx [⟨.Name y py, it, [], 0⟩] scope pos) env ow (.dct (ds.map fun d => (.inl (kf d), f d))) := .mk fun σ F H Q s w k0 => by
  obtain ⟨wi, pi, hw⟩ := hi
  refine wpe (pe_dc (own := [(y, j)]) (g := gName j) (tt := tYes) (tk := fun σ H Q => ∀ (s : Shared) (H0 : Hp) (C : Addr) (cl : List (Str × Addr)) (fp : List Addr), WpE (X.blk s H0 scope (compEnvC scope cl C X.env) fp) kx σ H Q)
    (tv := fun σ H Q => ∀ (s : Shared) (H0 : Hp) (C : Addr) (cl : List (Str × Addr)) (fp : List Addr), WpE (X.blk s H0 scope (compEnvC scope cl C X.env) fp) vx σ H Q) hc hN pi ok hg
    (fun s0 H0 C cl fp => pts_nil) (fun s0 H0 C cl fp => ⟨fun pins s σ H Q I h => h s0 H0 C cl fp pins s I⟩) (fun s0 H0 C cl fp => ⟨fun pins s σ H Q I h => h s0 H0 C cl fp pins s I⟩) hsf) ?_
  refine hw σ F H _ s w fun J F1 H1 e1 w1 src => ?_
  intro Dl hD
  have hoD : ow Dl = none := w1.ofree hD
  let fl : Nat → List (Key × D) := fun i => (ds.take i).map fun d => (.inl (kf d), f d)
  refine ⟨fun i m H => m = ds.length - i ∧ i ≤ ds.length ∧ ∃ F2 xs, Ex F1 F2 ∧ Wo X.K ow F2 H ∧ F2 Dl = none ∧ H Dl = some (.dK xs) ∧ Rpk X.K F2 xs (fl i), ⟨ds.length, by simp, Nat.zero_le _, F1, [], Evl.Ex.refl F1, w1.grow hD, w1.free hD, upd_same, .nil⟩, ?_⟩
  rintro i m H2 ⟨rfl, hi, F2, xs, e2, w2, hF2, hH2, r2⟩
  obtain ⟨stop, go⟩ := src F2 H2 ow i e2 w2
  by_cases hlt : i < ds.length
  · have hdi : ds[i]? = some ds[i] := by simp [hlt]
    have htk : fl (i + 1) = fl i ++ [(.inl (kf ds[i]), f ds[i])] := by
      show (ds.take (i + 1)).map _ = _
      rw [List.take_add_one, hdi]
      show (ds.take i ++ [ds[i]]).map _ = _
      rw [List.map_append]
      simp [fl]
    have hmem : ds[i] ∈ ds := List.getElem_mem hlt
    obtain ⟨hgo, hy⟩ := go ds[i] hdi
    refine .inr ⟨hgo, fun H3 => ∃ F3 xs, Ex F1 F3 ∧ Wo X.K ow F3 H3 ∧ F3 Dl = none ∧ H3 Dl = some (.dK xs) ∧ Rpk X.K F3 xs (fl (i + 1)), fun H3 q => ⟨ds.length - (i + 1), by omega, rfl, hlt, q⟩, fun x H3 hx => ?_⟩
    have w2' : Wo X.K (ou ow Dl (.dct (fl i))) F2 H2 := ⟨w2.ex, fun a o q => by
      by_cases z : a = Dl
      · subst z
        rw [ou_same] at q
        cases q
        exact ⟨hF2, _, hH2, r2⟩
      · rw [ou_ne z] at q
        exact w2.own a o q⟩
    have sub : ∀ a o, ow a = some o → ou ow Dl (.dct (fl i)) a = some o := fun a o q => by
      rw [ou_ne (fun z => by rw [z, hoD] at q; cases q)]
      exact q
    obtain ⟨stop', go'⟩ := src F2 H2 _ i e2 w2'
    obtain ⟨_, hy'⟩ := go' ds[i] hdi
    obtain ⟨F3, e3, w3, r3⟩ := hy' x H3 hx
    have sl : Sl X.K F3 ((L2.wipe σ [j]).set j (some x)) ((env.set j none).set j (some ds[i])) := (((s.mono (e1.trans (e2.trans e3))).unset j).set r3 j)
    refine ⟨wipe_one, ?_⟩
    unfold tYes
    dsimp only
    rw [if_pos rfl]
    intro s0 H0 C cl fp
    refine hk ds[i] _ hmem sub s0 H0 C cl fp _ F3 H3 _ sl w3 fun F4 H4 v e4 w4 r4 => ?_
    cases r4
    intro s1 H01 C1 cl1 fp1
    refine he ds[i] _ hmem sub s1 H01 C1 cl1 fp1 _ F4 H4 _ (sl.mono e4) w4 fun F5 H5 z e5 w5 r5 => ?_
    obtain ⟨n5, ys, h5, s5⟩ := w5.own Dl _ ou_same
    have fresh : ¬ (Sum.inl (kf ds[i]) : Key) ∈ ys.map (·.1) := by
      rw [s5.keys]
      intro hm
      obtain ⟨q, hq, eq⟩ := List.mem_map.mp hm
      obtain ⟨d2, hd2, rfl⟩ := List.mem_map.mp hq
      have e3 : kf d2 = kf ds[i] := Sum.inl.inj eq
      obtain ⟨b, hb, eb⟩ := List.mem_iff_getElem.mp hd2
      rw [List.length_take] at hb
      rw [List.getElem_take] at eb
      have hb2 : b < i := by omega
      have hbd : b < ds.length := by omega
      have z := (List.nodup_iff_pairwise_ne.mp hnd)
      rw [List.pairwise_iff_getElem] at z
      have y := z b i (by rw [List.length_map]; exact hbd) (by rw [List.length_map]; exact hlt) hb2
      rw [List.getElem_map, List.getElem_map, eb] at y
      exact y e3
    refine ⟨ys, .inl (kf ds[i]), rfl, h5, ?_, F5, ys ++ [(.inl (kf ds[i]), z)], e2.trans (e3.trans (e4.trans e5)), ?_, n5, ?_, ?_⟩
    · rw [s5.len]
      show ((ds.take i).map _).length < _
      rw [List.length_map, List.length_take]
      exact Evl.sz_lt (by omega)
    · rw [putK_new fresh]
      exact (w5.setK ou_same (s5.app r5)).drop fun a o q => by
        rw [ou_ne (fun z => by rw [z, hoD] at q; cases q)]
        exact sub a o q
    · rw [putK_new fresh]
      exact upd_same
    · rw [htk]
      exact s5.app r5
  · have e : i = ds.length := by omega
    subst e
    refine .inl ⟨stop (Nat.le_refl _), ?_⟩
    have r2' : Rpk X.K F2 xs (ds.map fun d => (.inl (kf d), f d)) := by
      have z : fl ds.length = ds.map fun d => (.inl (kf d), f d) := by show (ds.take ds.length).map _ = _; rw [List.take_length]
      rw [← z]
      exact r2
    have w3 : Wo X.K ow (upd F2 Dl (.dK xs)) H2 := w2.freeze hF2 hH2 hoD
    exact k0 (upd F2 Dl (.dK xs)) H2 _ ((e1.trans e2).trans (Evl.Ex.new hF2)) w3 (.dct upd_same (r2'.mono (Evl.Ex.new hF2)))
/-- i in a dict -/
theorem op_din (hu : X.A.units + 1 < cLine) : OpR X (compareOp .In) (fun x y H Q => ∃ a o, y = .ref a ∧ DGet H a x o ∧ Q (.bl o.isSome) H) := by
  intro pins s σ H x y v u Q I rx ry h
  obtain ⟨a, o, rfl, g, q⟩ := h
  obtain rfl : u = Value.ref a := ry
  exact d_in hu I g rx fun s3 I3 => ⟨.bl o.isSome, H, I3, rfl, q⟩
theorem op_dnotin (hu : X.A.units + 1 < cLine) : OpR X (compareOp .NotIn) (fun x y H Q => ∃ a o, y = .ref a ∧ DGet H a x o ∧ Q (.bl (!o.isSome)) H) := by
  intro pins s σ H x y v u Q I rx ry h
  obtain ⟨a, o, rfl, g, q⟩ := h
  obtain rfl : u = Value.ref a := ry
  exact d_notIn hu I g rx fun s3 I3 => ⟨.bl (!o.isSome), H, I3, rfl, q⟩
theorem co_din {b : Expr} (hu : X.A.units + 1 < cLine) (hm : behindInMarks .In b = false) : CmpOk X ow .In b (.int i) (.dct l) (.bl (valD l (.inl i)).isSome) := ⟨_, op_din hu, hm, .mk fun F H x y Q w r1 r2 k => by
  cases r1
  cases r2 with
  | dct g s1 =>
    refine ⟨_, _, rfl, DGet.k (k := .inl i) (w.ex _ _ g), ?_⟩
    rcases Rpk.val (.inl i) s1 with ⟨a, b⟩ | ⟨x, y, a, b, _⟩
    · rw [a]
      rw [b] at k
      exact k.here w (.bl _)
    · rw [a]
      rw [b] at k
      exact k.here w (.bl _)⟩
theorem co_dnotin {b : Expr} (hu : X.A.units + 1 < cLine) (hm : behindInMarks .NotIn b = false) : CmpOk X ow .NotIn b (.int i) (.dct l) (.bl (!(valD l (.inl i)).isSome)) := ⟨_, op_dnotin hu, hm, .mk fun F H x y Q w r1 r2 k => by
  cases r1
  cases r2 with
  | dct g s1 =>
    refine ⟨_, _, rfl, DGet.k (k := .inl i) (w.ex _ _ g), ?_⟩
    rcases Rpk.val (.inl i) s1 with ⟨a, b⟩ | ⟨x, y, a, b, _⟩
    · rw [a]
      rw [b] at k
      exact k.here w (.bl _)
    · rw [a]
      rw [b] at k
      exact k.here w (.bl _)⟩
/-- d.get(i, other) -/
theorem ve_get2 {apos cpos : Pos} {d0 : D} (hu : X.A.units + 1 < cLine) (ho : Ve X o env ow (.dct l)) (he : Ve X e env ow (.int i)) (hf : Ve X f0 env ow d0) (m : M2 X o "get" apos e f0 cpos) : Ve X (.Call (.Attribute o "get" apos) [e, f0] [] cpos) env ow ((valD l (.inl i)).getD d0) := .mk fun σ F H Q s w k => by
  refine wpe (pe_dget2 hu pe_can pe_can pe_can m) (ho σ F H _ s w fun F1 H1 v e1 w1 r1 => ?_)
  cases r1 with
  | @dct a kvs l g s1 =>
    refine ⟨a, rfl, ?_, he σ F1 H1 _ (s.mono e1) w1 fun F2 H2 v2 e2 w2 r2 => hf σ F2 H2 _ (s.mono (e1.trans e2)) w2 fun F3 H3 v3 e3 w3 r3 => ?_⟩
    · exact .inl ⟨_, .inl (w1.ex _ _ g)⟩
    · cases r2
      refine ⟨_, DGet.k (k := .inl i) (w3.ex _ _ ((e2.trans e3) _ _ g)), ?_⟩
      rcases Rpk.val (.inl i) s1 with ⟨a, b⟩ | ⟨x, y, a, b, c⟩
      · rw [a]
        rw [b] at k
        exact k F3 H3 _ (e1.trans (e2.trans e3)) w3 r3
      · rw [a]
        rw [b] at k
        exact k F3 H3 _ (e1.trans (e2.trans e3)) w3 (c.mono (e2.trans e3))
end
end Vd
set_option Elab.async false
set_option linter.all false
set_option maxRecDepth 100000
set_option maxHeartbeats 4000000
namespace K2
open PySem L2 Vd
open PySem.Spec PyProof.Rows
/-! the walk over data -/
local macro_rules | `(tactic| walk_at "vis") => `(tactic| first | exact Or.inl rfl | exact Or.inr (Or.inl rfl) | exact Or.inr (Or.inr rfl))
local macro_rules | `(tactic| walk_at "none") => `(tactic| first | assumption)
local macro_rules | `(tactic| walk_at "num") => `(tactic| first | decide | omega)
local macro_rules | `(tactic| walk_at "vr") => `(tactic| first
  | exact bo_add | exact bo_sub | exact bo_mulR (by decide) | exact bo_mulL (by decide) | exact bo_mod (by walk_at "num") | exact bo_div (by walk_at "num") (by walk_at "num") | exact bo_pow (by decide) (by decide) (by decide) | exact bo_cat (by walk_at "num") | exact bo_mulR (by omega) | exact bo_mulL (by omega))
local macro_rules | `(tactic| walk_at "vq") => `(tactic| first
  | exact co_lt | exact co_le | exact co_gt | exact co_ge | exact co_eqI | exact co_neI | exact co_eqS | exact co_neS)
local macro_rules | `(tactic| walk_at "vx") => `(tactic| first
  | exact xo_own (by assumption) rfl | exact xo_lst rfl | exact xo_tup rfl)
local macro_rules | `(tactic| walk_at "vf") => `(tactic| first
  | exact fo_abs | exact fo_lenL | exact fo_lenT | exact fo_lenO (by assumption) | exact fo_divmod (by walk_at "num") (by walk_at "num") | exact fo_max rfl | exact fo_min rfl)
local macro_rules | `(tactic| walk_at "vn") => `(tactic| first
  | exact ve_var (i := 0) rfl rfl (by walk_at "vis") | exact ve_var (i := 1) rfl rfl (by walk_at "vis") | exact ve_var (i := 2) rfl rfl (by walk_at "vis") | exact ve_var (i := 3) rfl rfl (by walk_at "vis") | exact ve_var (i := 4) rfl rfl (by walk_at "vis") | exact ve_var (i := 5) rfl rfl (by walk_at "vis") | exact ve_var (i := 6) rfl rfl (by walk_at "vis") | exact ve_var (i := 7) rfl rfl (by walk_at "vis"))
local macro_rules | `(tactic| walk_at "vd") => `(tactic| first
  | exact ve_int | exact ve_bl | exact ve_non | exact ve_str
  | (refine' ve_bin ?ha ?hb ?hr; (case ha => walk_at "vd"); (case hb => walk_at "vd"); (case hr => walk_at "vr"))
  | (refine' ve_sub ?ha ?hb (fun _ _ => rfl) ?hr; (case ha => walk_at "vd"); (case hb => walk_at "vd"); (case hr => walk_at "vx"))
  | (refine' ve_ty (id := "int") ?ha rfl ?hm boot_int ?hr; (case ha => walk_at "va"); (case hm => walk_at "none"); (case hr => exact to_int))
  | (refine' ve_bi ?ha rfl ?hm ?hv ?hr; (case hv => first | exact boot_abs | exact boot_len | exact boot_divmod | exact boot_max | exact boot_min); (case ha => walk_at "va"); (case hm => walk_at "none"); (case hr => walk_at "vf"))
  | (refine' ve_tup ?ha ?hl; (case ha => walk_at "va"); (case hl => walk_at "num"))
  | (refine' ve_lst ?ha ?hl; (case ha => walk_at "va"); (case hl => walk_at "num"))
  | (refine' ve_comp ?ha ?hb ?hr; (case ha => walk_at "vd"); (case hb => walk_at "vd"); (case hr => walk_at "vq"))
  | walk_at "vn")
local macro_rules | `(tactic| walk_at "va") => `(tactic| first | exact va_nil | (refine' va_cons ?ha ?hb; (case ha => walk_at "vd"); (case hb => walk_at "va")))
local macro_rules | `(tactic| walk_at "vt") => `(tactic| first
  | (refine' vt_comp ?ha ?hb ?hr; (case ha => walk_at "vd"); (case hb => walk_at "vd"); (case hr => walk_at "vq"))
  | (refine' vt_val ?hv; case hv => walk_at "vd"))
/-! ### left_over -/
abbrev sLo : Stmt := s_left_over
theorem scLo : FnScope ["one", "other", "period", "marks", "other_period", "other_marks", "length", "taken", "mark", "time"] ["one", "other"] (defScope sLo) := ⟨rfl, rfl, rfl, by decide +kernel, rfl, by decide +kernel, by decide +kernel⟩
/-- a pattern as data -/
def patD (a : Nat) (A : List Nat) : D := .tup [natD a, .tup (A.map natD)]
/-- what of the one is not in the other -/
def loL (a : Nat) (A : List Nat) (b : Nat) (B : List Nat) : List Nat := (strL a A (Nat.lcm a b / a)).filter fun x => !decide (x % b ∈ B)
theorem asc_le {n : Nat} : ∀ {M : List Nat}, Per.Asc M → (∀ x ∈ M, x < n) → M.length ≤ n := fun {M} h l => by
  have z := nodup_len M (List.range n) (asc_nodup h) fun x hx => List.mem_range.mpr (l x hx)
  rw [List.length_range] at z
  exact z
theorem val_keys {i : Int} {v : D} : ∀ M : List Nat, (valD (M.map fun (m : Nat) => ((.inl (m : Int) : Key), v)) (.inl i)).isSome = decide (∃ m ∈ M, (m : Int) = i)
  | [] => by simp [valD]
  | m :: r => by
    have ih := val_keys (i := i) (v := v) r
    unfold valD at ih ⊢
    by_cases h : (m : Int) = i
    · subst h
      simp
    · rw [List.map_cons, List.find?_cons_of_neg (by simp [h]), ih]
      simp [h]
theorem lcm_div {a b : Nat} (ha : 0 < a) : Nat.lcm a b / a * a = Nat.lcm a b := Nat.div_mul_cancel (Nat.dvd_lcm_left a b)
def RLo (ds : List D) (d : D) : Prop := ∃ (a b : Nat) (A B : List Nat), ds = [patD a A, patD b B] ∧ Per.Pat a A ∧ Per.Pat b B ∧ Nat.lcm a b ≤ 100000 ∧ d = patD (Nat.lcm a b) (loL a A b B)
section
variable {γ : Gds} {P : Program} {w : World} {K : PySem.W.Frag} {mg : Str → Option Value} {base : Heap}
theorem ok_left {f f1 : Addr} {fd fd1 : FuncData} (Fn : Fun K "left_over" "left_over" sLo f fd) (F1 : FnG γ P w K mg base CX0 1 f1 fd1 ["period", "marks", "length"] (spR K RStr)) (m1 : mg "stretched" = some (.ref f1)) (k1 : PySem.W.keepIn K (.ref f1) = true) (b1 : Binds K fd1 ["period", "marks", "length"] []) (mL : mg "lcm" = some (.builtin "math.lcm")) (mT : mg "tuple" = none) :
    FnG γ P w K mg base CX0 2 f fd ["one", "other"] (spR K RLo) := by
  refine okR Fn scLo (fun ds d ⟨a, b, A, B, e, _⟩ => by rw [e]; rfl) fun cdv A0 outer s H Bh ow ds d Q E hgd hrm hR kQ => ?_
  obtain ⟨a, b, A, B, rfl, pa, pb, hl, rfl⟩ := hR
  have hu : A0.units + 3 + 1 < cLine := by
    have z : A0.units + 3 + 16 * 1 + 200 < cLine := hrm.un
    omega
  have hla := Nat.le_of_dvd (Nat.lcm_pos pa.pos pb.pos) (Nat.dvd_lcm_left a b)
  have hlb := Nat.le_of_dvd (Nat.lcm_pos pa.pos pb.pos) (Nat.dvd_lcm_right a b)
  have hA := asc_le pa.asc pa.lt
  have hB := asc_le pb.asc pb.lt
  have hN : Nat.lcm a b / a * A.length ≤ 100000 := Nat.le_trans (Nat.mul_le_mul_left _ hA) (by rw [lcm_div pa.pos]; exact hl)
  refine' rn_asg (g := gTup K 2 (gCons (gName 2) (gCons (gName 3) gNil))) (f := fun env => (env.set 2 (some (natD a))).set 3 (some (.tup (A.map natD)))) (d := patD a A) (pg_tup rfl (pgs_cons (pg_name scLo.nd rfl (by first | exact .inl rfl | exact .inr rfl)) (pgs_cons (pg_name scLo.nd rfl (by first | exact .inl rfl | exact .inr rfl)) pgs_nil))) (ve_var (i := 0) rfl rfl (by walk_at "vis")) (gd_two 2 3) ?k1
  intro B1 e1
  refine' rn_asg (g := gTup K 2 (gCons (gName 4) (gCons (gName 5) gNil))) (f := fun env => (env.set 4 (some (natD b))).set 5 (some (.tup (B.map natD)))) (d := patD b B) (pg_tup rfl (pgs_cons (pg_name scLo.nd rfl (by first | exact .inl rfl | exact .inr rfl)) (pgs_cons (pg_name scLo.nd rfl (by first | exact .inl rfl | exact .inr rfl)) pgs_nil))) (ve_var (i := 1) rfl rfl (by walk_at "vis")) (gd_two 4 5) ?k2
  intro B2 e2
  refine' rn_set (i := 6) (d := natD (Nat.lcm a b)) scLo.nd rfl (by first | exact .inl rfl | exact .inr rfl) ?h3 ?k3
  case h3 => exact ve_gb (va_cons (ve_var (d := natD a) (i := 2) rfl rfl (by walk_at "vis")) (va_cons (ve_var (d := natD b) (i := 4) rfl rfl (by walk_at "vis")) va_nil)) rfl mL (fo_lcm (by omega) (by omega))
  case k3 =>
  intro B3 e3
  refine' rn_set (i := 7) (d := .dct (B.map fun (m : Nat) => ((.inl (m : Int) : Key), .bl true))) scLo.nd rfl (by first | exact .inl rfl | exact .inr rfl) ?h4 ?k4
  case h4 =>
    refine ve_is (ve_dc (j := 8) (ds := B.map natD) (fun d => match d with | .int i => i | _ => 0) (fun _ => .bl true) rfl scLo.nd (vi_tup (ve_var (i := 5) rfl rfl (by walk_at "vis"))) (blkOk_by (N := ["one", "other", "period", "marks", "other_period", "other_marks", "length", "taken", "mark", "time"]) (sc := defScope sLo) (by decide +kernel)) (by rw [List.length_map]; omega) ?nd (fun _ _ _ _ _ => pg_name (i := 8) scLo.nd rfl (by first | exact .inl rfl | exact .inr rfl)) ?hk (fun d ow' hd sub s0 H0 C0 cl fp => ve_bl)) (by rw [List.map_map]; rfl)
    case nd =>
      rw [List.map_map]
      have z := asc_nodup pb.asc
      refine List.Pairwise.map _ (fun x y h => ?_) z
      intro e
      have e2 : (x : Int) = (y : Int) := e
      exact h (by omega)
    case hk =>
      intro d ow' hd sub s0 H0 C0 cl fp
      obtain ⟨x, hx, rfl⟩ := List.mem_map.mp hd
      exact ve_var (i := 8) rfl rfl (by walk_at "vis")
  case k4 =>
  intro B4 e4
  refine rn_ret (ve_tup (va_cons (ve_var (d := natD (Nat.lcm a b)) (i := 6) rfl rfl (by walk_at "vis")) (va_cons (ve_ty (id := "tuple") (va_cons (ve_is (ve_lc (j := 9) (tstN fun x => !decide (x % b ∈ B)) (fun d => d) (ds := (strL a A (Nat.lcm a b / a)).map natD) rfl scLo.nd (vi_list (ve_R F1 hgd hrm rfl m1 k1 b1 (va_cons (ve_var (d := natD a) (i := 2) rfl rfl (by walk_at "vis")) (va_cons (ve_var (d := .tup (A.map natD)) (i := 3) rfl rfl (by walk_at "vis")) (va_cons (ve_is (ve_var (d := natD (Nat.lcm a b)) (i := 6) rfl rfl (by walk_at "vis")) (by rw [lcm_div pa.pos] : _ = natD (Nat.lcm a b / a * a))) va_nil))) ⟨a, Nat.lcm a b / a, A, rfl, pa.pos, by omega, by rw [lcm_div pa.pos]; exact hl, hN, rfl⟩)) (blkOk_by (N := ["one", "other", "period", "marks", "other_period", "other_marks", "length", "taken", "mark", "time"]) (sc := defScope sLo) (by decide +kernel)) ?hlen (fun _ _ _ _ _ => pg_name (i := 9) scLo.nd rfl (by first | exact .inl rfl | exact .inr rfl)) ?ht ?he) (by rw [filt_nat]; rfl)) va_nil) rfl mT boot_tuple to_tupL) va_nil)) (by show 2 ≤ 100000; decide)) (kQ.ex (e1.trans (e2.trans (e3.trans e4))))
  case hlen =>
    rw [List.length_map, strL_len]
    exact hN
  case ht =>
    intro d ow' hd sub s0 H0 C0 cl fp
    obtain ⟨x, hx, rfl⟩ := List.mem_map.mp hd
    have hmod : (x : Int) % (b : Int) = ((x % b : Nat) : Int) := (Int.natCast_emod x b).symm
    refine vts_one (vt_is (vt_comp (ve_is (ve_bin (ve_var (d := natD x) (i := 9) rfl rfl (by walk_at "vis")) (ve_var (d := natD b) (i := 4) rfl rfl (by walk_at "vis")) (bo_mod (by have := pb.pos; omega))) (by rw [hmod] : _ = D.int ((x % b : Nat) : Int))) (ve_var (d := .dct (B.map fun (m : Nat) => ((.inl (m : Int) : Key), .bl true))) (i := 7) rfl rfl (by walk_at "vis")) (co_dnotin hu rfl)) ?_)
    rw [val_keys]
    show (!decide _) = !decide (((x : Int)).toNat % b ∈ B)
    rw [Int.toNat_natCast]
    congr 1
    rw [decide_eq_decide]
    constructor
    · rintro ⟨m, hm, e⟩
      have : m = x % b := by omega
      rw [← this]
      exact hm
    · intro h
      exact ⟨_, h, rfl⟩
  case he =>
    intro d ow' hd _ sub s0 H0 C0 cl fp
    exact ve_var (i := 9) rfl rfl (by walk_at "vis")
end
end K2
set_option Elab.async false
set_option linter.all false
set_option maxRecDepth 100000
set_option maxHeartbeats 4000000
namespace K2
open PySem L2 Vd
open PySem.Spec PyProof.Rows
/-! the walk over data -/
local macro_rules | `(tactic| walk_at "vis") => `(tactic| first | exact Or.inl rfl | exact Or.inr (Or.inl rfl) | exact Or.inr (Or.inr rfl))
local macro_rules | `(tactic| walk_at "none") => `(tactic| first | assumption)
local macro_rules | `(tactic| walk_at "num") => `(tactic| first | decide | omega)
local macro_rules | `(tactic| walk_at "vr") => `(tactic| first
  | exact bo_add | exact bo_sub | exact bo_mulR (by decide) | exact bo_mulL (by decide) | exact bo_mod (by walk_at "num") | exact bo_div (by walk_at "num") (by walk_at "num") | exact bo_pow (by decide) (by decide) (by decide) | exact bo_cat (by walk_at "num") | exact bo_mulR (by omega) | exact bo_mulL (by omega))
local macro_rules | `(tactic| walk_at "vq") => `(tactic| first
  | exact co_lt | exact co_le | exact co_gt | exact co_ge | exact co_eqI | exact co_neI | exact co_eqS | exact co_neS)
local macro_rules | `(tactic| walk_at "vx") => `(tactic| first
  | exact xo_own (by assumption) rfl | exact xo_lst rfl | exact xo_tup rfl)
local macro_rules | `(tactic| walk_at "vf") => `(tactic| first
  | exact fo_abs | exact fo_lenL | exact fo_lenT | exact fo_lenO (by assumption) | exact fo_divmod (by walk_at "num") (by walk_at "num") | exact fo_max rfl | exact fo_min rfl)
local macro_rules | `(tactic| walk_at "vn") => `(tactic| first
  | exact ve_var (i := 0) rfl rfl (by walk_at "vis") | exact ve_var (i := 1) rfl rfl (by walk_at "vis") | exact ve_var (i := 2) rfl rfl (by walk_at "vis") | exact ve_var (i := 3) rfl rfl (by walk_at "vis") | exact ve_var (i := 4) rfl rfl (by walk_at "vis") | exact ve_var (i := 5) rfl rfl (by walk_at "vis") | exact ve_var (i := 6) rfl rfl (by walk_at "vis") | exact ve_var (i := 7) rfl rfl (by walk_at "vis"))
local macro_rules | `(tactic| walk_at "vd") => `(tactic| first
  | exact ve_int | exact ve_bl | exact ve_non | exact ve_str
  | (refine' ve_bin ?ha ?hb ?hr; (case ha => walk_at "vd"); (case hb => walk_at "vd"); (case hr => walk_at "vr"))
  | (refine' ve_sub ?ha ?hb (fun _ _ => rfl) ?hr; (case ha => walk_at "vd"); (case hb => walk_at "vd"); (case hr => walk_at "vx"))
  | (refine' ve_ty (id := "int") ?ha rfl ?hm boot_int ?hr; (case ha => walk_at "va"); (case hm => walk_at "none"); (case hr => exact to_int))
  | (refine' ve_bi ?ha rfl ?hm ?hv ?hr; (case hv => first | exact boot_abs | exact boot_len | exact boot_divmod | exact boot_max | exact boot_min); (case ha => walk_at "va"); (case hm => walk_at "none"); (case hr => walk_at "vf"))
  | (refine' ve_tup ?ha ?hl; (case ha => walk_at "va"); (case hl => walk_at "num"))
  | (refine' ve_lst ?ha ?hl; (case ha => walk_at "va"); (case hl => walk_at "num"))
  | (refine' ve_comp ?ha ?hb ?hr; (case ha => walk_at "vd"); (case hb => walk_at "vd"); (case hr => walk_at "vq"))
  | walk_at "vn")
local macro_rules | `(tactic| walk_at "va") => `(tactic| first | exact va_nil | (refine' va_cons ?ha ?hb; (case ha => walk_at "vd"); (case hb => walk_at "va")))
local macro_rules | `(tactic| walk_at "vt") => `(tactic| first
  | (refine' vt_comp ?ha ?hb ?hr; (case ha => walk_at "vd"); (case hb => walk_at "vd"); (case hr => walk_at "vq"))
  | (refine' vt_val ?hv; case hv => walk_at "vd"))
/-! ### in_either -/
abbrev sEi : Stmt := s_in_either
theorem scEi : FnScope ["one", "other", "pattern", "length", "added", "period", "marks"] ["one", "other"] (defScope sEi) := ⟨rfl, rfl, rfl, by decide +kernel, rfl, by decide +kernel, by decide +kernel⟩
/-- the marked ones of both below n -/
def orL (a : Nat) (A : List Nat) (b : Nat) (B : List Nat) (n : Nat) : List Nat := (List.range n).filter fun x => decide (x % a ∈ A) || decide (x % b ∈ B)
theorem perm_of {l m : List Nat} (h1 : l.Nodup) (h2 : m.Nodup) (h : ∀ x, x ∈ l ↔ x ∈ m) : l.Perm m := (List.perm_ext_iff_of_nodup h1 h2).mpr h
theorem or_perm {a b : Nat} {A B : List Nat} (pa : Per.Pat a A) (pb : Per.Pat b B) : (orL a A b B (Nat.lcm a b)).Perm (strL a A (Nat.lcm a b / a) ++ loL b B a A) := by
  have n1 := asc_strL pa.lt pa.asc (Nat.lcm a b / a)
  have n2 : Per.Asc (loL b B a A) := asc_filter (asc_strL pb.lt pb.asc _) _
  have m1 : ∀ x, x ∈ strL a A (Nat.lcm a b / a) ↔ x < Nat.lcm a b ∧ x % a ∈ A := fun x => by rw [mem_strL pa.pos pa.lt, lcm_div pa.pos]
  have m2 : ∀ x, x ∈ loL b B a A ↔ (x < Nat.lcm a b ∧ x % b ∈ B) ∧ ¬ x % a ∈ A := fun x => by
    unfold loL
    rw [List.mem_filter, mem_strL pb.pos pb.lt, lcm_div pb.pos, Nat.lcm_comm b a]
    simp
  refine perm_of (asc_nodup (asc_filter (asc_range _) _)) (List.nodup_append.mpr ⟨asc_nodup n1, asc_nodup n2, fun x hx y hy e => ?_⟩) fun x => ?_
  · subst e
    exact ((m2 x).mp hy).2 ((m1 x).mp hx).2
  · rw [List.mem_append, m1, m2]
    unfold orL
    rw [List.mem_filter, List.mem_range]
    simp only [Bool.or_eq_true, decide_eq_true_eq]
    constructor
    · rintro ⟨h1, h2 | h2⟩
      · exact .inl ⟨h1, h2⟩
      · by_cases q : x % a ∈ A
        · exact .inl ⟨h1, q⟩
        · exact .inr ⟨⟨h1, h2⟩, q⟩
    · rintro (⟨h1, h2⟩ | ⟨⟨h1, h2⟩, _⟩)
      · exact ⟨h1, .inl h2⟩
      · exact ⟨h1, .inr h2⟩
/-- what comes out -/
def eiP (a : Nat) (A : List Nat) (b : Nat) (B : List Nat) : D := if A.length = a then patD a A else if B.length = b then patD b B else patD (Nat.lcm a b) (orL a A b B (Nat.lcm a b))
def REi (ds : List D) (d : D) : Prop := ∃ (a b : Nat) (A B : List Nat), ds = [patD a A, patD b B] ∧ Per.Pat a A ∧ Per.Pat b B ∧ Nat.lcm a b ≤ 100000 ∧ d = eiP a A b B
section
variable {γ : Gds} {P : Program} {w : World} {K : PySem.W.Frag} {mg : Str → Option Value} {base : Heap}
theorem ok_either {f f1 f2 : Addr} {fd fd1 fd2 : FuncData} (Fn : Fun K "in_either" "in_either" sEi f fd) (F1 : FnG γ P w K mg base CX0 1 f1 fd1 ["period", "marks", "length"] (spR K RStr)) (m1 : mg "stretched" = some (.ref f1)) (k1 : PySem.W.keepIn K (.ref f1) = true) (b1 : Binds K fd1 ["period", "marks", "length"] [])
    (F2 : FnG γ P w K mg base CX0 2 f2 fd2 ["one", "other"] (spR K RLo)) (m2 : mg "left_over" = some (.ref f2)) (k2 : PySem.W.keepIn K (.ref f2) = true) (b2 : Binds K fd2 ["one", "other"] []) (mL : mg "len" = none) (mT : mg "tuple" = none) (mS : mg "sorted" = none) (mLi : mg "list" = none) :
    FnG γ P w K mg base CX0 3 f fd ["one", "other"] (spR K REi) := by
  refine okR Fn scEi (fun ds d ⟨a, b, A, B, e, _⟩ => by rw [e]; rfl) fun cdv A0 outer s H Bh ow ds d Q E hgd hrm hR kQ => ?_
  obtain ⟨a, b, A, B, rfl, pa, pb, hl, rfl⟩ := hR
  have hla := Nat.le_of_dvd (Nat.lcm_pos pa.pos pb.pos) (Nat.dvd_lcm_left a b)
  have hlb := Nat.le_of_dvd (Nat.lcm_pos pa.pos pb.pos) (Nat.dvd_lcm_right a b)
  have hA := asc_le pa.asc pa.lt
  have hB := asc_le pb.asc pb.lt
  refine' rn_for (ds := [patD a A, patD b B]) (g := gName 2) (f := fun d env => env.set 2 (some d)) (fun i env' ow' => ow = ow' ∧ (0 < i → ¬ A.length = a) ∧ (1 < i → ¬ B.length = b) ∧ ∃ z : Option D, env' = [some (patD a A), some (patD b B), z, none, none, none, none])
    PassesOwn.never rfl ?hi ?hg (fun ow d _ => gd_name 2) ⟨rfl, fun z => absurd z (by decide), fun z => absurd z (by decide), none, rfl⟩ ?hs ?hd
  case hi => exact vi_tup (ve_tup (va_cons (ve_var (d := patD a A) (i := 0) rfl rfl (by walk_at "vis")) (va_cons (ve_var (d := patD b B) (i := 1) rfl rfl (by walk_at "vis")) va_nil)) (by show 2 ≤ 100000; decide))
  case hg => exact pg_name (i := 2) scEi.nd rfl (by first | exact .inl rfl | exact .inr rfl)
  case hs =>
    rintro B1 i d env' ow' e1 hd ⟨rfl, h1, h2, z, rfl⟩
    have test : ∀ (c : Nat) (M : List Nat) (X : Cx) (env : List (Option D)) (e1 e2 : Expr) (p1 p2 p3 p4 : Pos), True := fun _ _ _ _ _ _ _ _ _ _ => trivial
    match i, hd with
    | 0, hd =>
      obtain rfl : patD a A = d := by simpa using hd
      refine' rn_if (t := decide (A.length = a)) ?t0 ?y0 ?n0
      case t0 => exact vt_is (vt_comp (ve_bi (va_cons (ve_sub (ve_var (d := patD a A) (i := 2) rfl rfl (by walk_at "vis")) ve_int (fun _ _ => rfl) (xo_tup (d := .tup (A.map natD)) rfl)) va_nil) rfl mL boot_len fo_lenT) (ve_sub (ve_var (d := patD a A) (i := 2) rfl rfl (by walk_at "vis")) ve_int (fun _ _ => rfl) (xo_tup (d := natD a) rfl)) co_eqI) (by rw [List.length_map, decide_eq_decide]; omega)
      case y0 =>
        intro t B2 e2
        exact rn_ret (ve_is (ve_var (d := patD a A) (i := 2) rfl rfl (by walk_at "vis")) (by unfold eiP; rw [if_pos (of_decide_eq_true t)])) (kQ.ex (e1.trans e2))
      case n0 =>
        intro t B2 e2
        refine rn_go ?_
        exact rn_nextW ⟨rfl, fun _ => of_decide_eq_false t, fun z => absurd z (by decide), _, rfl⟩ e2
    | 1, hd =>
      obtain rfl : patD b B = d := by simpa using hd
      refine' rn_if (t := decide (B.length = b)) ?t1 ?y1 ?n1
      case t1 => exact vt_is (vt_comp (ve_bi (va_cons (ve_sub (ve_var (d := patD b B) (i := 2) rfl rfl (by walk_at "vis")) ve_int (fun _ _ => rfl) (xo_tup (d := .tup (B.map natD)) rfl)) va_nil) rfl mL boot_len fo_lenT) (ve_sub (ve_var (d := patD b B) (i := 2) rfl rfl (by walk_at "vis")) ve_int (fun _ _ => rfl) (xo_tup (d := natD b) rfl)) co_eqI) (by rw [List.length_map, decide_eq_decide]; omega)
      case y1 =>
        intro t B2 e2
        exact rn_ret (ve_is (ve_var (d := patD b B) (i := 2) rfl rfl (by walk_at "vis")) (by unfold eiP; rw [if_neg (h1 (by decide)), if_pos (of_decide_eq_true t)])) (kQ.ex (e1.trans e2))
      case n1 =>
        intro t B2 e2
        refine rn_go ?_
        exact rn_nextW ⟨rfl, fun _ => h1 (by decide), fun _ => of_decide_eq_false t, _, rfl⟩ e2
    | n + 2, hd => simp at hd
  case hd =>
    rintro B1 env' ow' e1 ⟨rfl, h1, h2, z, rfl⟩
    have hN : Nat.lcm a b / a * A.length ≤ 100000 := Nat.le_trans (Nat.mul_le_mul_left _ hA) (by rw [lcm_div pa.pos]; exact hl)
    have hlo : (loL b B a A).length ≤ 100000 := by
      have z := asc_le (n := Nat.lcm a b) (asc_filter (asc_strL pb.lt pb.asc (Nat.lcm b a / b)) _ : Per.Asc (loL b B a A)) fun x hx => by
        have y := (mem_strL pb.pos pb.lt).mp (List.mem_filter.mp hx).1
        rw [lcm_div pb.pos, Nat.lcm_comm] at y
        exact y.1
      exact Nat.le_trans z hl
    refine' rn_asg (g := gTup K 2 (gCons (gName 3) (gCons (gName 4) gNil))) (f := fun env => (env.set 3 (some (natD (Nat.lcm a b)))).set 4 (some (.tup ((loL b B a A).map natD)))) (d := patD (Nat.lcm a b) (loL b B a A)) (pg_tup rfl (pgs_cons (pg_name scEi.nd rfl (by first | exact .inl rfl | exact .inr rfl)) (pgs_cons (pg_name scEi.nd rfl (by first | exact .inl rfl | exact .inr rfl)) pgs_nil))) ?v1 (gd_two 3 4) ?k1
    case v1 => exact ve_is (ve_R F2 hgd hrm rfl m2 k2 b2 (va_cons (ve_var (d := patD b B) (i := 1) rfl rfl (by walk_at "vis")) (va_cons (ve_var (d := patD a A) (i := 0) rfl rfl (by walk_at "vis")) va_nil)) ⟨b, a, B, A, rfl, pb, pa, by rw [Nat.lcm_comm]; exact hl, rfl⟩) (by rw [Nat.lcm_comm])
    case k1 =>
    intro B2 e2
    refine' rn_asg (g := gTup K 2 (gCons (gName 5) (gCons (gName 6) gNil))) (f := fun env => (env.set 5 (some (natD a))).set 6 (some (.tup (A.map natD)))) (d := patD a A) (pg_tup rfl (pgs_cons (pg_name scEi.nd rfl (by first | exact .inl rfl | exact .inr rfl)) (pgs_cons (pg_name scEi.nd rfl (by first | exact .inl rfl | exact .inr rfl)) pgs_nil))) (ve_var (i := 0) rfl rfl (by walk_at "vis")) (gd_two 5 6) ?k2
    intro B3 e3
    have pr := or_perm pa pb
    have hlen := pr.length_eq
    rw [List.length_append] at hlen
    have hor : (orL a A b B (Nat.lcm a b)).length ≤ Nat.lcm a b := by
      have z := List.length_filter_le (fun x => decide (x % a ∈ A) || decide (x % b ∈ B)) (List.range (Nat.lcm a b))
      rw [List.length_range] at z
      exact z
    refine rn_ret (ve_is (ve_tup (va_cons (ve_var (d := natD (Nat.lcm a b)) (i := 3) rfl rfl (by walk_at "vis")) (va_cons (ve_ty (id := "tuple") (va_cons (ve_bi (va_cons (ve_is (ve_bin (ve_R F1 hgd (hrm.mono (by decide)) rfl m1 k1 b1 (va_cons (ve_var (d := natD a) (i := 5) rfl rfl (by walk_at "vis")) (va_cons (ve_var (d := .tup (A.map natD)) (i := 6) rfl rfl (by walk_at "vis")) (va_cons (ve_is (ve_var (d := natD (Nat.lcm a b)) (i := 3) rfl rfl (by walk_at "vis")) (by rw [lcm_div pa.pos] : _ = natD (Nat.lcm a b / a * a))) va_nil))) ⟨a, Nat.lcm a b / a, A, rfl, pa.pos, by omega, by rw [lcm_div pa.pos]; exact hl, hN, rfl⟩) (ve_ty (id := "list") (va_cons (ve_var (d := .tup ((loL b B a A).map natD)) (i := 4) rfl rfl (by walk_at "vis")) va_nil) rfl mLi boot_list to_listT) (bo_cat ?lc)) ?l1) va_nil) rfl mS boot_sorted (fo_sorted (ns := (strL a A (Nat.lcm a b / a) ++ loL b B a A).map toI) (l := (orL a A b B (Nat.lcm a b)).map toI) ?srt ?prm)) va_nil) rfl mT boot_tuple to_tupL) va_nil)) (by show 2 ≤ 100000; decide)) ?eq) (kQ.ex (e1.trans (e2.trans e3)))
    case lc =>
      rw [List.length_map, List.length_map]
      omega
    case l1 => rw [← List.map_append, natD_ints]
    case srt => exact List.pairwise_map.mpr ((asc_filter (asc_range _) _ : Per.Asc (orL a A b B (Nat.lcm a b))).imp fun h => by show (_ : Int) ≤ _; unfold toI; omega)
    case prm => exact pr.map _
    case eq =>
      unfold eiP
      rw [if_neg (h1 (by show 0 < 2; decide)), if_neg (h2 (by show 1 < 2; decide)), ← natD_ints]
      rfl
end
end K2
set_option Elab.async false
set_option linter.all false
set_option maxRecDepth 100000
set_option maxHeartbeats 4000000
namespace K2
open PySem L2 Vd
open PySem.Spec PyProof.Rows
/-! the walk over data -/
local macro_rules | `(tactic| walk_at "vis") => `(tactic| first | exact Or.inl rfl | exact Or.inr (Or.inl rfl) | exact Or.inr (Or.inr rfl))
local macro_rules | `(tactic| walk_at "none") => `(tactic| first | assumption)
local macro_rules | `(tactic| walk_at "num") => `(tactic| first | decide | omega)
local macro_rules | `(tactic| walk_at "vr") => `(tactic| first
  | exact bo_add | exact bo_sub | exact bo_mulR (by decide) | exact bo_mulL (by decide) | exact bo_mod (by walk_at "num") | exact bo_div (by walk_at "num") (by walk_at "num") | exact bo_pow (by decide) (by decide) (by decide) | exact bo_cat (by walk_at "num") | exact bo_mulR (by omega) | exact bo_mulL (by omega))
local macro_rules | `(tactic| walk_at "vq") => `(tactic| first
  | exact co_lt | exact co_le | exact co_gt | exact co_ge | exact co_eqI | exact co_neI | exact co_eqS | exact co_neS)
local macro_rules | `(tactic| walk_at "vx") => `(tactic| first
  | exact xo_own (by assumption) rfl | exact xo_lst rfl | exact xo_tup rfl)
local macro_rules | `(tactic| walk_at "vf") => `(tactic| first
  | exact fo_abs | exact fo_lenL | exact fo_lenT | exact fo_lenO (by assumption) | exact fo_divmod (by walk_at "num") (by walk_at "num") | exact fo_max rfl | exact fo_min rfl)
local macro_rules | `(tactic| walk_at "vn") => `(tactic| first
  | exact ve_var (i := 0) rfl rfl (by walk_at "vis") | exact ve_var (i := 1) rfl rfl (by walk_at "vis") | exact ve_var (i := 2) rfl rfl (by walk_at "vis") | exact ve_var (i := 3) rfl rfl (by walk_at "vis") | exact ve_var (i := 4) rfl rfl (by walk_at "vis") | exact ve_var (i := 5) rfl rfl (by walk_at "vis") | exact ve_var (i := 6) rfl rfl (by walk_at "vis") | exact ve_var (i := 7) rfl rfl (by walk_at "vis"))
local macro_rules | `(tactic| walk_at "vd") => `(tactic| first
  | exact ve_int | exact ve_bl | exact ve_non | exact ve_str
  | (refine' ve_bin ?ha ?hb ?hr; (case ha => walk_at "vd"); (case hb => walk_at "vd"); (case hr => walk_at "vr"))
  | (refine' ve_sub ?ha ?hb (fun _ _ => rfl) ?hr; (case ha => walk_at "vd"); (case hb => walk_at "vd"); (case hr => walk_at "vx"))
  | (refine' ve_ty (id := "int") ?ha rfl ?hm boot_int ?hr; (case ha => walk_at "va"); (case hm => walk_at "none"); (case hr => exact to_int))
  | (refine' ve_bi ?ha rfl ?hm ?hv ?hr; (case hv => first | exact boot_abs | exact boot_len | exact boot_divmod | exact boot_max | exact boot_min); (case ha => walk_at "va"); (case hm => walk_at "none"); (case hr => walk_at "vf"))
  | (refine' ve_tup ?ha ?hl; (case ha => walk_at "va"); (case hl => walk_at "num"))
  | (refine' ve_lst ?ha ?hl; (case ha => walk_at "va"); (case hl => walk_at "num"))
  | (refine' ve_comp ?ha ?hb ?hr; (case ha => walk_at "vd"); (case hb => walk_at "vd"); (case hr => walk_at "vq"))
  | walk_at "vn")
local macro_rules | `(tactic| walk_at "va") => `(tactic| first | exact va_nil | (refine' va_cons ?ha ?hb; (case ha => walk_at "vd"); (case hb => walk_at "va")))
local macro_rules | `(tactic| walk_at "vt") => `(tactic| first
  | (refine' vt_comp ?ha ?hb ?hr; (case ha => walk_at "vd"); (case hb => walk_at "vd"); (case hr => walk_at "vq"))
  | (refine' vt_val ?hv; case hv => walk_at "vd"))
/-! ### unchecked, joined -/
abbrev sUn : Stmt := s_unchecked
theorem scUn : FnScope ["numbers", "period", "marks", "made"] ["numbers", "period", "marks"] (defScope sUn) := ⟨rfl, rfl, rfl, by decide +kernel, rfl, by decide +kernel, by decide +kernel⟩
def RUn (C : Addr) (ds : List D) (d : D) : Prop := ∃ (ns M A : List Nat) (n a : Nat), ds = [.tup (ns.map natD), natD n, .tup (M.map natD)] ∧ Per.Pat n M ∧ n < 1073741824 ∧ M.length ≤ 100000 ∧ Per.Lst n M a A ∧ d = .ins C (tmD ns a A)
abbrev sJo : Stmt := s_joined
theorem scJo : FnScope ["pattern", "numbers", "held", "period", "marks", "number", "kept", "exceptions"] ["pattern", "numbers", "held"] (defScope sJo) := ⟨rfl, rfl, rfl, by decide +kernel, rfl, by decide +kernel, by decide +kernel⟩
/-- the numbers that are the other way round -/
def exL (ks hs : List Nat) (c : Nat) (M : List Nat) : List Nat := ks.filter fun x => decide (x ∈ hs) != decide (x % c ∈ M)
def RJo (C : Addr) (ds : List D) (d : D) : Prop := ∃ (c a : Nat) (M A ks hs : List Nat), ds = [patD c M, .tup (ks.map natD), .lst (hs.map natD)] ∧ Per.Pat c M ∧ c ≤ 100000 ∧ ks.length ≤ 1000 ∧ hs.length ≤ 1000 ∧ hs.Nodup ∧ Per.Lst c M a A ∧ d = .ins C (tmD (exL ks hs c M) a A)
section
variable {γ : Gds} {P : Program} {w : World} {K : PySem.W.Frag} {mg : Str → Option Value} {base : Heap}
theorem ok_unchecked {f f1 g C : Addr} {fd fd1 : FuncData} (Fn : Fun K "unchecked" "unchecked" sUn f fd) (c : Cls K C) (n1 : NoAttr K C "_numbers") (n2 : NoAttr K C "_pattern") (M0 : Mk K C g) (I0 : InS γ P w K mg base 4 g [] (spI K C (RIni fun kd => g0 kd [natD 1, .tup []]))) (gl : mg "Times" = some (.ref C))
    (F1 : FnG γ P w K mg base CX0 2 f1 fd1 ["period", "marks"] (spR K RSho)) (m1 : mg "shortest" = some (.ref f1)) (k1 : PySem.W.keepIn K (.ref f1) = true) (b1 : Binds K fd1 ["period", "marks"] []) : FnG γ P w K mg base CX0 6 f fd ["numbers", "period", "marks"] (spR K (RUn C)) := by
  refine okR Fn scUn (fun ds d ⟨ns, M, A, n, a, e, _⟩ => by rw [e]; rfl) fun cdv A0 outer s H Bh ow ds d Q E hgd hrm hR kQ => ?_
  obtain ⟨ns, M, A, n, a, rfl, pat, hn, hM, hL, rfl⟩ := hR
  have lst0 : Per.Lst 1 [] 1 [] := ⟨⟨by decide, List.Pairwise.nil, (fun x hx => by cases hx)⟩, rfl, fun m hm _ => hm⟩
  have n0 : IniOk [] 1 [] 1 [] := ⟨List.Pairwise.nil, (fun x hx => by cases hx), ⟨by decide, List.Pairwise.nil, (fun x hx => by cases hx)⟩, by decide, lst0⟩
  refine' rn_setM (i := 3) scUn.nd rfl (by first | exact .inl rfl | exact .inr rfl) (vm_mk0 M0 I0 hgd hrm rfl gl vk_nil rfl ⟨[], 1, [], 1, [], rfl, by decide, rfl, n0, rfl⟩) ?k1
  rintro B1 d ow2 e1 ⟨q, hq, rfl, rfl⟩
  refine' rn_fld (d := .tup [natD a, .tup (A.map natD)]) (q := q) (fl := tmD [] 1 []) c n2 ?h2 ?o2 ou_same (by show 2 < 1000; decide) ?k2
  case h2 => exact ve_R F1 hgd (hrm.mono (by decide)) rfl m1 k1 b1 (va_cons (ve_var (d := natD n) (i := 1) rfl rfl (by walk_at "vis")) (va_cons (ve_var (d := .tup (M.map natD)) (i := 2) rfl rfl (by walk_at "vis")) va_nil)) ⟨n, a, M, A, rfl, pat, hn, hM, hL, rfl⟩
  case o2 => exact ve_var (i := 3) rfl rfl (by walk_at "vis")
  case k2 =>
  intro B2 e2
  refine' rn_fld (d := .tup (ns.map natD)) (q := q) (fl := tmD [] a A) c n1 ?h3 ?o3 ou_same (by show 2 < 1000; decide) ?k3
  case h3 => exact ve_var (d := .tup (ns.map natD)) (i := 0) rfl rfl (by walk_at "vis")
  case o3 => exact ve_var (i := 3) rfl rfl (by walk_at "vis")
  case k3 =>
  intro B3 e3
  refine' rn_freezeI (j := 3) (q := q) (C := C) (fl := tmD ns a A) rfl ou_same ?k4
  intro B4 e4
  refine rn_retS (ow0 := ow) (ve_var (d := .ins C (tmD ns a A)) (i := 3) rfl rfl (by walk_at "vis")) (fun b o h => ?_) (kQ.ex (e1.trans (e2.trans (e3.trans e4))))
  have ne : b ≠ q := fun z => by rw [z, hq] at h; cases h
  rw [oz_ne ne, ou_ne ne, ou_ne ne, ou_ne ne]
  exact h
theorem ok_joined {f f1 f2 C : Addr} {fd fd1 fd2 : FuncData} (Fn : Fun K "joined" "joined" sJo f fd) (F1 : FnG γ P w K mg base CX0 6 f1 fd1 ["numbers", "period", "marks"] (spR K (RUn C))) (m1 : mg "unchecked" = some (.ref f1)) (k1 : PySem.W.keepIn K (.ref f1) = true) (b1 : Binds K fd1 ["numbers", "period", "marks"] [])
    (F2 : FnG γ P w K mg base CX0 2 f2 fd2 ["row", "value"] (spR K RHol)) (m2 : mg "holds" = some (.ref f2)) (k2 : PySem.W.keepIn K (.ref f2) = true) (b2 : Binds K fd2 ["row", "value"] []) (mT : mg "tuple" = none) : FnG γ P w K mg base CX0 7 f fd ["pattern", "numbers", "held"] (spR K (RJo C)) := by
  refine okR Fn scJo (fun ds d ⟨c, a, M, A, ks, hs, e, _⟩ => by rw [e]; rfl) fun cdv A0 outer s H Bh ow ds d Q E hgd hrm hR kQ => ?_
  obtain ⟨c, a, M, A, ks, hs, rfl, pat, hc, hk, hh, nd, hL, rfl⟩ := hR
  have hu64 : A0.units + 3 + 64 < cLine := by
    have z : A0.units + 3 + 16 * 6 + 200 < cLine := hrm.un
    omega
  have hu1 : A0.units + 3 + 1 < cLine := by omega
  have hMl := asc_le pat.asc pat.lt
  refine' rn_asg (g := gTup K 2 (gCons (gName 3) (gCons (gName 4) gNil))) (f := fun env => (env.set 3 (some (natD c))).set 4 (some (.tup (M.map natD)))) (d := patD c M) (pg_tup rfl (pgs_cons (pg_name scJo.nd rfl (by first | exact .inl rfl | exact .inr rfl)) (pgs_cons (pg_name scJo.nd rfl (by first | exact .inl rfl | exact .inr rfl)) pgs_nil))) (ve_var (i := 0) rfl rfl (by walk_at "vis")) (gd_two 3 4) ?k1
  intro B1 e1
  refine' rn_set (i := 6) (d := .dct (hs.map fun (m : Nat) => ((.inl (m : Int) : Key), .bl true))) scJo.nd rfl (by first | exact .inl rfl | exact .inr rfl) ?h2 ?k2
  case h2 =>
    refine ve_is (ve_dc (j := 5) (ds := hs.map natD) (fun d => match d with | .int i => i | _ => 0) (fun _ => .bl true) rfl scJo.nd (vi_list (ve_var (i := 2) rfl rfl (by walk_at "vis"))) (blkOk_by (N := ["pattern", "numbers", "held", "period", "marks", "number", "kept", "exceptions"]) (sc := defScope sJo) (by decide +kernel)) (by rw [List.length_map]; omega) ?nd (fun _ _ _ _ _ => pg_name (i := 5) scJo.nd rfl (.inl rfl)) ?hk (fun d ow' hd sub s0 H0 C0 cl fp => ve_bl)) (by rw [List.map_map]; rfl)
    case nd =>
      rw [List.map_map]
      refine List.Pairwise.map _ (fun x y h => ?_) nd
      intro e
      have e2 : (x : Int) = (y : Int) := e
      exact h (by omega)
    case hk =>
      intro d ow' hd sub s0 H0 C0 cl fp
      obtain ⟨x, hx, rfl⟩ := List.mem_map.mp hd
      exact ve_var (i := 5) rfl rfl (by walk_at "vis")
  case k2 =>
  intro B2 e2
  refine' rn_setLc (j := 5) (i := 7) (ds := ks.map natD) (tstN fun x => decide (x ∈ hs) != decide (x % c ∈ M)) (fun d => d) rfl scJo.nd rfl rfl (sw_true rfl rfl rfl (by decide +kernel)) ?vi (blkOk_by (N := ["pattern", "numbers", "held", "period", "marks", "number", "kept", "exceptions"]) (sc := defScope sJo) (by decide +kernel)) ?len (fun _ _ _ _ _ => pg_name (i := 5) scJo.nd rfl (.inl rfl)) ?ht ?he ?k3
  case vi => exact vi_tup (ve_var (d := .tup (ks.map natD)) (i := 1) rfl rfl (by walk_at "vis"))
  case len => rw [List.length_map]; omega
  case ht =>
    intro d ow' hd sub s0 H0 C0 cl fp
    obtain ⟨x, hx, rfl⟩ := List.mem_map.mp hd
    have hmod : (x : Int) % (c : Int) = ((x % c : Nat) : Int) := (Int.natCast_emod x c).symm
    have memM : decide (((x % c : Nat) : Int) ∈ M.map toI) = decide (x % c ∈ M) := decide_eq_decide.mpr mem_toI
    have memH : (valD (hs.map fun (m : Nat) => ((.inl (m : Int) : Key), D.bl true)) (.inl (x : Int))).isSome = decide (x ∈ hs) := by
      rw [val_keys, decide_eq_decide]
      constructor
      · rintro ⟨m, hm, e⟩
        have : m = x := by omega
        rw [← this]
        exact hm
      · intro h
        exact ⟨x, h, rfl⟩
    refine vts_one (vt_is (vt_comp (d1 := .bl (decide (x ∈ hs))) (d2 := .bl (decide (x % c ∈ M))) (ve_is (ve_comp (ve_var (d := natD x) (i := 5) rfl rfl (by walk_at "vis")) (ve_var (d := .dct (hs.map fun (m : Nat) => ((.inl (m : Int) : Key), D.bl true))) (i := 6) rfl rfl (by walk_at "vis")) (co_din hu1 rfl)) (by rw [memH])) (ve_is (ve_R F2 hgd (hrm.mono (by decide)) rfl m2 k2 b2 (va_cons (ve_is (ve_var (d := .tup (M.map natD)) (i := 4) rfl rfl (by walk_at "vis")) (by rw [natD_ints] : _ = D.tup ((M.map toI).map D.int))) (va_cons (ve_is (ve_bin (ve_var (d := natD x) (i := 5) rfl rfl (by walk_at "vis")) (ve_var (d := natD c) (i := 3) rfl rfl (by walk_at "vis")) (bo_mod (by have := pat.pos; omega))) (by rw [hmod] : _ = D.int ((x % c : Nat) : Int))) va_nil)) ⟨M.map toI, ((x % c : Nat) : Int), rfl, asc_toI pat.asc, rfl⟩) (by rw [memM])) (co_neD hu64 rfl rfl)) ?_)
    show (!PyData.eqv (D.bl (decide (x ∈ hs))).py (D.bl (decide (x % c ∈ M))).py) = (decide (((x : Int)).toNat ∈ hs) != decide (((x : Int)).toNat % c ∈ M))
    rw [Int.toNat_natCast]
    cases decide (x ∈ hs) <;> cases decide (x % c ∈ M) <;> rfl
  case he =>
    intro d ow' hd _ sub s0 H0 C0 cl fp
    exact ve_var (i := 5) rfl rfl (by walk_at "vis")
  case k3 =>
  intro B3 e3
  rw [filt_nat]
  exact rn_ret (ve_R F1 hgd hrm rfl m1 k1 b1 (va_cons (ve_ty (id := "tuple") (va_cons (ve_var (d := .lst ((exL ks hs c M).map natD)) (i := 7) rfl rfl (by walk_at "vis")) va_nil) rfl mT boot_tuple to_tupL) (va_cons (ve_var (d := natD c) (i := 3) rfl rfl (by walk_at "vis")) (va_cons (ve_var (d := .tup (M.map natD)) (i := 4) rfl rfl (by walk_at "vis")) va_nil))) ⟨exL ks hs c M, M, A, c, a, rfl, pat, by omega, by omega, hL, rfl⟩) (kQ.ex (e1.trans (e2.trans e3)))
end
end K2
set_option Elab.async false
set_option linter.all false
set_option maxRecDepth 100000
set_option maxHeartbeats 4000000
/-! not in an own object. -/
namespace Vd
open PySem L2
open PySem.Spec PyProof.Rows
section
variable {γ : Gds} {X : Cx} {env : List (Option D)} {ow : Ow} {e : Expr} {d : D} {C f : Addr} {fl : List (Str × D)} {b : Bool} {fd : FuncData} {ps : List Str} {k : Nat} {R : List D → D → Prop}
def rOwnNot (K : PySem.W.Frag) (C : Addr) (R : List D → D → Prop) : R2 := fun x y H Q => ∃ a dx fs, y = .ref a ∧ H a = some (.ins C dx fs) ∧ spR K R [y, x] H (fun v H' => ∃ b, v = .bl b ∧ Q (.bl (!b)) H') E0
theorem op_notInOwn (F : FnG γ X.prog X.w X.K X.mg X.base CX0 k f fd ps (spR X.K R)) (hgd : γ X.A.guards) (hr : Room k X.A) (hb : Binds X.K fd ps []) (hs : PySem.W.findIn X.K (.ref C) "__contains__" = some (some (.ref f))) (hf : PySem.W.isFn X.K (.ref f) = true) : OpR X (compareOp .NotIn) (rOwnNot X.K C R) := by
  intro pins s σ H x y v u Q I rx ry h
  obtain ⟨a, dx, fs, ex, ea, q⟩ := h
  subst ex
  obtain rfl : u = Value.ref a := ry
  obtain ⟨ox, od, J⟩ := inst_of I ea
  obtain ⟨m, fr⟩ := I.fr
  refine PySem.W.notIn_K fr I.ok.mod.kin J hs hf ?_
  refine wpAny_mono (run_fnG (us := [.ref a, v]) (vs := [.ref a, x]) F hgd hr hb .nil pass0 I (.cons rfl (.cons rx .nil)) q) (fun r s' z => ?_) fun _ _ z => z
  obtain ⟨z, H', I', rz, b, ez, q2⟩ := z
  subst ez
  obtain rfl : r = Value.bool b := rz
  exact wpAny_truthy_bool ⟨.bl (!b), H', I', rfl, q2⟩
theorem co_notInOwn {c : Expr} (hm : behindInMarks .NotIn c = false) (F : FnG γ X.prog X.w X.K X.mg X.base CX0 k f fd ps (spR X.K R)) (hgd : γ X.A.guards) (hr : Room k X.A) (hb : Binds X.K fd ps []) (hs : PySem.W.findIn X.K (.ref C) "__contains__" = some (some (.ref f))) (hf : PySem.W.isFn X.K (.ref f) = true) (hR : R [.ins C fl, d] (.bl b)) : CmpOk X ow .NotIn c d (.ins C fl) (.bl (!b)) := ⟨_, op_notInOwn F hgd hr hb hs hf, hm, .mk fun F1 H x y Q w r1 r2 k0 => by
  have keep := r2
  cases r2 with
  | @ins a C2 dx fs l g1 r3 =>
    refine ⟨a, dx, fs, rfl, w.ex _ _ g1, F1, ow, _, _, w, .cons keep (.cons r1 .nil), hR, fun F2 H2 v e2 w2 r4 => ?_⟩
    cases r4
    exact ⟨b, rfl, k0 F2 H2 _ e2 w2 (.bl _)⟩⟩
end
end Vd
set_option Elab.async false
set_option linter.all false
set_option maxRecDepth 100000
set_option maxHeartbeats 4000000
namespace K2
open PySem L2 Vd
open PySem.Spec PyProof.Rows
/-! the walk over data -/
local macro_rules | `(tactic| walk_at "vis") => `(tactic| first | exact Or.inl rfl | exact Or.inr (Or.inl rfl) | exact Or.inr (Or.inr rfl))
local macro_rules | `(tactic| walk_at "none") => `(tactic| first | assumption)
local macro_rules | `(tactic| walk_at "num") => `(tactic| first | decide | omega)
local macro_rules | `(tactic| walk_at "vr") => `(tactic| first
  | exact bo_add | exact bo_sub | exact bo_mulR (by decide) | exact bo_mulL (by decide) | exact bo_mod (by walk_at "num") | exact bo_div (by walk_at "num") (by walk_at "num") | exact bo_pow (by decide) (by decide) (by decide) | exact bo_cat (by walk_at "num") | exact bo_mulR (by omega) | exact bo_mulL (by omega))
local macro_rules | `(tactic| walk_at "vq") => `(tactic| first
  | exact co_lt | exact co_le | exact co_gt | exact co_ge | exact co_eqI | exact co_neI | exact co_eqS | exact co_neS)
local macro_rules | `(tactic| walk_at "vx") => `(tactic| first
  | exact xo_own (by assumption) rfl | exact xo_lst rfl | exact xo_tup rfl)
local macro_rules | `(tactic| walk_at "vf") => `(tactic| first
  | exact fo_abs | exact fo_lenL | exact fo_lenT | exact fo_lenO (by assumption) | exact fo_divmod (by walk_at "num") (by walk_at "num") | exact fo_max rfl | exact fo_min rfl)
local macro_rules | `(tactic| walk_at "vn") => `(tactic| first
  | exact ve_var (i := 0) rfl rfl (by walk_at "vis") | exact ve_var (i := 1) rfl rfl (by walk_at "vis") | exact ve_var (i := 2) rfl rfl (by walk_at "vis") | exact ve_var (i := 3) rfl rfl (by walk_at "vis") | exact ve_var (i := 4) rfl rfl (by walk_at "vis") | exact ve_var (i := 5) rfl rfl (by walk_at "vis") | exact ve_var (i := 6) rfl rfl (by walk_at "vis") | exact ve_var (i := 7) rfl rfl (by walk_at "vis"))
local macro_rules | `(tactic| walk_at "vd") => `(tactic| first
  | exact ve_int | exact ve_bl | exact ve_non | exact ve_str
  | (refine' ve_bin ?ha ?hb ?hr; (case ha => walk_at "vd"); (case hb => walk_at "vd"); (case hr => walk_at "vr"))
  | (refine' ve_sub ?ha ?hb (fun _ _ => rfl) ?hr; (case ha => walk_at "vd"); (case hb => walk_at "vd"); (case hr => walk_at "vx"))
  | (refine' ve_ty (id := "int") ?ha rfl ?hm boot_int ?hr; (case ha => walk_at "va"); (case hm => walk_at "none"); (case hr => exact to_int))
  | (refine' ve_bi ?ha rfl ?hm ?hv ?hr; (case hv => first | exact boot_abs | exact boot_len | exact boot_divmod | exact boot_max | exact boot_min); (case ha => walk_at "va"); (case hm => walk_at "none"); (case hr => walk_at "vf"))
  | (refine' ve_tup ?ha ?hl; (case ha => walk_at "va"); (case hl => walk_at "num"))
  | (refine' ve_lst ?ha ?hl; (case ha => walk_at "va"); (case hl => walk_at "num"))
  | (refine' ve_comp ?ha ?hb ?hr; (case ha => walk_at "vd"); (case hb => walk_at "vd"); (case hr => walk_at "vq"))
  | walk_at "vn")
local macro_rules | `(tactic| walk_at "va") => `(tactic| first | exact va_nil | (refine' va_cons ?ha ?hb; (case ha => walk_at "vd"); (case hb => walk_at "va")))
local macro_rules | `(tactic| walk_at "vt") => `(tactic| first
  | (refine' vt_comp ?ha ?hb ?hr; (case ha => walk_at "vd"); (case hb => walk_at "vd"); (case hr => walk_at "vq"))
  | (refine' vt_val ?hv; case hv => walk_at "vd"))
/-! ### the operators -/
def andL (a : Nat) (A : List Nat) (b : Nat) (B : List Nat) : List Nat := (List.range (Nat.lcm a b)).filter fun x => decide (x % a ∈ A) && decide (x % b ∈ B)
def RBo (ds : List D) (d : D) : Prop := ∃ (a b : Nat) (A B : List Nat), ds = [patD a A, patD b B] ∧ Per.Pat a A ∧ Per.Pat b B ∧ Nat.lcm a b ≤ 100000 ∧ b ≤ 60 ∧ d = patD (Nat.lcm a b) (andL a A b B)
def anP (a : Nat) (A : List Nat) (b : Nat) (B : List Nat) : Nat × List Nat := (Nat.lcm a b, andL a A b B)
def loP (a : Nat) (A : List Nat) (b : Nat) (B : List Nat) : Nat × List Nat := (Nat.lcm a b, loL a A b B)
def orP (a : Nat) (A : List Nat) (b : Nat) (B : List Nat) : Nat × List Nat := if A.length = a then (a, A) else if B.length = b then (b, B) else (Nat.lcm a b, orL a A b B (Nat.lcm a b))
theorem eiP_orP {a b : Nat} {A B : List Nat} : eiP a A b B = patD (orP a A b B).1 (orP a A b B).2 := by
  unfold eiP orP
  split
  · rfl
  · split <;> rfl
theorem pat_range {n : Nat} {p : Nat → Bool} (h : 0 < n) : Per.Pat n ((List.range n).filter p) := ⟨h, asc_filter (asc_range n) _, fun x hx => List.mem_range.mp (List.mem_filter.mp hx).1⟩
theorem pat_an {a b : Nat} {A B : List Nat} (pa : Per.Pat a A) (pb : Per.Pat b B) : Per.Pat (anP a A b B).1 (anP a A b B).2 := pat_range (Nat.lcm_pos pa.pos pb.pos)
theorem pat_lo {a b : Nat} {A B : List Nat} (pa : Per.Pat a A) (pb : Per.Pat b B) : Per.Pat (loP a A b B).1 (loP a A b B).2 := ⟨Nat.lcm_pos pa.pos pb.pos, asc_filter (asc_strL pa.lt pa.asc _) _, fun x hx => by
  have y := (mem_strL pa.pos pa.lt).mp (List.mem_filter.mp hx).1
  rw [lcm_div pa.pos] at y
  exact y.1⟩
theorem pat_or {a b : Nat} {A B : List Nat} (pa : Per.Pat a A) (pb : Per.Pat b B) : Per.Pat (orP a A b B).1 (orP a A b B).2 := by
  unfold orP
  split
  · exact pa
  · split
    · exact pb
    · exact pat_range (Nat.lcm_pos pa.pos pb.pos)
theorem orP_le {a b n : Nat} {A B : List Nat} (pa : Per.Pat a A) (pb : Per.Pat b B) (h : Nat.lcm a b ≤ n) : (orP a A b B).1 ≤ n := by
  have hla := Nat.le_of_dvd (Nat.lcm_pos pa.pos pb.pos) (Nat.dvd_lcm_left a b)
  have hlb := Nat.le_of_dvd (Nat.lcm_pos pa.pos pb.pos) (Nat.dvd_lcm_right a b)
  unfold orP
  split
  · show a ≤ n; omega
  · split
    · show b ≤ n; omega
    · exact h
def ROp (C : Addr) (lim : Nat) (pt : Nat → List Nat → Nat → List Nat → Nat × List Nat) (op : Bool → Bool → Bool) (ds : List D) (d : D) : Prop := ∃ (ns ms ks A B Cc : List Nat) (a b c : Nat), ds = [.ins C (tmD ns a A), .ins C (tmD ms b B)] ∧ Per.Asc ns ∧ Per.Asc ms ∧ Per.Pat a A ∧ Per.Pat b B ∧ Nat.lcm a b ≤ 100000 ∧ b ≤ lim ∧ ns.length + ms.length ≤ 60 ∧ Both ns ms ks ∧ Per.Lst (pt a A b B).1 (pt a A b B).2 c Cc ∧
  d = .ins C (tmD (exL ks (ks.filter fun x => op (inT ns a A x) (inT ms b B x)) (pt a A b B).1 (pt a A b B).2) c Cc)
/-- what the three ask of the text -/
structure OpE (γ : Gds) (P : Program) (w : World) (K : PySem.W.Frag) (mg : Str → Option Value) (base : Heap) (C : Addr) : Prop where
  cl : Cls K C
  n1 : NoAttr K C "_numbers"
  n2 : NoAttr K C "_pattern"
  mrg : ∃ f fd, FnG γ P w K mg base CX0 1 f fd ["numbers", "others"] (spR K RMrg) ∧ mg "merged" = some (.ref f) ∧ PySem.W.keepIn K (.ref f) = true ∧ Binds K fd ["numbers", "others"] []
  joi : ∃ f fd, FnG γ P w K mg base CX0 7 f fd ["pattern", "numbers", "held"] (spR K (RJo C)) ∧ mg "joined" = some (.ref f) ∧ PySem.W.keepIn K (.ref f) = true ∧ Binds K fd ["pattern", "numbers", "held"] []
  con : ∃ f fd, PySem.W.findIn K (.ref C) "__contains__" = some (some (.ref f)) ∧ PySem.W.isFn K (.ref f) = true ∧ FnG γ P w K mg base CX0 3 f fd ["self", "number"] (spR K (RCon C)) ∧ Binds K fd ["self", "number"] []
theorem memT_nat {ns A : List Nat} {a x : Nat} : memT ns a A (natD x) = inT ns a A x := by
  show (decide ((0 : Int) ≤ (x : Int)) && inT ns a A x) = _
  rw [decide_eq_true (show (0 : Int) ≤ (x : Int) by omega), Bool.true_and]
abbrev sAnd : Stmt := s_Times___and__
theorem scAnd : FnScope ["self", "other", "numbers", "number", "held"] ["self", "other"] (defScope sAnd) := ⟨rfl, rfl, rfl, by decide +kernel, rfl, by decide +kernel, by decide +kernel⟩
theorem ok_And {γ : Gds} {P : Program} {w : World} {K : PySem.W.Frag} {mg : Str → Option Value} {base : Heap} {f fP C : Addr} {fd fdP : FuncData} (Fn : Fun K "__and__" "Times.__and__" sAnd f fd) (T : OpE γ P w K mg base C) (FP : FnG γ P w K mg base CX0 3 fP fdP ["one", "other"] (spR K RBo)) (mP : mg "in_both" = some (.ref fP)) (kP : PySem.W.keepIn K (.ref fP) = true) (bP : Binds K fdP ["one", "other"] []) :
    FnG γ P w K mg base CX0 8 f fd ["self", "other"] (spR K (ROp C 60 anP (fun x y => x && y))) := by
  refine okR Fn scAnd (fun ds d ⟨ns, ms, ks, A, B, Cc, a, b, c, e, _⟩ => by rw [e]; rfl) fun cdv A0 outer s H Bh ow ds d Q E hgd hrm hR kQ => ?_
  obtain ⟨ns, ms, ks, A, B, Cc, a, b, c, rfl, an, am, pa, pb, hl, hlim, hlen, hb, hL, rfl⟩ := hR
  obtain ⟨f1, fd1, F1, m1, k1, b1⟩ := T.mrg
  obtain ⟨f2, fd2, F2, m2, k2, b2⟩ := T.joi
  obtain ⟨f3, fd3, s3, i3, F3, b3⟩ := T.con
  have hks := hb.len
  refine' rn_set (i := 2) (d := .tup (ks.map natD)) scAnd.nd rfl (by first | exact .inl rfl | exact .inr rfl) ?h1 ?k1
  case h1 => exact ve_R F1 hgd (hrm.mono (by decide)) rfl m1 k1 b1 (va_cons (ve_num T.cl T.n1 (ve_var (d := .ins C (tmD ns a A)) (i := 0) rfl rfl (by walk_at "vis"))) (va_cons (ve_num T.cl T.n1 (ve_var (d := .ins C (tmD ms b B)) (i := 1) rfl rfl (by walk_at "vis"))) va_nil)) ⟨ns, ms, ks, rfl, hlen, hb, rfl⟩
  case k1 =>
  intro B1 e1
  refine' rn_setLc (j := 3) (i := 4) (ds := ks.map natD) (tstN fun x => (fun x y => x && y) (inT ns a A x) (inT ms b B x)) (fun d => d) rfl scAnd.nd rfl rfl (sw_true rfl rfl rfl (by decide +kernel)) ?vi (blkOk_by (N := ["self", "other", "numbers", "number", "held"]) (sc := defScope sAnd) (by decide +kernel)) ?len (fun _ _ _ _ _ => pg_name (i := 3) scAnd.nd rfl (.inl rfl)) ?ht ?he ?k2
  case vi => exact vi_tup (ve_var (d := .tup (ks.map natD)) (i := 2) rfl rfl (by walk_at "vis"))
  case len => rw [List.length_map]; omega
  case ht =>
    intro d ow' hd sub s0 H0 C0 cl fp
    obtain ⟨x, hx, rfl⟩ := List.mem_map.mp hd
    refine vts_one (vt_is (vt_w (vw_and (vt_comp (ve_var (d := natD x) (i := 3) rfl rfl (by walk_at "vis")) (ve_var (d := .ins C (tmD ns a A)) (i := 0) rfl rfl (by walk_at "vis")) (co_inOwn rfl F3 hgd (hrm.mono (by decide)) b3 s3 i3 ⟨ns, a, A, natD x, rfl, rfl, an, pa, rfl⟩)) (fun _ => vw_and1 (vt_comp (ve_var (d := natD x) (i := 3) rfl rfl (by walk_at "vis")) (ve_var (d := .ins C (tmD ms b B)) (i := 1) rfl rfl (by walk_at "vis")) (co_inOwn rfl F3 hgd (hrm.mono (by decide)) b3 s3 i3 ⟨ms, b, B, natD x, rfl, rfl, am, pb, rfl⟩))) (pw_all_and _ _))) ?_)
    rw [memT_nat, memT_nat]
    show _ = (fun x y => x && y) (inT ns a A ((x : Int)).toNat) (inT ms b B ((x : Int)).toNat)
    rw [Int.toNat_natCast]
  case he =>
    intro d ow' hd _ sub s0 H0 C0 cl fp
    exact ve_var (i := 3) rfl rfl (by walk_at "vis")
  case k2 =>
  intro B2 e2
  rw [filt_nat]
  exact rn_ret (ve_R F2 hgd hrm rfl m2 k2 b2 (va_cons (ve_R FP hgd (hrm.mono (by decide)) rfl mP kP bP (va_cons (ve_pat T.cl T.n2 (ve_var (d := .ins C (tmD ns a A)) (i := 0) rfl rfl (by walk_at "vis"))) (va_cons (ve_pat T.cl T.n2 (ve_var (d := .ins C (tmD ms b B)) (i := 1) rfl rfl (by walk_at "vis"))) va_nil)) ⟨a, b, A, B, rfl, pa, pb, hl, hlim, rfl⟩) (va_cons (ve_var (d := .tup (ks.map natD)) (i := 2) rfl rfl (by walk_at "vis")) (va_cons (ve_var (d := .lst ((ks.filter fun x => (fun x y => x && y) (inT ns a A x) (inT ms b B x)).map natD)) (i := 4) rfl rfl (by walk_at "vis")) va_nil))) ⟨(anP a A b B).1, c, (anP a A b B).2, Cc, ks, ks.filter fun x => (fun x y => x && y) (inT ns a A x) (inT ms b B x), rfl, pat_an pa pb, hl, by omega, Nat.le_trans (List.length_filter_le _ _) (by omega), asc_nodup (asc_filter hb.1 _), hL, rfl⟩) (kQ.ex (e1.trans e2))
abbrev sOr : Stmt := s_Times___or__
theorem scOr : FnScope ["self", "other", "numbers", "number", "held"] ["self", "other"] (defScope sOr) := ⟨rfl, rfl, rfl, by decide +kernel, rfl, by decide +kernel, by decide +kernel⟩
theorem ok_Or {γ : Gds} {P : Program} {w : World} {K : PySem.W.Frag} {mg : Str → Option Value} {base : Heap} {f fP C : Addr} {fd fdP : FuncData} (Fn : Fun K "__or__" "Times.__or__" sOr f fd) (T : OpE γ P w K mg base C) (FP : FnG γ P w K mg base CX0 3 fP fdP ["one", "other"] (spR K REi)) (mP : mg "in_either" = some (.ref fP)) (kP : PySem.W.keepIn K (.ref fP) = true) (bP : Binds K fdP ["one", "other"] []) :
    FnG γ P w K mg base CX0 8 f fd ["self", "other"] (spR K (ROp C 100000 orP (fun x y => x || y))) := by
  refine okR Fn scOr (fun ds d ⟨ns, ms, ks, A, B, Cc, a, b, c, e, _⟩ => by rw [e]; rfl) fun cdv A0 outer s H Bh ow ds d Q E hgd hrm hR kQ => ?_
  obtain ⟨ns, ms, ks, A, B, Cc, a, b, c, rfl, an, am, pa, pb, hl, hlim, hlen, hb, hL, rfl⟩ := hR
  obtain ⟨f1, fd1, F1, m1, k1, b1⟩ := T.mrg
  obtain ⟨f2, fd2, F2, m2, k2, b2⟩ := T.joi
  obtain ⟨f3, fd3, s3, i3, F3, b3⟩ := T.con
  have hks := hb.len
  refine' rn_set (i := 2) (d := .tup (ks.map natD)) scOr.nd rfl (by first | exact .inl rfl | exact .inr rfl) ?h1 ?k1
  case h1 => exact ve_R F1 hgd (hrm.mono (by decide)) rfl m1 k1 b1 (va_cons (ve_num T.cl T.n1 (ve_var (d := .ins C (tmD ns a A)) (i := 0) rfl rfl (by walk_at "vis"))) (va_cons (ve_num T.cl T.n1 (ve_var (d := .ins C (tmD ms b B)) (i := 1) rfl rfl (by walk_at "vis"))) va_nil)) ⟨ns, ms, ks, rfl, hlen, hb, rfl⟩
  case k1 =>
  intro B1 e1
  refine' rn_setLc (j := 3) (i := 4) (ds := ks.map natD) (tstN fun x => (fun x y => x || y) (inT ns a A x) (inT ms b B x)) (fun d => d) rfl scOr.nd rfl rfl (sw_true rfl rfl rfl (by decide +kernel)) ?vi (blkOk_by (N := ["self", "other", "numbers", "number", "held"]) (sc := defScope sOr) (by decide +kernel)) ?len (fun _ _ _ _ _ => pg_name (i := 3) scOr.nd rfl (.inl rfl)) ?ht ?he ?k2
  case vi => exact vi_tup (ve_var (d := .tup (ks.map natD)) (i := 2) rfl rfl (by walk_at "vis"))
  case len => rw [List.length_map]; omega
  case ht =>
    intro d ow' hd sub s0 H0 C0 cl fp
    obtain ⟨x, hx, rfl⟩ := List.mem_map.mp hd
    refine vts_one (vt_is (vt_w (vw_or (vt_comp (ve_var (d := natD x) (i := 3) rfl rfl (by walk_at "vis")) (ve_var (d := .ins C (tmD ns a A)) (i := 0) rfl rfl (by walk_at "vis")) (co_inOwn rfl F3 hgd (hrm.mono (by decide)) b3 s3 i3 ⟨ns, a, A, natD x, rfl, rfl, an, pa, rfl⟩)) (fun _ => vw_or1 (vt_comp (ve_var (d := natD x) (i := 3) rfl rfl (by walk_at "vis")) (ve_var (d := .ins C (tmD ms b B)) (i := 1) rfl rfl (by walk_at "vis")) (co_inOwn rfl F3 hgd (hrm.mono (by decide)) b3 s3 i3 ⟨ms, b, B, natD x, rfl, rfl, am, pb, rfl⟩))) (pw_all_or _ _))) ?_)
    rw [memT_nat, memT_nat]
    show _ = (fun x y => x || y) (inT ns a A ((x : Int)).toNat) (inT ms b B ((x : Int)).toNat)
    rw [Int.toNat_natCast]
  case he =>
    intro d ow' hd _ sub s0 H0 C0 cl fp
    exact ve_var (i := 3) rfl rfl (by walk_at "vis")
  case k2 =>
  intro B2 e2
  rw [filt_nat]
  exact rn_ret (ve_R F2 hgd hrm rfl m2 k2 b2 (va_cons (ve_is (ve_R FP hgd (hrm.mono (by decide)) rfl mP kP bP (va_cons (ve_pat T.cl T.n2 (ve_var (d := .ins C (tmD ns a A)) (i := 0) rfl rfl (by walk_at "vis"))) (va_cons (ve_pat T.cl T.n2 (ve_var (d := .ins C (tmD ms b B)) (i := 1) rfl rfl (by walk_at "vis"))) va_nil)) ⟨a, b, A, B, rfl, pa, pb, hl, rfl⟩) eiP_orP) (va_cons (ve_var (d := .tup (ks.map natD)) (i := 2) rfl rfl (by walk_at "vis")) (va_cons (ve_var (d := .lst ((ks.filter fun x => (fun x y => x || y) (inT ns a A x) (inT ms b B x)).map natD)) (i := 4) rfl rfl (by walk_at "vis")) va_nil))) ⟨(orP a A b B).1, c, (orP a A b B).2, Cc, ks, ks.filter fun x => (fun x y => x || y) (inT ns a A x) (inT ms b B x), rfl, pat_or pa pb, (orP_le pa pb hl), by omega, Nat.le_trans (List.length_filter_le _ _) (by omega), asc_nodup (asc_filter hb.1 _), hL, rfl⟩) (kQ.ex (e1.trans e2))
abbrev sSub : Stmt := s_Times___sub__
theorem scSub : FnScope ["self", "other", "numbers", "number", "held"] ["self", "other"] (defScope sSub) := ⟨rfl, rfl, rfl, by decide +kernel, rfl, by decide +kernel, by decide +kernel⟩
theorem ok_Sub {γ : Gds} {P : Program} {w : World} {K : PySem.W.Frag} {mg : Str → Option Value} {base : Heap} {f fP C : Addr} {fd fdP : FuncData} (Fn : Fun K "__sub__" "Times.__sub__" sSub f fd) (T : OpE γ P w K mg base C) (FP : FnG γ P w K mg base CX0 3 fP fdP ["one", "other"] (spR K RLo)) (mP : mg "left_over" = some (.ref fP)) (kP : PySem.W.keepIn K (.ref fP) = true) (bP : Binds K fdP ["one", "other"] []) :
    FnG γ P w K mg base CX0 8 f fd ["self", "other"] (spR K (ROp C 100000 loP (fun x y => x && !y))) := by
  refine okR Fn scSub (fun ds d ⟨ns, ms, ks, A, B, Cc, a, b, c, e, _⟩ => by rw [e]; rfl) fun cdv A0 outer s H Bh ow ds d Q E hgd hrm hR kQ => ?_
  obtain ⟨ns, ms, ks, A, B, Cc, a, b, c, rfl, an, am, pa, pb, hl, hlim, hlen, hb, hL, rfl⟩ := hR
  obtain ⟨f1, fd1, F1, m1, k1, b1⟩ := T.mrg
  obtain ⟨f2, fd2, F2, m2, k2, b2⟩ := T.joi
  obtain ⟨f3, fd3, s3, i3, F3, b3⟩ := T.con
  have hks := hb.len
  refine' rn_set (i := 2) (d := .tup (ks.map natD)) scSub.nd rfl (by first | exact .inl rfl | exact .inr rfl) ?h1 ?k1
  case h1 => exact ve_R F1 hgd (hrm.mono (by decide)) rfl m1 k1 b1 (va_cons (ve_num T.cl T.n1 (ve_var (d := .ins C (tmD ns a A)) (i := 0) rfl rfl (by walk_at "vis"))) (va_cons (ve_num T.cl T.n1 (ve_var (d := .ins C (tmD ms b B)) (i := 1) rfl rfl (by walk_at "vis"))) va_nil)) ⟨ns, ms, ks, rfl, hlen, hb, rfl⟩
  case k1 =>
  intro B1 e1
  refine' rn_setLc (j := 3) (i := 4) (ds := ks.map natD) (tstN fun x => (fun x y => x && !y) (inT ns a A x) (inT ms b B x)) (fun d => d) rfl scSub.nd rfl rfl (sw_true rfl rfl rfl (by decide +kernel)) ?vi (blkOk_by (N := ["self", "other", "numbers", "number", "held"]) (sc := defScope sSub) (by decide +kernel)) ?len (fun _ _ _ _ _ => pg_name (i := 3) scSub.nd rfl (.inl rfl)) ?ht ?he ?k2
  case vi => exact vi_tup (ve_var (d := .tup (ks.map natD)) (i := 2) rfl rfl (by walk_at "vis"))
  case len => rw [List.length_map]; omega
  case ht =>
    intro d ow' hd sub s0 H0 C0 cl fp
    obtain ⟨x, hx, rfl⟩ := List.mem_map.mp hd
    refine vts_one (vt_is (vt_w (vw_and (vt_comp (ve_var (d := natD x) (i := 3) rfl rfl (by walk_at "vis")) (ve_var (d := .ins C (tmD ns a A)) (i := 0) rfl rfl (by walk_at "vis")) (co_inOwn rfl F3 hgd (hrm.mono (by decide)) b3 s3 i3 ⟨ns, a, A, natD x, rfl, rfl, an, pa, rfl⟩)) (fun _ => vw_and1 (vt_comp (ve_var (d := natD x) (i := 3) rfl rfl (by walk_at "vis")) (ve_var (d := .ins C (tmD ms b B)) (i := 1) rfl rfl (by walk_at "vis")) (co_notInOwn rfl F3 hgd (hrm.mono (by decide)) b3 s3 i3 ⟨ms, b, B, natD x, rfl, rfl, am, pb, rfl⟩))) (pw_all_and _ _))) ?_)
    rw [memT_nat, memT_nat]
    show _ = (fun x y => x && !y) (inT ns a A ((x : Int)).toNat) (inT ms b B ((x : Int)).toNat)
    rw [Int.toNat_natCast]
  case he =>
    intro d ow' hd _ sub s0 H0 C0 cl fp
    exact ve_var (i := 3) rfl rfl (by walk_at "vis")
  case k2 =>
  intro B2 e2
  rw [filt_nat]
  exact rn_ret (ve_R F2 hgd hrm rfl m2 k2 b2 (va_cons (ve_R FP hgd (hrm.mono (by decide)) rfl mP kP bP (va_cons (ve_pat T.cl T.n2 (ve_var (d := .ins C (tmD ns a A)) (i := 0) rfl rfl (by walk_at "vis"))) (va_cons (ve_pat T.cl T.n2 (ve_var (d := .ins C (tmD ms b B)) (i := 1) rfl rfl (by walk_at "vis"))) va_nil)) ⟨a, b, A, B, rfl, pa, pb, hl, rfl⟩) (va_cons (ve_var (d := .tup (ks.map natD)) (i := 2) rfl rfl (by walk_at "vis")) (va_cons (ve_var (d := .lst ((ks.filter fun x => (fun x y => x && !y) (inT ns a A x) (inT ms b B x)).map natD)) (i := 4) rfl rfl (by walk_at "vis")) va_nil))) ⟨(loP a A b B).1, c, (loP a A b B).2, Cc, ks, ks.filter fun x => (fun x y => x && !y) (inT ns a A x) (inT ms b B x), rfl, pat_lo pa pb, hl, by omega, Nat.le_trans (List.length_filter_le _ _) (by omega), asc_nodup (asc_filter hb.1 _), hL, rfl⟩) (kQ.ex (e1.trans e2))
end K2
set_option Elab.async false
set_option linter.all false
set_option maxRecDepth 100000
set_option maxHeartbeats 4000000
namespace K2
open PySem L2 Vd
open PySem.Spec PyProof.Rows
/-! the walk over data -/
local macro_rules | `(tactic| walk_at "vis") => `(tactic| first | exact Or.inl rfl | exact Or.inr (Or.inl rfl) | exact Or.inr (Or.inr rfl))
local macro_rules | `(tactic| walk_at "none") => `(tactic| first | assumption)
local macro_rules | `(tactic| walk_at "num") => `(tactic| first | decide | omega)
local macro_rules | `(tactic| walk_at "vr") => `(tactic| first
  | exact bo_add | exact bo_sub | exact bo_mulR (by decide) | exact bo_mulL (by decide) | exact bo_mod (by walk_at "num") | exact bo_div (by walk_at "num") (by walk_at "num") | exact bo_pow (by decide) (by decide) (by decide) | exact bo_cat (by walk_at "num") | exact bo_mulR (by omega) | exact bo_mulL (by omega))
local macro_rules | `(tactic| walk_at "vq") => `(tactic| first
  | exact co_lt | exact co_le | exact co_gt | exact co_ge | exact co_eqI | exact co_neI | exact co_eqS | exact co_neS)
local macro_rules | `(tactic| walk_at "vx") => `(tactic| first
  | exact xo_own (by assumption) rfl | exact xo_lst rfl | exact xo_tup rfl)
local macro_rules | `(tactic| walk_at "vf") => `(tactic| first
  | exact fo_abs | exact fo_lenL | exact fo_lenT | exact fo_lenO (by assumption) | exact fo_divmod (by walk_at "num") (by walk_at "num") | exact fo_max rfl | exact fo_min rfl)
local macro_rules | `(tactic| walk_at "vn") => `(tactic| first
  | exact ve_var (i := 0) rfl rfl (by walk_at "vis") | exact ve_var (i := 1) rfl rfl (by walk_at "vis") | exact ve_var (i := 2) rfl rfl (by walk_at "vis") | exact ve_var (i := 3) rfl rfl (by walk_at "vis") | exact ve_var (i := 4) rfl rfl (by walk_at "vis") | exact ve_var (i := 5) rfl rfl (by walk_at "vis") | exact ve_var (i := 6) rfl rfl (by walk_at "vis") | exact ve_var (i := 7) rfl rfl (by walk_at "vis"))
local macro_rules | `(tactic| walk_at "vd") => `(tactic| first
  | exact ve_int | exact ve_bl | exact ve_non | exact ve_str
  | (refine' ve_bin ?ha ?hb ?hr; (case ha => walk_at "vd"); (case hb => walk_at "vd"); (case hr => walk_at "vr"))
  | (refine' ve_sub ?ha ?hb (fun _ _ => rfl) ?hr; (case ha => walk_at "vd"); (case hb => walk_at "vd"); (case hr => walk_at "vx"))
  | (refine' ve_ty (id := "int") ?ha rfl ?hm boot_int ?hr; (case ha => walk_at "va"); (case hm => walk_at "none"); (case hr => exact to_int))
  | (refine' ve_bi ?ha rfl ?hm ?hv ?hr; (case hv => first | exact boot_abs | exact boot_len | exact boot_divmod | exact boot_max | exact boot_min); (case ha => walk_at "va"); (case hm => walk_at "none"); (case hr => walk_at "vf"))
  | (refine' ve_tup ?ha ?hl; (case ha => walk_at "va"); (case hl => walk_at "num"))
  | (refine' ve_lst ?ha ?hl; (case ha => walk_at "va"); (case hl => walk_at "num"))
  | (refine' ve_comp ?ha ?hb ?hr; (case ha => walk_at "vd"); (case hb => walk_at "vd"); (case hr => walk_at "vq"))
  | walk_at "vn")
local macro_rules | `(tactic| walk_at "va") => `(tactic| first | exact va_nil | (refine' va_cons ?ha ?hb; (case ha => walk_at "vd"); (case hb => walk_at "va")))
local macro_rules | `(tactic| walk_at "vt") => `(tactic| first
  | (refine' vt_comp ?ha ?hb ?hr; (case ha => walk_at "vd"); (case hb => walk_at "vd"); (case hr => walk_at "vq"))
  | (refine' vt_val ?hv; case hv => walk_at "vd"))
/-! ### how long the texts are -/
theorem len_nat {n k : Nat} (hk : 0 < k) (h : n < 10 ^ k) : ((toString (n : Int) : String) : Str).length ≤ k := PyProof.Rows.toString_length_le (v := (n : Int)) (by omega) hk (by
  have e : ((10 : Int) ^ k) = ((10 ^ k : Nat) : Int) := by simp
  rw [e]
  omega)
theorem piled_le {b : Nat} : ∀ ts : List Str, (∀ t ∈ ts, t.length ≤ b) → piled ts ≤ ts.length * (b + 2)
  | [], _ => Nat.zero_le _
  | t :: ts, h => by
    have z := piled_le ts fun x hx => h x (List.mem_cons_of_mem _ hx)
    have y := h t List.mem_cons_self
    have e : (ts.length + 1) * (b + 2) = ts.length * (b + 2) + (b + 2) := Nat.succ_mul _ _
    rw [piled_cons, List.length_cons, e]
    omega
theorem tup_len (ts : List Str) : (tupleText ts).length ≤ piled ts + 2 := PySem.fmt_text ts
theorem list_len : ∀ ts : List Str, (listText ts).length ≤ piled ts + 2
  | [] => by decide
  | t :: r => by
    have e : (listText (t :: r)).length = (textFrom 1 ((("[" : Str) ++ ("" : String)) ++ t) r).length + 1 := by
      show ((textFrom 1 ((("[" : Str) ++ ("" : String)) ++ t) r) ++ ("]" : Str)).length = _
      rw [strLen_append]
      rfl
    have z : ((("[" : Str) ++ ("" : String)) ++ t).length = 1 + t.length := by
      rw [strLen_append]
      rfl
    rw [e, textFrom_length_pos r 1 _ (by decide), z, piled_cons]
    omega
theorem shown_ints : ∀ l : List Int, PyData.shownAll (l.map PyData.int) = l.map fun i => ((toString i : String) : Str)
  | [] => rfl
  | i :: l => by rw [List.map_cons, PyData.shownAll, shown_ints l]; rfl
/-- a row of numbers below 10 ^ k, as a tuple -/
theorem shown_nats (A : List Nat) : (D.tup (A.map natD)).py.shown = tupleText ((A.map toI).map fun i => ((toString i : String) : Str)) := by
  rw [natD_ints]
  show (PyData.tuple (pyL ((A.map toI).map D.int))).shown = _
  rw [pyL_ints]
  show tupleText (PyData.shownAll ((A.map toI).map PyData.int)) = _
  rw [shown_ints]
theorem shown_len {A : List Nat} {k : Nat} (hk : 0 < k) (h : ∀ x ∈ A, x < 10 ^ k) : (D.tup (A.map natD)).py.shown.length ≤ A.length * (k + 2) + 2 := by
  rw [shown_nats]
  refine Nat.le_trans (tup_len _) ?_
  have z := piled_le (b := k) ((A.map toI).map fun i => ((toString i : String) : Str)) (fun t ht => by
    obtain ⟨i, hi, rfl⟩ := List.mem_map.mp ht
    obtain ⟨x, hx, rfl⟩ := List.mem_map.mp hi
    exact len_nat hk (h x hx))
  rw [List.length_map, List.length_map] at z
  omega
theorem showable_nats : ∀ A : List Nat, (∀ x ∈ A, x < 2 ^ 200) → PyData.showableAll ((A.map toI).map PyData.int) = true
  | [], _ => rfl
  | x :: A, h => by
    have z := showable_nats A fun y hy => h y (List.mem_cons_of_mem _ hy)
    have y := log_lt (h x List.mem_cons_self) (by decide : 200 < 1920)
    rw [List.map_cons, List.map_cons, PyData.showableAll, z]
    show (decide ((x : Int).natAbs.log2 < 1920) && true) = true
    rw [decide_eq_true y]
    rfl
theorem noDict_nats : ∀ l : List Int, PyData.hasDictAll (l.map PyData.int) = false
  | [] => rfl
  | i :: l => by rw [List.map_cons, PyData.hasDictAll, noDict_nats l]; rfl
/-- such a tuple's text can be told -/
theorem textOk_nats {A : List Nat} {k : Nat} (hk : 0 < k) (h : ∀ x ∈ A, x < 10 ^ k) (h2 : ∀ x ∈ A, x < 2 ^ 200) (hl : A.length * (k + 2) + 2 ≤ 100000) : (D.tup (A.map natD)).textOk = true := by
  have z := shown_len hk h
  have y := showable_nats A h2
  have w := depth_ints (A.map toI)
  unfold D.textOk
  rw [decide_eq_true (Nat.le_trans z hl), natD_ints]
  have p : (D.tup ((A.map toI).map D.int)).plain = true := plainL_ints _
  have py : (D.tup ((A.map toI).map D.int)).py = PyData.tuple ((A.map toI).map PyData.int) := by
    show PyData.tuple (pyL ((A.map toI).map D.int)) = _
    rw [pyL_ints]
  rw [p, py]
  have s1 : (PyData.tuple ((A.map toI).map PyData.int)).showable = true := y
  have s2 : (PyData.tuple ((A.map toI).map PyData.int)).hasDict = false := noDict_nats _
  have s3 : (PyData.tuple ((A.map toI).map PyData.int)).depth ≤ 64 := by
    show PyData.depthAll _ + 1 ≤ 64
    omega
  rw [s1, s2, decide_eq_true s3]
  rfl
theorem numT_len {n k : Nat} (hk : 0 < k) (h : n < 10 ^ k) : (numT n).length ≤ k + 2 := by
  unfold numT
  rw [strLen_append, strLen_append]
  have z := len_nat hk h
  have e : Str.empty.length = 0 := rfl
  have e2 : (", " : Str).length = 2 := rfl
  rw [e, e2]
  omega
theorem sum_le {b : Nat} : ∀ l : List Str, (∀ t ∈ l, t.length ≤ b) → (l.map (·.length)).sum ≤ l.length * b
  | [], _ => Nat.zero_le _
  | t :: l, h => by
    have z := sum_le l fun x hx => h x (List.mem_cons_of_mem _ hx)
    have y := h t List.mem_cons_self
    have e : (l.length + 1) * b = l.length * b + b := Nat.succ_mul _ _
    rw [List.map_cons, List.sum_cons, List.length_cons, e]
    omega
theorem empty_len : ("" : Str).length = 0 := rfl
theorem nums_len {ns : List Nat} (h : ∀ x ∈ ns, x < 10 ^ 23) : ((ns.map numT).map (·.length)).sum ≤ ns.length * 25 := by
  have z := sum_le (b := 25) (ns.map numT) fun t ht => by
    obtain ⟨x, hx, rfl⟩ := List.mem_map.mp ht
    exact numT_len (k := 23) (by decide) (h x hx)
  rw [List.length_map] at z
  exact z
theorem join_len {ns : List Nat} (h : ∀ x ∈ ns, x < 10 ^ 23) : (Txt.join "" (ns.map numT)).length ≤ ns.length * 25 := by
  rw [TL.join_eq]
  have z := StrLaws.join_length_le "" (ns.map numT)
  rw [empty_len, Nat.mul_zero, Nat.add_zero] at z
  exact Nat.le_trans z (nums_len h)
/-- the sets of the law are told by texts that can be told -/
theorem fit_of {ns A : List Nat} {a : Nat} (h4 : ns.length ≤ 4) (hn : ∀ x ∈ ns, x < 10 ^ 23) (ha : a < 100) (hA : ∀ x ∈ A, x < 100) (hl : A.length ≤ 100) : TextFit ns a A := by
  have big : (10 : Nat) ^ 23 < 2 ^ 200 := by decide
  have tA := textOk_nats (A := A) (k := 2) (by decide) (by simpa using hA) (fun x hx => Nat.lt_trans (hA x hx) (by decide)) (by omega)
  have sA := shown_len (A := A) (k := 2) (by decide) (by simpa using hA)
  have jl := join_len hn
  have sl := nums_len hn
  have la := len_nat (n := a) (k := 2) (by decide) (by simpa using ha)
  refine ⟨by omega, fun x hx => Nat.lt_trans (hn x hx) big, fun x hx => ?_, by omega, by omega, tA, ?_, ?_⟩
  · have := len_nat (n := x) (k := 23) (by decide) (hn x hx)
    show (toString (x : Int) : Str).length + (2 + 0) ≤ 100000
    omega
  · show 6 + ((Txt.join "" (ns.map numT)).length + (7 + ((toString (a : Int) : Str).length + (8 + ((D.tup (A.map natD)).py.shown.length + (1 + 0)))))) ≤ 100000
    omega
  · rw [empty_len, Nat.mul_zero]
    omega
end K2
set_option Elab.async false
set_option linter.all false
set_option maxRecDepth 100000
set_option maxHeartbeats 4000000
namespace K2
open PySem L2 Vd
open PySem.Spec PyProof.Rows
/-! the walk over data -/
local macro_rules | `(tactic| walk_at "vis") => `(tactic| first | exact Or.inl rfl | exact Or.inr (Or.inl rfl) | exact Or.inr (Or.inr rfl))
local macro_rules | `(tactic| walk_at "none") => `(tactic| first | assumption)
local macro_rules | `(tactic| walk_at "num") => `(tactic| first | decide | omega)
local macro_rules | `(tactic| walk_at "vr") => `(tactic| first
  | exact bo_add | exact bo_sub | exact bo_mulR (by decide) | exact bo_mulL (by decide) | exact bo_mod (by walk_at "num") | exact bo_div (by walk_at "num") (by walk_at "num") | exact bo_pow (by decide) (by decide) (by decide) | exact bo_cat (by walk_at "num") | exact bo_mulR (by omega) | exact bo_mulL (by omega))
local macro_rules | `(tactic| walk_at "vq") => `(tactic| first
  | exact co_lt | exact co_le | exact co_gt | exact co_ge | exact co_eqI | exact co_neI | exact co_eqS | exact co_neS)
local macro_rules | `(tactic| walk_at "vx") => `(tactic| first
  | exact xo_own (by assumption) rfl | exact xo_lst rfl | exact xo_tup rfl)
local macro_rules | `(tactic| walk_at "vf") => `(tactic| first
  | exact fo_abs | exact fo_lenL | exact fo_lenT | exact fo_lenO (by assumption) | exact fo_divmod (by walk_at "num") (by walk_at "num") | exact fo_max rfl | exact fo_min rfl)
local macro_rules | `(tactic| walk_at "vn") => `(tactic| first
  | exact ve_var (i := 0) rfl rfl (by walk_at "vis") | exact ve_var (i := 1) rfl rfl (by walk_at "vis") | exact ve_var (i := 2) rfl rfl (by walk_at "vis") | exact ve_var (i := 3) rfl rfl (by walk_at "vis") | exact ve_var (i := 4) rfl rfl (by walk_at "vis") | exact ve_var (i := 5) rfl rfl (by walk_at "vis") | exact ve_var (i := 6) rfl rfl (by walk_at "vis") | exact ve_var (i := 7) rfl rfl (by walk_at "vis"))
local macro_rules | `(tactic| walk_at "vd") => `(tactic| first
  | exact ve_int | exact ve_bl | exact ve_non | exact ve_str
  | (refine' ve_bin ?ha ?hb ?hr; (case ha => walk_at "vd"); (case hb => walk_at "vd"); (case hr => walk_at "vr"))
  | (refine' ve_sub ?ha ?hb (fun _ _ => rfl) ?hr; (case ha => walk_at "vd"); (case hb => walk_at "vd"); (case hr => walk_at "vx"))
  | (refine' ve_ty (id := "int") ?ha rfl ?hm boot_int ?hr; (case ha => walk_at "va"); (case hm => walk_at "none"); (case hr => exact to_int))
  | (refine' ve_bi ?ha rfl ?hm ?hv ?hr; (case hv => first | exact boot_abs | exact boot_len | exact boot_divmod | exact boot_max | exact boot_min); (case ha => walk_at "va"); (case hm => walk_at "none"); (case hr => walk_at "vf"))
  | (refine' ve_tup ?ha ?hl; (case ha => walk_at "va"); (case hl => walk_at "num"))
  | (refine' ve_lst ?ha ?hl; (case ha => walk_at "va"); (case hl => walk_at "num"))
  | (refine' ve_comp ?ha ?hb ?hr; (case ha => walk_at "vd"); (case hb => walk_at "vd"); (case hr => walk_at "vq"))
  | walk_at "vn")
local macro_rules | `(tactic| walk_at "va") => `(tactic| first | exact va_nil | (refine' va_cons ?ha ?hb; (case ha => walk_at "vd"); (case hb => walk_at "va")))
local macro_rules | `(tactic| walk_at "vt") => `(tactic| first
  | (refine' vt_comp ?ha ?hb ?hr; (case ha => walk_at "vd"); (case hb => walk_at "vd"); (case hr => walk_at "vq"))
  | (refine' vt_val ?hv; case hv => walk_at "vd"))
/-! ### what the two sides have in common -/
theorem first_ex {ns M : List Nat} {n : Nat} (a : Per.Asc ns) (pat : Per.Pat n M) (hl : ns.length ≤ 4) (k : Nat) : ∃ L, IsFirst (inT ns n M) k L := by
  by_cases h : M = []
  · subst h
    exact ⟨_, first_none a n k⟩
  · exact ⟨_, first_some a pat h hl k⟩
theorem IsFirst.take {p : Nat → Bool} {m k : Nat} {L : List Nat} (h : IsFirst p m L) (hk : k ≤ m) : IsFirst p k (L.take k) := ⟨asc_take h.asc k, by rw [List.length_take]; omega, fun x hx => h.all x (List.mem_of_mem_take hx), fun y py no => by
  by_cases q : y ∈ L
  · exact take_rest h.asc q no
  · obtain ⟨h1, h2⟩ := h.rest y py q
    exact ⟨by rw [List.length_take]; omega, fun x hx => h2 x (List.mem_of_mem_take hx)⟩⟩
theorem first_head {ns A : List Nat} {a k : Nat} {L : List Nat} {o : Option Nat} (h : IsFirst (inT ns a A) (k + 1) L) (hO : NextT ns a A 0 o) : L.head? = o := by
  have z : NextT ns a A 0 L.head? := by
    cases L with
    | nil =>
      intro y _
      cases q : inT ns a A y with
      | false => rfl
      | true => exact absurd (h.rest y q List.not_mem_nil).1 (fun e => by cases e)
    | cons x r =>
      refine ⟨Nat.zero_le _, h.all x List.mem_cons_self, fun y _ py => ?_⟩
      by_cases q : y ∈ x :: r
      · rcases List.mem_cons.mp q with e | e
        · omega
        · exact Nat.le_of_lt (List.rel_of_pairwise_cons h.asc e)
      · exact Nat.le_of_lt ((h.rest y py q).2 x List.mem_cons_self)
  exact z.uniq hO
theorem inT_lst {ns M A : List Nat} {n a : Nat} (h : Per.Lst n M a A) : inT ns n M = inT ns a A := by
  funext x
  show (Per.fn n M x != decide (x ∈ ns)) = (Per.fn a A x != decide (x ∈ ns))
  rw [h.eq]
theorem bo_catS {X : Cx} {ow : Ow} {x y : Str} (h : x.length + y.length ≤ 100000) : BinOk X ow .Add (.str x) (.str y) (.str (x ++ y)) := ⟨_, op_add_str, .mk fun F H u v Q w r1 r2 k => by
  cases r1
  cases r2
  exact ⟨x, y, rfl, rfl, Evl.sz_of h, k.here w (.str _)⟩⟩
theorem empty_app (x : Str) : Str.empty ++ x = x := by
  show (⟨#[] ++ x.cps⟩ : Str) = x
  rw [Array.empty_append]
/-- both lists that the law compares -/
def dueD (ns : List Nat) (a : Nat) (A : List Nat) (o : Option Nat) : List D := [natD a, .tup (A.map natD), .tup (ns.map natD), optD o, .bl (!decide (A = [])), if A = [] then natD ns.length else .non, .bl (!decide (A = []) || !decide (ns = [])), .str (setT ns a A)]
theorem showable_opt {o : Option Nat} (h : ∀ x, o = some x → x < 2 ^ 200) : (optD o).py.showable = true ∧ (optD o).py.hasDict = false ∧ (optD o).py.depth = 0 ∧ (optD o).plain = true := by
  cases o with
  | none => exact ⟨rfl, rfl, rfl, rfl⟩
  | some x => exact ⟨decide_eq_true (log_lt (h x rfl) (by decide)), rfl, rfl, rfl⟩
theorem next_le {ns A : List Nat} {a x : Nat} (pat : Per.Pat a A) (hl : ns.length ≤ 4) (hn : ∀ y ∈ ns, y < 10 ^ 23) (ha : a ≤ 100) (hO : NextT ns a A 0 (some x)) : x < 10 ^ 23 := by
  by_cases h : A = []
  · subst h
    have z := hO.2.1
    rw [inT_nil] at z
    exact hn x (of_decide_eq_true z)
  · have cnt := many_near (ns := ns) (m := 5) pat h
    have pos : 0 < ((List.range (a * 5)).filter (inT ns a A)).length := by omega
    obtain ⟨y, hy⟩ := List.exists_mem_of_length_pos pos
    obtain ⟨h1, h2⟩ := List.mem_filter.mp hy
    have h1 := List.mem_range.mp h1
    have := hO.2.2 y (Nat.zero_le _) h2
    have : x < 1000 := by omega
    omega
/-- signs that repr can write -/
def Sm (y : Str) : Prop := ∀ c ∈ y.cps.toList, c < 16 ^ 8
theorem sm_of (x : String) : Sm (Str.ofString x) := fun c hc => by
  rw [Str.ofString_eq_toList] at hc
  obtain ⟨ch, _, rfl⟩ : ∃ ch ∈ x.toList, c = ch.toNat := by
    simp at hc
    obtain ⟨ch, h1, h2⟩ := hc
    exact ⟨ch, h1, h2.symm⟩
  have : ch.val.toNat < 2 ^ 32 := UInt32.toNat_lt ch.val
  exact this
theorem sm_app {x y : Str} (h : Sm x) (k : Sm y) : Sm (x ++ y) := fun c hc => by
  have e : (x ++ y).cps.toList = x.cps.toList ++ y.cps.toList := Array.toList_append
  rw [e] at hc
  rcases List.mem_append.mp hc with z | z
  · exact h c z
  · exact k c z
theorem sm_empty : Sm Str.empty := fun c hc => by cases hc
theorem sm_join {sep : Str} (hs : Sm sep) : ∀ l : List Str, (∀ x ∈ l, Sm x) → Sm (Str.join sep l)
  | [], _ => sm_empty
  | [x], h => h x List.mem_cons_self
  | x :: y :: r, h => sm_app (sm_app (h x List.mem_cons_self) hs) (sm_join hs (y :: r) fun z hz => h z (List.mem_cons_of_mem _ hz))
theorem sm_set (ns : List Nat) (a : Nat) (A : List Nat) : Sm (setT ns a A) := by
  have j : Sm (Txt.join "" (ns.map numT)) := by
    rw [TL.join_eq]
    refine sm_join (sm_of _) _ fun x hx => ?_
    obtain ⟨n, _, rfl⟩ := List.mem_map.mp hx
    exact sm_app (sm_app sm_empty (sm_of _)) (sm_of _)
  have t : Sm (D.tup (A.map natD)).py.shown := by
    rw [shown_nats]
    unfold tupleText
    refine sm_app (sm_app (sm_of _) (sm_join (sm_of _) _ fun x hx => ?_)) (sm_of _)
    obtain ⟨i, _, rfl⟩ := List.mem_map.mp hx
    exact sm_of _
  exact sm_app (sm_app (sm_app (sm_app (sm_app (sm_app (sm_app sm_empty (sm_of _)) j) (sm_of _)) (sm_of _)) (sm_of _)) t) (sm_of _)
theorem cat_len : ∀ (acc : Str) (l : List Str), (catS acc l).length = acc.length + lenS l
  | _, [] => rfl
  | acc, y :: l => by
    show (catS (acc ++ y) l).length = acc.length + (y.length + lenS l)
    rw [cat_len, strLen_append]
    omega
theorem set_len {ns A : List Nat} {a : Nat} (h4 : ns.length ≤ 4) (hn : ∀ x ∈ ns, x < 10 ^ 23) (ha : a < 100) (hA : ∀ x ∈ A, x < 100) (hl : A.length ≤ 100) : (setT ns a A).length ≤ 1000 := by
  have sA := shown_len (A := A) (k := 2) (by decide) (by simpa using hA)
  have jl := join_len hn
  have la := len_nat (n := a) (k := 2) (by decide) (by simpa using ha)
  unfold setT
  rw [cat_len]
  show 0 + (6 + ((Txt.join "" (ns.map numT)).length + (7 + ((toString (a : Int) : Str).length + (8 + ((D.tup (A.map natD)).py.shown.length + (1 + 0))))))) ≤ 1000
  omega
theorem due_ok {ns A : List Nat} {a : Nat} {o : Option Nat} (h4 : ns.length ≤ 4) (hn : ∀ x ∈ ns, x < 10 ^ 23) (ha : a < 100) (hA : ∀ x ∈ A, x < 100) (hl : A.length ≤ 100) (ho : ∀ x, o = some x → x < 10 ^ 23) : (D.lst (dueD ns a A o)).textOk = true := by
  have big : (10 : Nat) ^ 23 < 2 ^ 200 := by decide
  have tA := showable_nats A fun x hx => Nat.lt_trans (hA x hx) (by decide)
  have tN := showable_nats ns fun x hx => Nat.lt_trans (hn x hx) big
  obtain ⟨o1, o2, o3, o4⟩ := showable_opt (o := o) fun x hx => Nat.lt_trans (ho x hx) big
  have a1 : decide ((a : Int).natAbs.log2 < 1920) = true := decide_eq_true (log_lt (k := 200) (Nat.lt_trans ha (by decide)) (by decide))
  have l1 : decide (((ns.length : Nat) : Int).natAbs.log2 < 1920) = true := decide_eq_true (log_lt (k := 200) (Nat.lt_of_le_of_lt h4 (by decide)) (by decide))
  have pA : (D.tup (A.map natD)).py = PyData.tuple ((A.map toI).map PyData.int) := by
    rw [natD_ints]
    show PyData.tuple (pyL ((A.map toI).map D.int)) = _
    rw [pyL_ints]
  have pN : (D.tup (ns.map natD)).py = PyData.tuple ((ns.map toI).map PyData.int) := by
    rw [natD_ints]
    show PyData.tuple (pyL ((ns.map toI).map D.int)) = _
    rw [pyL_ints]
  have plA : (D.tup (A.map natD)).plain = true := by rw [natD_ints]; exact plainL_ints _
  have plN : (D.tup (ns.map natD)).plain = true := by rw [natD_ints]; exact plainL_ints _
  -- the sixth
  have m1 : ((if A = [] then natD ns.length else .non) : D).py.showable = true ∧ ((if A = [] then natD ns.length else .non) : D).py.hasDict = false ∧ ((if A = [] then natD ns.length else .non) : D).py.depth = 0 ∧ ((if A = [] then natD ns.length else .non) : D).plain = true ∧ ((if A = [] then natD ns.length else .non) : D).py.shown.length ≤ 23 := by
    by_cases h : A = []
    · rw [if_pos h]
      exact ⟨l1, rfl, rfl, rfl, Nat.le_trans (len_nat (n := ns.length) (k := 1) (by decide) (by omega)) (by decide)⟩
    · rw [if_neg h]
      exact ⟨rfl, rfl, rfl, rfl, by decide⟩
  obtain ⟨m1, m2, m3, m4, m5⟩ := m1
  have oL : (optD o).py.shown.length ≤ 23 := by
    cases o with
    | none => decide
    | some x => exact len_nat (n := x) (k := 23) (by decide) (ho x rfl)
  have bL : ∀ b : Bool, (D.bl b).py.shown.length ≤ 5 := fun b => by cases b <;> decide
  have sA := shown_len (A := A) (k := 2) (by decide) (by simpa using hA)
  have sN := shown_len (A := ns) (k := 23) (by decide) hn
  have la := len_nat (n := a) (k := 2) (by decide) (by simpa using ha)
  have sT : (reprText (setT ns a A)).length ≤ 10002 := by
    have z := StrLaws.reprText_len (setT ns a A) (sm_set ns a A)
    have y := set_len h4 hn ha hA hl
    omega
  have dA := depth_ints (A.map toI)
  have dN := depth_ints (ns.map toI)
  have hpl : (D.lst (dueD ns a A o)).plain = true := by
    show (true && ((D.tup (A.map natD)).plain && ((D.tup (ns.map natD)).plain && ((optD o).plain && (true && (((if A = [] then natD ns.length else .non) : D).plain && (true && (true && true)))))))) = true
    rw [plA, plN, o4, m4]
    rfl
  have hsh : (D.lst (dueD ns a A o)).py.showable = true := by
    show (decide ((a : Int).natAbs.log2 < 1920) && ((D.tup (A.map natD)).py.showable && ((D.tup (ns.map natD)).py.showable && ((optD o).py.showable && (true && (((if A = [] then natD ns.length else .non) : D).py.showable && (true && (true && true)))))))) = true
    have z1 : (D.tup (A.map natD)).py.showable = true := by rw [pA]; exact tA
    have z2 : (D.tup (ns.map natD)).py.showable = true := by rw [pN]; exact tN
    rw [a1, z1, z2, o1, m1]
    rfl
  have hhd : (D.lst (dueD ns a A o)).py.hasDict = false := by
    show (false || ((D.tup (A.map natD)).py.hasDict || ((D.tup (ns.map natD)).py.hasDict || ((optD o).py.hasDict || (false || (((if A = [] then natD ns.length else .non) : D).py.hasDict || (false || (false || false)))))))) = false
    have z1 : (D.tup (A.map natD)).py.hasDict = false := by rw [pA]; exact noDict_nats _
    have z2 : (D.tup (ns.map natD)).py.hasDict = false := by rw [pN]; exact noDict_nats _
    rw [z1, z2, o2, m2]
    rfl
  have hdp : (D.lst (dueD ns a A o)).py.depth ≤ 64 := by
    have z1 : (D.tup (A.map natD)).py.depth ≤ 2 := by
      rw [pA]
      show PyData.depthAll _ + 1 ≤ 2
      omega
    have z2 : (D.tup (ns.map natD)).py.depth ≤ 2 := by
      rw [pN]
      show PyData.depthAll _ + 1 ≤ 2
      omega
    simp only [dueD, D.py, pyL, PyData.depth, PyData.depthAll] at z1 z2 o3 m3 ⊢
    omega
  have hln : (D.lst (dueD ns a A o)).py.shown.length ≤ 100000 := by
    have e : (D.lst (dueD ns a A o)).py.shown = listText [((toString (a : Int) : String) : Str), (D.tup (A.map natD)).py.shown, (D.tup (ns.map natD)).py.shown, (optD o).py.shown, (D.bl (!decide (A = []))).py.shown, ((if A = [] then natD ns.length else .non) : D).py.shown, (D.bl (!decide (A = []) || !decide (ns = []))).py.shown, reprText (setT ns a A)] := rfl
    rw [e]
    refine Nat.le_trans (list_len _) ?_
    simp only [piled_cons, piled_nil]
    have b1 := bL (!decide (A = []))
    have b2 := bL (!decide (A = []) || !decide (ns = []))
    omega
  unfold D.textOk
  rw [hpl, hsh, hhd, decide_eq_true hdp, decide_eq_true hln]
  rfl
end K2
set_option Elab.async false
set_option linter.all false
set_option maxRecDepth 100000
set_option maxHeartbeats 4000000
namespace K2
open PySem L2 Vd
open PySem.Spec PyProof.Rows
/-! the walk over data -/
local macro_rules | `(tactic| walk_at "vis") => `(tactic| first | exact Or.inl rfl | exact Or.inr (Or.inl rfl) | exact Or.inr (Or.inr rfl))
local macro_rules | `(tactic| walk_at "none") => `(tactic| first | assumption)
local macro_rules | `(tactic| walk_at "num") => `(tactic| first | decide | omega)
local macro_rules | `(tactic| walk_at "vr") => `(tactic| first
  | exact bo_add | exact bo_sub | exact bo_mulR (by decide) | exact bo_mulL (by decide) | exact bo_mod (by walk_at "num") | exact bo_div (by walk_at "num") (by walk_at "num") | exact bo_pow (by decide) (by decide) (by decide) | exact bo_cat (by walk_at "num") | exact bo_mulR (by omega) | exact bo_mulL (by omega))
local macro_rules | `(tactic| walk_at "vq") => `(tactic| first
  | exact co_lt | exact co_le | exact co_gt | exact co_ge | exact co_eqI | exact co_neI | exact co_eqS | exact co_neS)
local macro_rules | `(tactic| walk_at "vx") => `(tactic| first
  | exact xo_own (by assumption) rfl | exact xo_lst rfl | exact xo_tup rfl)
local macro_rules | `(tactic| walk_at "vf") => `(tactic| first
  | exact fo_abs | exact fo_lenL | exact fo_lenT | exact fo_lenO (by assumption) | exact fo_divmod (by walk_at "num") (by walk_at "num") | exact fo_max rfl | exact fo_min rfl)
local macro_rules | `(tactic| walk_at "vn") => `(tactic| first
  | exact ve_var (i := 0) rfl rfl (by walk_at "vis") | exact ve_var (i := 1) rfl rfl (by walk_at "vis") | exact ve_var (i := 2) rfl rfl (by walk_at "vis") | exact ve_var (i := 3) rfl rfl (by walk_at "vis") | exact ve_var (i := 4) rfl rfl (by walk_at "vis") | exact ve_var (i := 5) rfl rfl (by walk_at "vis") | exact ve_var (i := 6) rfl rfl (by walk_at "vis") | exact ve_var (i := 7) rfl rfl (by walk_at "vis"))
local macro_rules | `(tactic| walk_at "vd") => `(tactic| first
  | exact ve_int | exact ve_bl | exact ve_non | exact ve_str
  | (refine' ve_bin ?ha ?hb ?hr; (case ha => walk_at "vd"); (case hb => walk_at "vd"); (case hr => walk_at "vr"))
  | (refine' ve_sub ?ha ?hb (fun _ _ => rfl) ?hr; (case ha => walk_at "vd"); (case hb => walk_at "vd"); (case hr => walk_at "vx"))
  | (refine' ve_ty (id := "int") ?ha rfl ?hm boot_int ?hr; (case ha => walk_at "va"); (case hm => walk_at "none"); (case hr => exact to_int))
  | (refine' ve_bi ?ha rfl ?hm ?hv ?hr; (case hv => first | exact boot_abs | exact boot_len | exact boot_divmod | exact boot_max | exact boot_min); (case ha => walk_at "va"); (case hm => walk_at "none"); (case hr => walk_at "vf"))
  | (refine' ve_tup ?ha ?hl; (case ha => walk_at "va"); (case hl => walk_at "num"))
  | (refine' ve_lst ?ha ?hl; (case ha => walk_at "va"); (case hl => walk_at "num"))
  | (refine' ve_comp ?ha ?hb ?hr; (case ha => walk_at "vd"); (case hb => walk_at "vd"); (case hr => walk_at "vq"))
  | walk_at "vn")
local macro_rules | `(tactic| walk_at "va") => `(tactic| first | exact va_nil | (refine' va_cons ?ha ?hb; (case ha => walk_at "vd"); (case hb => walk_at "va")))
local macro_rules | `(tactic| walk_at "vt") => `(tactic| first
  | (refine' vt_comp ?ha ?hb ?hr; (case ha => walk_at "vd"); (case hb => walk_at "vd"); (case hr => walk_at "vq"))
  | (refine' vt_val ?hv; case hv => walk_at "vd"))
/-! ### two told sets with the same elements are told alike -/
theorem dec_filter {p : Nat → Bool} {l : List Nat} {x : Nat} : decide (x ∈ l.filter p) = (decide (x ∈ l) && p x) := by
  rw [Bool.eq_iff_iff]
  simp [List.mem_filter]
theorem dec_range {n x : Nat} : decide (x ∈ List.range n) = decide (x < n) := decide_eq_decide.mpr List.mem_range
theorem fn_shift {a x : Nat} {A : List Nat} (k : Nat) : Per.fn a A (x + k * a) = Per.fn a A x := by
  unfold Per.fn
  rw [Nat.add_mul_mod_self_right]
theorem max_of : ∀ l : List Nat, ∃ N, ∀ x ∈ l, x < N
  | [] => ⟨0, fun x hx => by cases hx⟩
  | y :: r => by
    obtain ⟨N, h⟩ := max_of r
    refine ⟨N + y + 1, fun x hx => ?_⟩
    rcases List.mem_cons.mp hx with e | e
    · omega
    · have := h x e
      omega
theorem canon {ns ms A B : List Nat} {a b : Nat} (an : Per.Asc ns) (am : Per.Asc ms) (la : Per.Lst a A a A) (lb : Per.Lst b B b B) (h : ∀ x, inT ns a A x = inT ms b B x) : ns = ms ∧ a = b ∧ A = B := by
  obtain ⟨N1, h1⟩ := max_of ns
  obtain ⟨N2, h2⟩ := max_of ms
  have pa := la.pat.pos
  have pb := lb.pat.pos
  have ef : Per.fn a A = Per.fn b B := by
    funext x
    have big : N1 + N2 ≤ (N1 + N2) * b * a := by
      have y1 := Nat.le_mul_of_pos_right (N1 + N2) pb
      have y2 := Nat.le_mul_of_pos_right ((N1 + N2) * b) pa
      omega
    have z := h (x + (N1 + N2) * b * a)
    have n1 : ¬ (x + (N1 + N2) * b * a) ∈ ns := fun q => by
      have := h1 _ q
      omega
    have n2 : ¬ (x + (N1 + N2) * b * a) ∈ ms := fun q => by
      have := h2 _ q
      omega
    unfold inT at z
    rw [decide_eq_false n1, decide_eq_false n2, fn_shift, Nat.mul_right_comm, fn_shift] at z
    simpa using z
  have lb2 : Per.Lst a A b B := ⟨lb.pat, ef.symm, fun m hm hP => lb.min m hm (by rw [← ef]; exact hP)⟩
  obtain ⟨e1, e2⟩ := la.uniq lb2
  refine ⟨Per.asc_ext an am fun x => ?_, e1, e2⟩
  have z := h x
  unfold inT at z
  rw [ef] at z
  constructor
  · intro hx
    rw [decide_eq_true hx] at z
    by_cases q : x ∈ ms
    · exact q
    · rw [decide_eq_false q] at z
      cases y : Per.fn b B x <;> rw [y] at z <;> cases z
  · intro hx
    rw [decide_eq_true hx] at z
    by_cases q : x ∈ ns
    · exact q
    · rw [decide_eq_false q] at z
      cases y : Per.fn b B x <;> rw [y] at z <;> cases z
theorem Lst.self {n a : Nat} {M A : List Nat} (l : Per.Lst n M a A) : Per.Lst a A a A := ⟨l.pat, rfl, fun m hm hP => l.min m hm (by rw [← l.eq]; exact hP)⟩
/-- what the joined set holds -/
theorem sem_join {ns ms ks A B M : List Nat} {a b c : Nat} (op : Bool → Bool → Bool) (hb : Both ns ms ks) (hf : ∀ x, Per.fn c M x = op (Per.fn a A x) (Per.fn b B x)) (x : Nat) :
    inT (exL ks (ks.filter fun x => op (inT ns a A x) (inT ms b B x)) c M) c M x = op (inT ns a A x) (inT ms b B x) := by
  by_cases q : x ∈ ks
  · have e : decide (x ∈ exL ks (ks.filter fun x => op (inT ns a A x) (inT ms b B x)) c M) = (op (inT ns a A x) (inT ms b B x) != Per.fn c M x) := by
      have hfn : Per.fn c M x = decide (x % c ∈ M) := rfl
      have hm : decide (x ∈ ks.filter fun x => op (inT ns a A x) (inT ms b B x)) = op (inT ns a A x) (inT ms b B x) := by
        rw [dec_filter, decide_eq_true q, Bool.true_and]
      unfold exL
      rw [dec_filter, hm, ← hfn, decide_eq_true q, Bool.true_and]
    have e2 : inT (exL ks (ks.filter fun x => op (inT ns a A x) (inT ms b B x)) c M) c M x = (Per.fn c M x != decide (x ∈ exL ks (ks.filter fun x => op (inT ns a A x) (inT ms b B x)) c M)) := rfl
    rw [e2, e]
    cases op (inT ns a A x) (inT ms b B x) <;> cases Per.fn c M x <;> rfl
  · have n0 : ¬ x ∈ exL ks (ks.filter fun x => op (inT ns a A x) (inT ms b B x)) c M := fun z => q (List.mem_filter.mp z).1
    have n1 : ¬ x ∈ ns := fun z => q ((hb.2 x).mpr (.inl z))
    have n2 : ¬ x ∈ ms := fun z => q ((hb.2 x).mpr (.inr z))
    have e0 : inT (exL ks (ks.filter fun x => op (inT ns a A x) (inT ms b B x)) c M) c M x = Per.fn c M x := by
      show (Per.fn c M x != decide (x ∈ exL ks (ks.filter fun x => op (inT ns a A x) (inT ms b B x)) c M)) = _
      rw [decide_eq_false n0]
      cases Per.fn c M x <;> rfl
    have e1 : inT ns a A x = Per.fn a A x := by
      unfold inT
      rw [decide_eq_false n1]
      cases Per.fn a A x <;> rfl
    have e2 : inT ms b B x = Per.fn b B x := by
      unfold inT
      rw [decide_eq_false n2]
      cases Per.fn b B x <;> rfl
    rw [e0, e1, e2, hf]
theorem mod_lcm {a b x : Nat} : x % Nat.lcm a b % a = x % a ∧ x % Nat.lcm a b % b = x % b := ⟨Nat.mod_mod_of_dvd x (Nat.dvd_lcm_left a b), Nat.mod_mod_of_dvd x (Nat.dvd_lcm_right a b)⟩
theorem fn_an {a b : Nat} {A B : List Nat} (pa : Per.Pat a A) (pb : Per.Pat b B) (x : Nat) : Per.fn (anP a A b B).1 (anP a A b B).2 x = (Per.fn a A x && Per.fn b B x) := by
  show decide (x % Nat.lcm a b ∈ (List.range (Nat.lcm a b)).filter fun x => decide (x % a ∈ A) && decide (x % b ∈ B)) = _
  have hl := Nat.mod_lt x (Nat.lcm_pos pa.pos pb.pos)
  obtain ⟨e1, e2⟩ := mod_lcm (a := a) (b := b) (x := x)
  rw [dec_filter, dec_range, e1, e2, decide_eq_true hl, Bool.true_and]
  rfl
theorem fn_lo {a b : Nat} {A B : List Nat} (pa : Per.Pat a A) (pb : Per.Pat b B) (x : Nat) : Per.fn (loP a A b B).1 (loP a A b B).2 x = (Per.fn a A x && !Per.fn b B x) := by
  show decide (x % Nat.lcm a b ∈ loL a A b B) = _
  have hl := Nat.mod_lt x (Nat.lcm_pos pa.pos pb.pos)
  obtain ⟨e1, e2⟩ := mod_lcm (a := a) (b := b) (x := x)
  have es : decide (x % Nat.lcm a b ∈ strL a A (Nat.lcm a b / a)) = decide (x % a ∈ A) := by
    rw [decide_eq_decide, mem_strL pa.pos pa.lt, lcm_div pa.pos, e1]
    exact ⟨fun h => h.2, fun h => ⟨hl, h⟩⟩
  unfold loL
  rw [dec_filter, es, e2]
  rfl
theorem full {n : Nat} {A : List Nat} (p : Per.Pat n A) (h : A.length = n) (x : Nat) : Per.fn n A x = true := by
  have e : A = List.range n := by
    refine Per.asc_ext p.asc (asc_range n) fun y => ⟨fun hy => List.mem_range.mpr (p.lt y hy), fun hy => ?_⟩
    by_cases q : y ∈ A
    · exact q
    · exfalso
      have z := nodup_len (y :: A) (List.range n) (List.nodup_cons.mpr ⟨q, asc_nodup p.asc⟩) fun w hw => by
        rcases List.mem_cons.mp hw with e | e
        · rw [e]; exact hy
        · exact List.mem_range.mpr (p.lt w e)
      rw [List.length_range, List.length_cons] at z
      omega
  subst e
  unfold Per.fn
  exact decide_eq_true (List.mem_range.mpr (Nat.mod_lt _ p.pos))
theorem fn_or {a b : Nat} {A B : List Nat} (pa : Per.Pat a A) (pb : Per.Pat b B) (x : Nat) : Per.fn (orP a A b B).1 (orP a A b B).2 x = (Per.fn a A x || Per.fn b B x) := by
  unfold orP
  split
  · rename_i h
    rw [full pa h]
    rfl
  · split
    · rename_i h
      rw [full pb h, Bool.or_true]
    · show decide (x % Nat.lcm a b ∈ (List.range (Nat.lcm a b)).filter fun x => decide (x % a ∈ A) || decide (x % b ∈ B)) = _
      have hl := Nat.mod_lt x (Nat.lcm_pos pa.pos pb.pos)
      obtain ⟨e1, e2⟩ := mod_lcm (a := a) (b := b) (x := x)
      rw [dec_filter, dec_range, e1, e2, decide_eq_true hl, Bool.true_and]
      rfl
end K2
set_option Elab.async false
set_option linter.all false
set_option maxRecDepth 100000
set_option maxHeartbeats 4000000
namespace K2
open PySem L2 Vd
open PySem.Spec PyProof.Rows
/-! the walk over data -/
local macro_rules | `(tactic| walk_at "vis") => `(tactic| first | exact Or.inl rfl | exact Or.inr (Or.inl rfl) | exact Or.inr (Or.inr rfl))
local macro_rules | `(tactic| walk_at "none") => `(tactic| first | assumption)
local macro_rules | `(tactic| walk_at "num") => `(tactic| first | decide | omega)
local macro_rules | `(tactic| walk_at "vr") => `(tactic| first
  | exact bo_add | exact bo_sub | exact bo_mulR (by decide) | exact bo_mulL (by decide) | exact bo_mod (by walk_at "num") | exact bo_div (by walk_at "num") (by walk_at "num") | exact bo_pow (by decide) (by decide) (by decide) | exact bo_cat (by walk_at "num") | exact bo_mulR (by omega) | exact bo_mulL (by omega))
local macro_rules | `(tactic| walk_at "vq") => `(tactic| first
  | exact co_lt | exact co_le | exact co_gt | exact co_ge | exact co_eqI | exact co_neI | exact co_eqS | exact co_neS)
local macro_rules | `(tactic| walk_at "vx") => `(tactic| first
  | exact xo_own (by assumption) rfl | exact xo_lst rfl | exact xo_tup rfl)
local macro_rules | `(tactic| walk_at "vf") => `(tactic| first
  | exact fo_abs | exact fo_lenL | exact fo_lenT | exact fo_lenO (by assumption) | exact fo_divmod (by walk_at "num") (by walk_at "num") | exact fo_max rfl | exact fo_min rfl)
local macro_rules | `(tactic| walk_at "vn") => `(tactic| first
  | exact ve_var (i := 0) rfl rfl (by walk_at "vis") | exact ve_var (i := 1) rfl rfl (by walk_at "vis") | exact ve_var (i := 2) rfl rfl (by walk_at "vis") | exact ve_var (i := 3) rfl rfl (by walk_at "vis") | exact ve_var (i := 4) rfl rfl (by walk_at "vis") | exact ve_var (i := 5) rfl rfl (by walk_at "vis") | exact ve_var (i := 6) rfl rfl (by walk_at "vis") | exact ve_var (i := 7) rfl rfl (by walk_at "vis"))
local macro_rules | `(tactic| walk_at "vd") => `(tactic| first
  | exact ve_int | exact ve_bl | exact ve_non | exact ve_str
  | (refine' ve_bin ?ha ?hb ?hr; (case ha => walk_at "vd"); (case hb => walk_at "vd"); (case hr => walk_at "vr"))
  | (refine' ve_sub ?ha ?hb (fun _ _ => rfl) ?hr; (case ha => walk_at "vd"); (case hb => walk_at "vd"); (case hr => walk_at "vx"))
  | (refine' ve_ty (id := "int") ?ha rfl ?hm boot_int ?hr; (case ha => walk_at "va"); (case hm => walk_at "none"); (case hr => exact to_int))
  | (refine' ve_bi ?ha rfl ?hm ?hv ?hr; (case hv => first | exact boot_abs | exact boot_len | exact boot_divmod | exact boot_max | exact boot_min); (case ha => walk_at "va"); (case hm => walk_at "none"); (case hr => walk_at "vf"))
  | (refine' ve_tup ?ha ?hl; (case ha => walk_at "va"); (case hl => walk_at "num"))
  | (refine' ve_lst ?ha ?hl; (case ha => walk_at "va"); (case hl => walk_at "num"))
  | (refine' ve_comp ?ha ?hb ?hr; (case ha => walk_at "vd"); (case hb => walk_at "vd"); (case hr => walk_at "vq"))
  | walk_at "vn")
local macro_rules | `(tactic| walk_at "va") => `(tactic| first | exact va_nil | (refine' va_cons ?ha ?hb; (case ha => walk_at "vd"); (case hb => walk_at "va")))
local macro_rules | `(tactic| walk_at "vt") => `(tactic| first
  | (refine' vt_comp ?ha ?hb ?hr; (case ha => walk_at "vd"); (case hb => walk_at "vd"); (case hr => walk_at "vq"))
  | (refine' vt_val ?hv; case hv => walk_at "vd"))
/-! ### two remainders at once -/
def crt (a b t m p : Nat) : Nat := m + a * (((((p : Int) - (m : Int)) / ((Nat.gcd a b : Nat) : Int)) * (t : Int)) % ((b / Nat.gcd a b : Nat) : Int)).toNat
theorem crt_ok {a b t m p : Nat} (ha : 0 < a) (hb : 0 < b) (ht : (a / Nat.gcd a b * t) % (b / Nat.gcd a b) = 1 % (b / Nat.gcd a b)) (hm : m < a) (hp : p < b) (hg : m % Nat.gcd a b = p % Nat.gcd a b) : crt a b t m p < Nat.lcm a b ∧ crt a b t m p % a = m ∧ crt a b t m p % b = p := by
  have hgp : 0 < Nat.gcd a b := Nat.gcd_pos_of_pos_left _ ha
  obtain ⟨a1, ea⟩ := Nat.gcd_dvd_left a b
  obtain ⟨s, es⟩ := Nat.gcd_dvd_right a b
  have hlcm : Nat.lcm a b = a * s := by
    have z := Nat.gcd_mul_lcm a b
    have : Nat.gcd a b * Nat.lcm a b = Nat.gcd a b * (a * s) := by
      rw [z, Nat.mul_left_comm, ← es]
    exact Nat.eq_of_mul_eq_mul_left hgp this
  unfold crt
  generalize Nat.gcd a b = g at *
  have d1 : a / g = a1 := by rw [ea]; exact Nat.mul_div_cancel_left _ hgp
  have d2 : b / g = s := by rw [es]; exact Nat.mul_div_cancel_left _ hgp
  rw [d1, d2] at ht
  rw [d2]
  have hs : 0 < s := by
    rcases Nat.eq_zero_or_pos s with e | e
    · rw [e, Nat.mul_zero] at es
      omega
    · exact e
  obtain ⟨q, eq⟩ : ∃ q : Int, (p : Int) - (m : Int) = (g : Int) * q := by
    have z : ((p : Int) - (m : Int)) % (g : Int) = 0 := by
      refine Int.emod_eq_emod_iff_emod_sub_eq_zero.mp ?_
      rw [← Int.natCast_emod, ← Int.natCast_emod, hg]
    exact Int.dvd_of_emod_eq_zero z
  have eqd : ((p : Int) - (m : Int)) / (g : Int) = q := by
    rw [eq]
    exact Int.mul_ediv_cancel_left _ (by omega)
  rw [eqd]
  have k0 := Int.emod_nonneg (q * (t : Int)) (show (s : Int) ≠ 0 by omega)
  have k1 := Int.emod_lt_of_pos (q * (t : Int)) (show (0 : Int) < (s : Int) by omega)
  obtain ⟨k, hk⟩ : ∃ k : Nat, (q * (t : Int)) % (s : Int) = (k : Int) := ⟨((q * (t : Int)) % (s : Int)).toNat, by omega⟩
  rw [hk] at k0 k1
  rw [hk, Int.toNat_natCast]
  have hks : k < s := by omega
  refine ⟨?_, ?_, ?_⟩
  · rw [hlcm]
    have : a * (k + 1) ≤ a * s := Nat.mul_le_mul_left _ hks
    rw [Nat.mul_add] at this
    omega
  · rw [Nat.add_mul_mod_self_left, Nat.mod_eq_of_lt hm]
  · -- a1 * k - q is a multiple of s
    obtain ⟨u, eu⟩ : ∃ u : Int, (a1 : Int) * (t : Int) = 1 + (s : Int) * u := by
      have z : ((a1 * t : Nat) : Int) % (s : Int) = ((1 : Nat) : Int) % (s : Int) := by
        rw [← Int.natCast_emod, ← Int.natCast_emod, ht]
      have z2 := Int.emod_eq_emod_iff_emod_sub_eq_zero.mp z
      obtain ⟨u, hu⟩ := Int.dvd_of_emod_eq_zero z2
      refine ⟨u, ?_⟩
      rw [← Int.natCast_mul]
      omega
    have ev : q * (t : Int) = (s : Int) * (q * (t : Int) / (s : Int)) + (k : Int) := by
      have := Int.mul_ediv_add_emod (q * (t : Int)) (s : Int)
      omega
    generalize q * (t : Int) / (s : Int) = v at ev
    have main : ((m + a * k : Nat) : Int) = (p : Int) + (b : Int) * (q * u - (a1 : Int) * v) := by
      have e1 : (a : Int) = (g : Int) * (a1 : Int) := by rw [ea]; exact Int.natCast_mul _ _
      have e2 : (b : Int) = (g : Int) * (s : Int) := by rw [es]; exact Int.natCast_mul _ _
      have e3 : (a1 : Int) * (k : Int) = q + (s : Int) * (q * u - (a1 : Int) * v) := by
        have h1 : (a1 : Int) * (q * (t : Int)) = q * ((a1 : Int) * (t : Int)) := Int.mul_left_comm _ _ _
        rw [eu, ev] at h1
        rw [Int.mul_add, Int.mul_add, Int.mul_one, Int.mul_left_comm q (s : Int) u, Int.mul_left_comm (a1 : Int) (s : Int) v] at h1
        rw [Int.mul_sub]
        omega
      rw [Int.natCast_add, Int.natCast_mul, e1, e2, Int.mul_assoc, e3, Int.mul_add, Int.mul_assoc]
      omega
    have z : ((m + a * k : Nat) : Int) % (b : Int) = (p : Int) % (b : Int) := by
      rw [main, Int.add_mul_emod_self_left]
    have z2 : (((m + a * k) % b : Nat) : Int) = ((p % b : Nat) : Int) := by
      rw [Int.natCast_emod, Int.natCast_emod]
      exact z
    have z3 : (m + a * k) % b = p % b := by omega
    rw [z3, Nat.mod_eq_of_lt hp]
theorem lcm_uniq {a b x y : Nat} (hx : x < Nat.lcm a b) (hy : y < Nat.lcm a b) (h1 : x % a = y % a) (h2 : x % b = y % b) : x = y := by
  have key : ∀ {x y : Nat}, x ≤ y → y < Nat.lcm a b → x % a = y % a → x % b = y % b → x = y := fun {x y} hle hy h1 h2 => by
    have d1 : a ∣ y - x := Nat.dvd_of_mod_eq_zero (Nat.sub_mod_eq_zero_of_mod_eq h1.symm)
    have d2 : b ∣ y - x := Nat.dvd_of_mod_eq_zero (Nat.sub_mod_eq_zero_of_mod_eq h2.symm)
    have d := Nat.lcm_dvd d1 d2
    rcases Nat.eq_zero_or_pos (y - x) with e | e
    · omega
    · have := Nat.le_of_dvd e d
      omega
  rcases Nat.le_total x y with h | h
  · exact key h hy h1 h2
  · exact (key h hx h1.symm h2.symm).symm
/-- all that come out -/
def fdL (a : Nat) (A : List Nat) (b : Nat) (B : List Nat) (t : Nat) : List Nat := A.flatMap fun m => (B.filter fun p => decide (p % Nat.gcd a b = m % Nat.gcd a b)).map fun p => crt a b t m p
theorem fd_perm {a b t : Nat} {A B : List Nat} (pa : Per.Pat a A) (pb : Per.Pat b B) (ht : (a / Nat.gcd a b * t) % (b / Nat.gcd a b) = 1 % (b / Nat.gcd a b)) : (andL a A b B).Perm (fdL a A b B t) := by
  have ok : ∀ m ∈ A, ∀ p ∈ B, p % Nat.gcd a b = m % Nat.gcd a b → crt a b t m p < Nat.lcm a b ∧ crt a b t m p % a = m ∧ crt a b t m p % b = p := fun m hm p hp h => crt_ok pa.pos pb.pos ht (pa.lt m hm) (pb.lt p hp) h.symm
  refine perm_of (asc_nodup (asc_filter (asc_range _) _)) ?_ fun x => ?_
  · refine List.pairwise_flatMap.mpr ⟨fun m hm => ?_, ?_⟩
    · refine List.pairwise_map.mpr ((List.Pairwise.and_mem.mp ((asc_nodup pb.asc).filter _)).imp fun {p q} h e => ?_)
      obtain ⟨hp, hq, ne⟩ := h
      have hp2 := List.mem_filter.mp hp
      have hq2 := List.mem_filter.mp hq
      have z1 := (ok m hm p hp2.1 (of_decide_eq_true hp2.2)).2.2
      have z2 := (ok m hm q hq2.1 (of_decide_eq_true hq2.2)).2.2
      exact ne (by rw [← z1, ← z2, e])
    · refine (List.Pairwise.and_mem.mp (asc_nodup pa.asc)).imp fun {m n} h x hx y hy e => ?_
      obtain ⟨hm, hn, ne⟩ := h
      obtain ⟨p, hp, rfl⟩ := List.mem_map.mp hx
      obtain ⟨q, hq, rfl⟩ := List.mem_map.mp hy
      have hp2 := List.mem_filter.mp hp
      have hq2 := List.mem_filter.mp hq
      have z1 := (ok m hm p hp2.1 (of_decide_eq_true hp2.2)).2.1
      have z2 := (ok n hn q hq2.1 (of_decide_eq_true hq2.2)).2.1
      exact ne (by rw [← z1, ← z2, e])
  · unfold andL fdL
    rw [List.mem_filter, List.mem_range, List.mem_flatMap]
    simp only [Bool.and_eq_true, decide_eq_true_eq]
    constructor
    · rintro ⟨hx, h1, h2⟩
      refine ⟨x % a, h1, List.mem_map.mpr ⟨x % b, List.mem_filter.mpr ⟨h2, decide_eq_true ?_⟩, ?_⟩⟩
      · rw [Nat.mod_mod_of_dvd _ (Nat.gcd_dvd_right a b), Nat.mod_mod_of_dvd _ (Nat.gcd_dvd_left a b)]
      · have e : x % b % Nat.gcd a b = x % a % Nat.gcd a b := by rw [Nat.mod_mod_of_dvd _ (Nat.gcd_dvd_right a b), Nat.mod_mod_of_dvd _ (Nat.gcd_dvd_left a b)]
        obtain ⟨z1, z2, z3⟩ := ok (x % a) h1 (x % b) h2 e
        exact lcm_uniq z1 hx z2 z3
    · rintro ⟨m, hm, hx⟩
      obtain ⟨p, hp, rfl⟩ := List.mem_map.mp hx
      have hp2 := List.mem_filter.mp hp
      obtain ⟨z1, z2, z3⟩ := ok m hm p hp2.1 (of_decide_eq_true hp2.2)
      exact ⟨z1, by rw [z2]; exact hm, by rw [z3]; exact hp2.1⟩
end K2
set_option Elab.async false
set_option linter.all false
set_option maxRecDepth 100000
set_option maxHeartbeats 4000000
/-! name = [.. for a, b in .. if ..]. -/
namespace Vd
open PySem L2
open PySem.Spec PyProof.Rows
section
variable {X : Cx} {B : Hp} {env : List (Option D)} {ow : Ow} {it elt a b : Expr} {ds : List D} {pos spos : Pos} {Dn : Ends} {rest : List Stmt} {ifs : List Expr}
def pairE (env : List (Option D)) (j j1 : Nat) (d : D) : List (Option D) := match d with
  | .tup [d1, d2] => (((env.set j1 none).set j none).set j (some d1)).set j1 (some d2)
  | _ => env
theorem wipe_pair {σ : L2.St} {j j1 : Nat} {v1 v2 : V} (h : j ≠ j1) : L2.wipe (((L2.wipe σ [j, j1]).set j (some v1)).set j1 (some v2)) [j, j1] = L2.wipe σ [j, j1] := by
  show (((((σ.set j1 none).set j none).set j (some v1)).set j1 (some v2)).set j1 none).set j none = (σ.set j1 none).set j none
  rw [List.set_set, List.set_set, List.set_comm _ _ h, List.set_set, List.set_set, List.set_comm _ _ (Ne.symm h), List.set_comm _ _ h]
theorem lcP_read {scope : Scope} {j j1 : Nat} {wi : TI} (kp : D → Bool) (f : D → D)
    (hw : ∀ (σ : L2.St) (F H : Hp) (R : It → Hp → Prop), Sl X.K F σ env → Wo X.K ow F H → (∀ J F1 H1, Ex F F1 → Wo X.K ow F1 H1 → Src X.K J F1 ds → R J H1) → wi σ H R) (hl : ds.length ≤ 100000) (hjj : j ≠ j1) (hp : ∀ d ∈ ds, ∃ d1 d2, d = D.tup [d1, d2])
    (ht : ∀ d ow', d ∈ ds → Sub ow ow' → ∀ (s : Shared) (H : Hp) (C : Addr) (cl : List (Str × Addr)) (fp : List Addr), Vts (X.blk s H scope (compEnvC scope cl C X.env) fp) ifs (pairE env j j1 d) ow' (kp d))
    (he : ∀ d ow', d ∈ ds → kp d = true → Sub ow ow' → ∀ (s : Shared) (H : Hp) (C : Addr) (cl : List (Str × Addr)) (fp : List Addr), Ve (X.blk s H scope (compEnvC scope cl C X.env) fp) elt (pairE env j j1 d) ow' (f d))
    (σ : L2.St) (F H : Hp) (Q : VK) (s : Sl X.K F σ env) (w : Wo X.K ow F H) (k0 : Post X.K ow F (.lst ((ds.filter kp).map f)) Q) : tLc wi (gTup X.K 2 (gCons (gName j) (gCons (gName j1) gNil))) (ltts X scope ifs) (lte X scope elt) [j, j1] σ H Q := by
  refine hw σ F H _ s w fun J F1 H1 e1 w1 src => ?_
  intro Dl hD
  refine ⟨fun i m H => m = ds.length - i ∧ i ≤ ds.length ∧ ∃ F2 xs, Ex F1 F2 ∧ Wo X.K ow F2 H ∧ F2 Dl = none ∧ ow Dl = none ∧ H Dl = some (.lst xs) ∧ Rps X.K F2 xs (((ds.take i).filter kp).map f), ⟨ds.length, by simp, Nat.zero_le _, F1, [], Evl.Ex.refl F1, w1.grow hD, w1.free hD, w1.ofree hD, upd_same, .nil⟩, ?_⟩
  rintro i m H2 ⟨rfl, hi, F2, xs, e2, w2, hF2, hoD, hH2, r2⟩
  obtain ⟨stop, go⟩ := src F2 H2 ow i e2 w2
  by_cases hlt : i < ds.length
  · have hdi : ds[i]? = some ds[i] := by simp [hlt]
    have htk : ds.take (i + 1) = ds.take i ++ [ds[i]] := by rw [List.take_add_one, hdi]; rfl
    obtain ⟨hgo, hy⟩ := go ds[i] hdi
    refine .inr ⟨hgo, fun H3 => ∃ F3 xs, Ex F1 F3 ∧ Wo X.K ow F3 H3 ∧ F3 Dl = none ∧ ow Dl = none ∧ H3 Dl = some (.lst xs) ∧ Rps X.K F3 xs (((ds.take (i + 1)).filter kp).map f), fun H3 q => ⟨ds.length - (i + 1), by omega, rfl, hlt, q⟩, fun x H3 hx => ?_⟩
    -- the new list's place is owned meanwhile
    have w2' : Wo X.K (ou ow Dl (.lst (((ds.take i).filter kp).map f))) F2 H2 := ⟨w2.ex, fun a o q => by
      by_cases z : a = Dl
      · subst z
        rw [ou_same] at q
        cases q
        exact ⟨hF2, xs, hH2, r2⟩
      · rw [ou_ne z] at q
        exact w2.own a o q⟩
    obtain ⟨stop', go'⟩ := src F2 H2 _ i e2 w2'
    obtain ⟨_, hy'⟩ := go' ds[i] hdi
    obtain ⟨F3, e3, w3', r3⟩ := hy' x H3 hx
    have sub : ∀ a o, ow a = some o → ou ow Dl (.lst (((ds.take i).filter kp).map f)) a = some o := fun a o q => by
      rw [ou_ne (fun z => by rw [z, hoD] at q; cases q)]
      exact q
    obtain ⟨d1, d2, hpd⟩ := hp ds[i] (List.getElem_mem hlt)
    have r3' := r3
    rw [hpd] at r3'
    cases r3' with
    | tup g3 s3 =>
    cases s3 with
    | cons q1 s4 =>
    cases s4 with
    | cons q2 s5 =>
    cases s5
    have sl := ((((s.mono (e1.trans (e2.trans e3))).unset j1).unset j).set q1 j).set q2 j1
    have hE : pairE env j j1 ds[i] = (((env.set j1 none).set j none).set j (some d1)).set j1 (some d2) := by rw [hpd]; rfl
    rw [← hE] at sl
    refine ⟨_, _, rfl, Evl.ex_t w3'.ex g3, rfl, _, _, rfl, _, _, rfl, rfl, ?_⟩
    refine ⟨wipe_pair hjj, fun s0 H0 C cl fp => ?_⟩
    have hmem : ds[i] ∈ ds := List.getElem_mem hlt
    obtain ⟨tt, ptt, qtt⟩ := ht ds[i] _ hmem sub s0 H0 C cl fp
    intro pins s' I
    refine ptt.run pins s' _ H3 _ I (qtt _ F3 H3 _ sl w3' fun F4 H4 e4 w4 => ?_)
    cases hk : kp ds[i] with
    | true =>
      rw [if_pos rfl]
      intro s1 H01 C1 cl1 fp1
      refine he ds[i] _ hmem hk sub s1 H01 C1 cl1 fp1 _ F4 H4 _ (sl.mono e4) w4 fun F5 H5 y e5 w5 r5 => ?_
      obtain ⟨n5, ys, h5, s5⟩ := w5.own Dl _ ou_same
      refine ⟨ys, h5, ?_, F5, ys ++ [y], e2.trans (e3.trans (e4.trans e5)), ?_, n5, hoD, upd_same, ?_⟩
      · have z := s5.length
        have y1 : (((ds.take i).filter kp).map f).length ≤ i := by
          rw [List.length_map]
          exact Nat.le_trans (List.length_filter_le _ _) (by rw [List.length_take]; omega)
        exact Evl.sz_lt (by omega)
      · exact (w5.setL ou_same (s5.append (.cons r5 .nil))).drop fun a o q => by
          rw [ou_ne (fun z => by rw [z, hoD] at q; cases q)]
          exact sub a o q
      · rw [htk, List.filter_append, List.map_append]
        have y2 : ([ds[i]].filter kp).map f = [f ds[i]] := by simp [hk]
        rw [y2]
        exact s5.append (.cons r5 .nil)
    | false =>
      rw [if_neg Bool.false_ne_true]
      obtain ⟨n5, ys, h5, s5⟩ := w4.own Dl _ ou_same
      refine ⟨F4, ys, e2.trans (e3.trans e4), w4.drop sub, n5, hoD, h5, ?_⟩
      rw [htk, List.filter_append, List.map_append]
      have y2 : ([ds[i]].filter kp).map f = [] := by simp [hk]
      rw [y2, List.append_nil]
      exact s5
  · have e : i = ds.length := by omega
    subst e
    refine .inl ⟨stop (Nat.le_refl _), ?_⟩
    rw [List.take_length] at r2
    exact k0 (upd F2 Dl (.lst xs)) H2 _ ((e1.trans e2).trans (Evl.Ex.new hF2)) (w2.freeze hF2 hH2 hoD) (.lst upd_same (r2.mono (Evl.Ex.new hF2)))
theorem rn_setLcP {scope : Scope} {j j1 i : Nat} {y z x : Str} {py pz px : Pos} {tk : Nat} {tp : Pos} (kp : D → Bool) (f : D → D) (hc : X.calm = true) (hN : X.N.Nodup) (hx : X.N[i]? = some x) (hxl : X.env.scope.names.lookup x = some .local) (hsw : swapsWith (.ListComp elt [⟨.Tuple [.Name y py, .Name z pz] tk tp, it, ifs, 0⟩] scope pos) (some (.Name x px)) spos.line X.env = pure true)
    (hi : Vi X (.Tuple [.Name y py, .Name z pz] tk tp) it env ow ds) (ok : BlkOk X.N X.env.scope scope [(y, j), (z, j1)]) (hl : ds.length ≤ 100000) (hjj : j ≠ j1) (hp : ∀ d ∈ ds, ∃ d1 d2, d = D.tup [d1, d2])
    (hg : ∀ (s : Shared) (H : Hp) (C : Addr) (cl : List (Str × Addr)) (fp : List Addr), PG (X.blk s H scope (compEnvC scope cl C X.env) fp) (.Tuple [.Name y py, .Name z pz] tk tp) (gTup X.K 2 (gCons (gName j) (gCons (gName j1) gNil))))
    (ht : ∀ d ow', d ∈ ds → Sub ow ow' → ∀ (s : Shared) (H : Hp) (C : Addr) (cl : List (Str × Addr)) (fp : List Addr), Vts (X.blk s H scope (compEnvC scope cl C X.env) fp) ifs (pairE env j j1 d) ow' (kp d))
    (he : ∀ d ow', d ∈ ds → kp d = true → Sub ow ow' → ∀ (s : Shared) (H : Hp) (C : Addr) (cl : List (Str × Addr)) (fp : List Addr), Ve (X.blk s H scope (compEnvC scope cl C X.env) fp) elt (pairE env j j1 d) ow' (f d))
    (k : ∀ B', Ex B B' → Rn X B' rest Dn (env.set i (some (.lst ((ds.filter kp).map f)))) ow)
    (hsf : ∀ x, foldedSetIterable it X.env x = pure x := by intro _; rfl) : Rn X B (.Assign [.Name x px] (.ListComp elt [⟨.Tuple [.Name y py, .Name z pz] tk tp, it, ifs, 0⟩] scope pos) spos :: rest) Dn env ow := rn_one (by
  obtain ⟨wi, pi, hw⟩ := hi
  refine ⟨_, ps_setLc (own := [(y, j), (z, j1)]) (g := gTup X.K 2 (gCons (gName j) (gCons (gName j1) gNil))) (tt := ltts X scope ifs) (te := lte X scope elt) hc hN hx hxl hsw pi ok hg (fun s0 H0 C cl fp => ⟨fun pins s σ H Q I h => h s0 H0 C cl fp pins s I⟩) (fun s0 H0 C cl fp => ⟨fun pins s σ H Q I h => h s0 H0 C cl fp pins s I⟩) hsf, fun σ F H eB s w => ?_⟩
  exact lcP_read kp f hw hl hjj hp ht he σ F H _ s w fun F1 H1 v e1 w1 r1 => k F1 (eB.trans e1) _ F1 H1 (Evl.Ex.refl F1) ((s.mono e1).set r1 i) w1)
/-- for a, b in zip(xs, ys) -/
def zipD : List D → List D → List D
  | x :: xs, y :: ys => .tup [x, y] :: zipD xs ys
  | _, _ => []
theorem zipD_get : ∀ {i : Nat} {l m : List D} {z : D}, (zipD l m)[i]? = some z → ∃ x y, l[i]? = some x ∧ m[i]? = some y ∧ z = .tup [x, y]
  | _, [], _, _, h => by simp [zipD] at h
  | _, _ :: _, [], _, h => by simp [zipD] at h
  | 0, x :: l, y :: m, z, h => by
    simp [zipD] at h
    exact ⟨x, y, rfl, rfl, h.symm⟩
  | i + 1, x :: l, y :: m, z, h => by
    simp [zipD] at h
    obtain ⟨a, b, h1, h2, h3⟩ := zipD_get h
    exact ⟨a, b, by simpa using h1, by simpa using h2, h3⟩
theorem zipD_len : ∀ {l m : List D}, (zipD l m).length = min l.length m.length
  | [], m => by simp [zipD]
  | _ :: _, [] => by simp [zipD]
  | x :: l, y :: m => by
    simp only [zipD, List.length_cons, zipD_len (l := l) (m := m)]
    omega
theorem src_zip {K : PySem.W.Frag} {F1 : Hp} {a b : Addr} {xs ys : List V} {l m : List D} (h : F1 a = some (.lst xs)) (h2 : F1 b = some (.lst ys)) (r : Rps K F1 xs l) (r2 : Rps K F1 ys m) : Src K (Itz K a b) F1 (zipD l m) := fun F H ow i e w => by
  have hq : SqL K H a xs := SqL.of (w.ex _ _ (e _ _ h))
  have hq2 : SqL K H b ys := SqL.of (w.ex _ _ (e _ _ h2))
  refine ⟨fun hl => ⟨xs, ys, hq, hq2, by rw [zipD_len] at hl; rw [r.length, r2.length]; omega⟩, fun d hd => ?_⟩
  obtain ⟨x, y, hx, hy, rfl⟩ := zipD_get hd
  obtain ⟨u, u1, u2⟩ := r.get hx
  obtain ⟨v, v1, v2⟩ := r2.get hy
  refine ⟨⟨xs, ys, u, v, hq, hq2, u1, v1⟩, fun z H' hz => ?_⟩
  obtain ⟨T, x2, y2, rfl, hT, rfl, g1, g2⟩ := hz
  have z1 := g1 xs hq
  rw [u1] at z1
  cases z1
  have z2 := g2 ys hq2
  rw [v1] at z2
  cases z2
  exact ⟨_, w.exnew hT, w.new hT, .tup (SqT.of upd_same) (.cons ((u2.mono e).mono (w.exnew hT)) (.cons ((v2.mono e).mono (w.exnew hT)) .nil))⟩
theorem vi_zip {p tpos : Pos} {elts : List Expr} {kk : Nat} {l m : List D} (hg : Gl X "zip") (hm : X.mg "zip" = none) (h : Ve X a env ow (.lst l)) (h2 : Ve X b env ow (.lst m)) (hs : starEach [a, b] X.env = (false, eval a X.env) :: starEach [b] X.env := by rfl) (hs2 : starEach [b] X.env = (false, eval b X.env) :: starEach [] X.env := by rfl) (hpl : (backTo pos (starEach [b] X.env)).any (·.1) = false := by rfl) : Vi X (.Tuple elts kk tpos) (.Call (.Name "zip" p) [a, b] [] pos) env ow (zipD l m) :=
  ⟨_, pi_zip hg hm pa_can hs hpl, fun σ F H R s w k => va_cons h (va_cons h2 va_nil hs2) hs σ F H _ s w fun F1 H1 vs e1 w1 r1 => by
    cases r1 with
    | cons r2 r3 =>
      cases r3 with
      | cons r4 r5 =>
        cases r5
        cases r2 with
        | lst h1 s1 =>
          cases r4 with
          | lst h2 s2 => exact ⟨_, _, _, _, rfl, SqL.of (w1.ex _ _ h1), SqL.of (w1.ex _ _ h2), k _ F1 H1 e1 w1 (src_zip h1 h2 s1 s2)⟩⟩
end
end Vd
set_option Elab.async false
set_option linter.all false
set_option maxRecDepth 100000
set_option maxHeartbeats 4000000
/-! {k: v for a, b in ..}; sorted pairs. -/
namespace Vd
open PySem L2
open PySem.Spec PyProof.Rows
section
variable {X : Cx} {env : List (Option D)} {ow : Ow} {e it kx vx o f0 : Expr} {ds : List D} {d : D} {pos p : Pos} {l : List (Key × D)} {i : Int}
/-- {k: v for name in it}: other keys at every turn -/
theorem ve_dcP {scope : Scope} {j j1 : Nat} {y z : Str} {py pz tp : Pos} {tk : Nat} (kf : D → Int) (f : D → D) (hc : X.calm = true) (hN : X.N.Nodup) (hi : Vi X (.Tuple [.Name y py, .Name z pz] tk tp) it env ow ds) (ok : BlkOk X.N X.env.scope scope [(y, j), (z, j1)]) (hl : ds.length ≤ 100000) (hjj : j ≠ j1) (hp : ∀ d ∈ ds, ∃ d1 d2, d = D.tup [d1, d2]) (hnd : (ds.map kf).Nodup)
    (hg : ∀ (s : Shared) (H : Hp) (C : Addr) (cl : List (Str × Addr)) (fp : List Addr), PG (X.blk s H scope (compEnvC scope cl C X.env) fp) (.Tuple [.Name y py, .Name z pz] tk tp) (gTup X.K 2 (gCons (gName j) (gCons (gName j1) gNil))))
    (hk : ∀ d ow', d ∈ ds → Sub ow ow' → ∀ (s : Shared) (H : Hp) (C : Addr) (cl : List (Str × Addr)) (fp : List Addr), Ve (X.blk s H scope (compEnvC scope cl C X.env) fp) kx (pairE env j j1 d) ow' (.int (kf d)))
    (he : ∀ d ow', d ∈ ds → Sub ow ow' → ∀ (s : Shared) (H : Hp) (C : Addr) (cl : List (Str × Addr)) (fp : List Addr), Ve (X.blk s H scope (compEnvC scope cl C X.env) fp) vx (pairE env j j1 d) ow' (f d))
    (hsf : ∀ x, foldedSetIterable it X.env x = pure x := by intro _; rfl) : Ve X (.DictComp kx vx [⟨.Tuple [.Name y py, .Name z pz] tk tp, it, [], 0⟩] scope pos) env ow (.dct (ds.map fun d => (.inl (kf d), f d))) := .mk fun σ F H Q s w k0 => by
  obtain ⟨wi, pi, hw⟩ := hi
  refine wpe (pe_dc (own := [(y, j), (z, j1)]) (g := gTup X.K 2 (gCons (gName j) (gCons (gName j1) gNil))) (tt := tYes) (tk := fun σ H Q => ∀ (s : Shared) (H0 : Hp) (C : Addr) (cl : List (Str × Addr)) (fp : List Addr), WpE (X.blk s H0 scope (compEnvC scope cl C X.env) fp) kx σ H Q)
    (tv := fun σ H Q => ∀ (s : Shared) (H0 : Hp) (C : Addr) (cl : List (Str × Addr)) (fp : List Addr), WpE (X.blk s H0 scope (compEnvC scope cl C X.env) fp) vx σ H Q) hc hN pi ok hg
    (fun s0 H0 C cl fp => pts_nil) (fun s0 H0 C cl fp => ⟨fun pins s σ H Q I h => h s0 H0 C cl fp pins s I⟩) (fun s0 H0 C cl fp => ⟨fun pins s σ H Q I h => h s0 H0 C cl fp pins s I⟩) hsf) ?_
  refine hw σ F H _ s w fun J F1 H1 e1 w1 src => ?_
  intro Dl hD
  have hoD : ow Dl = none := w1.ofree hD
  let fl : Nat → List (Key × D) := fun i => (ds.take i).map fun d => (.inl (kf d), f d)
  refine ⟨fun i m H => m = ds.length - i ∧ i ≤ ds.length ∧ ∃ F2 xs, Ex F1 F2 ∧ Wo X.K ow F2 H ∧ F2 Dl = none ∧ H Dl = some (.dK xs) ∧ Rpk X.K F2 xs (fl i), ⟨ds.length, by simp, Nat.zero_le _, F1, [], Evl.Ex.refl F1, w1.grow hD, w1.free hD, upd_same, .nil⟩, ?_⟩
  rintro i m H2 ⟨rfl, hi, F2, xs, e2, w2, hF2, hH2, r2⟩
  obtain ⟨stop, go⟩ := src F2 H2 ow i e2 w2
  by_cases hlt : i < ds.length
  · have hdi : ds[i]? = some ds[i] := by simp [hlt]
    have htk : fl (i + 1) = fl i ++ [(.inl (kf ds[i]), f ds[i])] := by
      show (ds.take (i + 1)).map _ = _
      rw [List.take_add_one, hdi]
      show (ds.take i ++ [ds[i]]).map _ = _
      rw [List.map_append]
      simp [fl]
    have hmem : ds[i] ∈ ds := List.getElem_mem hlt
    obtain ⟨hgo, hy⟩ := go ds[i] hdi
    refine .inr ⟨hgo, fun H3 => ∃ F3 xs, Ex F1 F3 ∧ Wo X.K ow F3 H3 ∧ F3 Dl = none ∧ H3 Dl = some (.dK xs) ∧ Rpk X.K F3 xs (fl (i + 1)), fun H3 q => ⟨ds.length - (i + 1), by omega, rfl, hlt, q⟩, fun x H3 hx => ?_⟩
    have w2' : Wo X.K (ou ow Dl (.dct (fl i))) F2 H2 := ⟨w2.ex, fun a o q => by
      by_cases z : a = Dl
      · subst z
        rw [ou_same] at q
        cases q
        exact ⟨hF2, _, hH2, r2⟩
      · rw [ou_ne z] at q
        exact w2.own a o q⟩
    have sub : ∀ a o, ow a = some o → ou ow Dl (.dct (fl i)) a = some o := fun a o q => by
      rw [ou_ne (fun z => by rw [z, hoD] at q; cases q)]
      exact q
    obtain ⟨stop', go'⟩ := src F2 H2 _ i e2 w2'
    obtain ⟨_, hy'⟩ := go' ds[i] hdi
    obtain ⟨F3, e3, w3, r3⟩ := hy' x H3 hx
    obtain ⟨d1, d2, hpd⟩ := hp ds[i] hmem
    have r3' := r3
    rw [hpd] at r3'
    cases r3' with
    | tup g3 s3 =>
    cases s3 with
    | cons q1 s4 =>
    cases s4 with
    | cons q2 s5 =>
    cases s5
    have sl := ((((s.mono (e1.trans (e2.trans e3))).unset j1).unset j).set q1 j).set q2 j1
    have hE : pairE env j j1 ds[i] = (((env.set j1 none).set j none).set j (some d1)).set j1 (some d2) := by rw [hpd]; rfl
    rw [← hE] at sl
    refine ⟨_, _, rfl, Evl.ex_t w3.ex g3, rfl, _, _, rfl, _, _, rfl, rfl, ?_⟩
    refine ⟨wipe_pair hjj, ?_⟩
    unfold tYes
    dsimp only
    rw [if_pos rfl]
    intro s0 H0 C cl fp
    refine hk ds[i] _ hmem sub s0 H0 C cl fp _ F3 H3 _ sl w3 fun F4 H4 v e4 w4 r4 => ?_
    cases r4
    intro s1 H01 C1 cl1 fp1
    refine he ds[i] _ hmem sub s1 H01 C1 cl1 fp1 _ F4 H4 _ (sl.mono e4) w4 fun F5 H5 z e5 w5 r5 => ?_
    obtain ⟨n5, ys, h5, s5⟩ := w5.own Dl _ ou_same
    have fresh : ¬ (Sum.inl (kf ds[i]) : Key) ∈ ys.map (·.1) := by
      rw [s5.keys]
      intro hm
      obtain ⟨q, hq, eq⟩ := List.mem_map.mp hm
      obtain ⟨d2, hd2, rfl⟩ := List.mem_map.mp hq
      have e3 : kf d2 = kf ds[i] := Sum.inl.inj eq
      obtain ⟨b, hb, eb⟩ := List.mem_iff_getElem.mp hd2
      rw [List.length_take] at hb
      rw [List.getElem_take] at eb
      have hb2 : b < i := by omega
      have hbd : b < ds.length := by omega
      have z := (List.nodup_iff_pairwise_ne.mp hnd)
      rw [List.pairwise_iff_getElem] at z
      have y := z b i (by rw [List.length_map]; exact hbd) (by rw [List.length_map]; exact hlt) hb2
      rw [List.getElem_map, List.getElem_map, eb] at y
      exact y e3
    refine ⟨ys, .inl (kf ds[i]), rfl, h5, ?_, F5, ys ++ [(.inl (kf ds[i]), z)], e2.trans (e3.trans (e4.trans e5)), ?_, n5, ?_, ?_⟩
    · rw [s5.len]
      show ((ds.take i).map _).length < _
      rw [List.length_map, List.length_take]
      exact Evl.sz_lt (by omega)
    · rw [putK_new fresh]
      exact (w5.setK ou_same (s5.app r5)).drop fun a o q => by
        rw [ou_ne (fun z => by rw [z, hoD] at q; cases q)]
        exact sub a o q
    · rw [putK_new fresh]
      exact upd_same
    · rw [htk]
      exact s5.app r5
  · have e : i = ds.length := by omega
    subst e
    refine .inl ⟨stop (Nat.le_refl _), ?_⟩
    have r2' : Rpk X.K F2 xs (ds.map fun d => (.inl (kf d), f d)) := by
      have z : fl ds.length = ds.map fun d => (.inl (kf d), f d) := by show (ds.take ds.length).map _ = _; rw [List.take_length]
      rw [← z]
      exact r2
    have w3 : Wo X.K ow (upd F2 Dl (.dK xs)) H2 := w2.freeze hF2 hH2 hoD
    exact k0 (upd F2 Dl (.dK xs)) H2 _ ((e1.trans e2).trans (Evl.Ex.new hF2)) w3 (.dct upd_same (r2'.mono (Evl.Ex.new hF2)))
end
theorem Rps.perm {K : PySem.W.Frag} {F : Hp} {xs ys : List V} (h : ys.Perm xs) : ∀ {ds : List D}, Rps K F xs ds → ∃ ds', ds'.Perm ds ∧ Rps K F ys ds' := by
  induction h with
  | nil =>
    intro ds r
    exact ⟨ds, List.Perm.refl _, r⟩
  | cons x _ ih =>
    intro ds r
    cases r with
    | cons r1 r2 =>
      obtain ⟨ds', p, q⟩ := ih r2
      exact ⟨_ :: ds', p.cons _, .cons r1 q⟩
  | swap x y l =>
    intro ds r
    cases r with
    | cons r1 r2 =>
      cases r2 with
      | cons r3 r4 => exact ⟨_, List.Perm.swap _ _ _, .cons r3 (.cons r1 r4)⟩
  | trans _ _ ih1 ih2 =>
    intro ds r
    obtain ⟨d1, p1, q1⟩ := ih2 r
    obtain ⟨d2, p2, q2⟩ := ih1 q1
    exact ⟨d2, p2.trans p1, q2⟩
def prD (p : Nat × Nat) : D := .tup [.int (p.1 : Int), .int (p.2 : Int)]
def cdP (p : Nat × Nat) : Nat := p.1 * 64 + p.2
theorem prD_inj {p q : Nat × Nat} (h : prD p = prD q) : p = q := by
  unfold prD at h
  injection h with h1
  injection h1 with h2 h3
  injection h3 with h4 _
  injection h2 with h5
  injection h4 with h6
  exact Prod.ext (by omega) (by omega)
/-- sorted(pairs) of few small pairs -/
theorem fo_sortP {X : Cx} {ow : Ow} {L S : List (Nat × Nat)} (hn : L.length < 64) (hb : ∀ p ∈ L, p.1 < 64 ∧ p.2 < 64) (hp : S.Perm L) (hs : S.Pairwise fun p q => cdP p ≤ cdP q) : BiOk X ow "sorted" [.lst (L.map prD)] (.lst (S.map prD)) := ⟨_, cr_sortT (d := 2) (B := 64) (by decide), .mk fun F H xs Q w r k => by
  cases r with
  | cons r1 r2 =>
    cases r2
    cases r1 with
    | @lst a xs _ g s1 =>
      refine ⟨_, xs, rfl, SqL.of (w.ex _ _ g), by rw [s1.length, List.length_map]; exact hn, fun x hx => ?_, fun ys p hp2 hs2 hn2 => ?_⟩
      · obtain ⟨i, hi⟩ := List.getElem?_of_mem hx
        obtain ⟨d, hd, rd⟩ := s1.get' hi
        obtain ⟨q, hq, rfl⟩ := List.mem_map.mp (List.mem_of_getElem? hd)
        cases rd with
        | tup g2 s2 =>
          have e := Rps.intsV (l := [(q.1 : Int), (q.2 : Int)]) s2
          subst e
          refine ⟨[(q.1 : Int), (q.2 : Int)], ⟨_, rfl, Evl.ex_t w.ex g2⟩, rfl, ?_⟩
          have := hb q hq
          intro z hz
          rcases List.mem_cons.mp hz with e | hz
          · omega
          · rw [List.mem_singleton.mp hz]
            omega
      · obtain ⟨ds', pd, rd⟩ := Rps.perm hp2 s1
        have hsd : ds'.Pairwise (fun d e => ∀ p q, d = prD p → e = prD q → cdP p ≤ cdP q) := by
          rw [List.pairwise_iff_getElem]
          intro i j hi hj hij p q e1 e2
          have hl := rd.length
          have hi2 : i < ys.length := by omega
          have hj2 : j < ys.length := by omega
          have z := List.pairwise_iff_getElem.mp hs2 i j hi2 hj2 hij
          obtain ⟨y1, g1, t1⟩ := rd.get (show ds'[i]? = some ds'[i] by simp [hi])
          obtain ⟨y2, g2, t2⟩ := rd.get (show ds'[j]? = some ds'[j] by simp [hj])
          rw [List.getElem?_eq_getElem hi2] at g1
          rw [List.getElem?_eq_getElem hj2] at g2
          cases g1
          cases g2
          rw [e1] at t1
          rw [e2] at t2
          have two : ∀ {y : V} {p : Nat × Nat}, Rp X.K F y (prD p) → TupI X.K H y [(p.1 : Int), (p.2 : Int)] := fun {y p} t => by
            cases t with
            | tup g3 s3 =>
              have e := Rps.intsV (l := [(p.1 : Int), (p.2 : Int)]) s3
              subst e
              exact ⟨_, rfl, Evl.ex_t w.ex g3⟩
          have c := z _ _ (two t1) (two t2)
          rw [code_pair, code_pair] at c
          unfold cdP
          omega
        have eq : ds' = S.map prD := by
          refine List.Perm.eq_of_pairwise (le := fun d e => ∀ p q, d = prD p → e = prD q → cdP p ≤ cdP q) (fun d e hd he h1 h2 => ?_) hsd ?_ (pd.trans (hp.map prD).symm)
          · obtain ⟨p, hp3, rfl⟩ := List.mem_map.mp (pd.mem_iff.mp hd)
            obtain ⟨q, hq3, rfl⟩ := List.mem_map.mp ((hp.map prD).mem_iff.mp he)
            have a1 := h1 p q rfl rfl
            have a2 := h2 q p rfl rfl
            have b1 := hb p hp3
            have b2 := hb q hq3
            unfold cdP at a1 a2
            exact congrArg prD (Prod.ext (by omega) (by omega))
          · refine List.pairwise_map.mpr (hs.imp fun {a b} h p q e1 e2 => ?_)
            rw [← prD_inj e1, ← prD_inj e2]
            exact h
        subst eq
        exact k.new w hn2 (.lst upd_same (rd.mono (w.exnew hn2)))⟩
end Vd
set_option Elab.async false
set_option linter.all false
set_option maxRecDepth 100000
set_option maxHeartbeats 4000000
/-! name = [elt for a in xs for b in ys] in one row. -/
namespace Vd
open PySem L2
open PySem.Spec PyProof.Rows
section
variable {X : Cx} {B : Hp} {env : List (Option D)} {ow : Ow} {e elt it it1 : Expr} {ds : List D} {pos p spos : Pos} {Dn : Ends} {rest : List Stmt}
abbrev lwi (X : Cx) (scope : Scope) (tg it : Expr) : TI := fun σ H R => ∀ (s : Shared) (H0 : Hp) (C : Addr) (cl : List (Str × Addr)) (fp : List Addr), WpI (X.blk s H0 scope (compEnvC scope cl C X.env) fp) tg it σ H R
theorem lc2_read {scope : Scope} {j j1 : Nat} {z : Str} {pz : Pos} {wi : TI} (gs : D → List D) (f : D → D → D) (hjj : j ≠ j1) (hl : ∀ i, i ≤ ds.length → ((ds.take i).flatMap fun d => (gs d).map (f d)).length ≤ 100000)
    (hw : ∀ (σ : L2.St) (F H : Hp) (R : It → Hp → Prop), Sl X.K F σ env → Wo X.K ow F H → (∀ J F1 H1, Ex F F1 → Wo X.K ow F1 H1 → Src X.K J F1 ds → R J H1) → wi σ H R)
    (hi1 : ∀ d ow', d ∈ ds → Sub ow ow' → ∀ (s : Shared) (H : Hp) (C : Addr) (cl : List (Str × Addr)) (fp : List Addr), Vi (X.blk s H scope (compEnvC scope cl C X.env) fp) (.Name z pz) it1 (((env.set j1 none).set j none).set j (some d)) ow' (gs d))
    (he : ∀ d d1 ow', d ∈ ds → d1 ∈ gs d → Sub ow ow' → ∀ (s : Shared) (H : Hp) (C : Addr) (cl : List (Str × Addr)) (fp : List Addr), Ve (X.blk s H scope (compEnvC scope cl C X.env) fp) elt ((((env.set j1 none).set j none).set j (some d)).set j1 (some d1)) ow' (f d d1))
    (σ : L2.St) (F H : Hp) (Q : VK) (s : Sl X.K F σ env) (w : Wo X.K ow F H) (k0 : Post X.K ow F (.lst (ds.flatMap fun d => (gs d).map (f d))) Q) :
    tLc2 wi (gName j) tYes (lwi X scope (.Name z pz) it1) (gName j1) tYes (lte X scope elt) [j, j1] [j1] σ H Q := by
  refine hw σ F H _ s w fun J F1 H1 e1 w1 src => ?_
  intro Dl hD
  have hoD : ow Dl = none := w1.ofree hD
  let fl : Nat → List D := fun i => (ds.take i).flatMap fun d => (gs d).map (f d)
  refine ⟨fun i m H => m = ds.length - i ∧ i ≤ ds.length ∧ ∃ F2 xs, Ex F1 F2 ∧ Wo X.K ow F2 H ∧ F2 Dl = none ∧ H Dl = some (.lst xs) ∧ Rps X.K F2 xs (fl i), ⟨ds.length, by simp, Nat.zero_le _, F1, [], Evl.Ex.refl F1, w1.grow hD, w1.free hD, upd_same, .nil⟩, ?_⟩
  rintro i m H2 ⟨rfl, hi, F2, xs, e2, w2, hF2, hH2, r2⟩
  obtain ⟨stop, go⟩ := src F2 H2 ow i e2 w2
  by_cases hlt : i < ds.length
  · have hdi : ds[i]? = some ds[i] := by simp [hlt]
    have htk : fl (i + 1) = fl i ++ (gs ds[i]).map (f ds[i]) := by
      show (ds.take (i + 1)).flatMap _ = _
      rw [List.take_add_one, hdi]
      show (ds.take i ++ [ds[i]]).flatMap _ = _
      rw [List.flatMap_append]
      simp [fl]
    have hmem : ds[i] ∈ ds := List.getElem_mem hlt
    obtain ⟨hgo, hy⟩ := go ds[i] hdi
    refine .inr ⟨hgo, fun H3 => ∃ F3 xs, Ex F1 F3 ∧ Wo X.K ow F3 H3 ∧ F3 Dl = none ∧ H3 Dl = some (.lst xs) ∧ Rps X.K F3 xs (fl (i + 1)), fun H3 q => ⟨ds.length - (i + 1), by omega, rfl, hlt, q⟩, fun x H3 hx => ?_⟩
    have own_ : ∀ {F2 H2 : Hp} {xs : List V} {l : List D}, Wo X.K ow F2 H2 → F2 Dl = none → H2 Dl = some (.lst xs) → Rps X.K F2 xs l → Wo X.K (ou ow Dl (.lst l)) F2 H2 := fun w2 hF2 hH2 r2 => ⟨w2.ex, fun a o q => by
      by_cases z : a = Dl
      · subst z
        rw [ou_same] at q
        cases q
        exact ⟨hF2, _, hH2, r2⟩
      · rw [ou_ne z] at q
        exact w2.own a o q⟩
    have sub : ∀ {l : List D}, ∀ a o, ow a = some o → ou ow Dl (.lst l) a = some o := fun a o q => by
      rw [ou_ne (fun z => by rw [z, hoD] at q; cases q)]
      exact q
    obtain ⟨stop', go'⟩ := src F2 H2 _ i e2 (own_ w2 hF2 hH2 r2)
    obtain ⟨_, hy'⟩ := go' ds[i] hdi
    obtain ⟨F3, e3, w3, r3⟩ := hy' x H3 hx
    have sl : Sl X.K F3 (((L2.wipe σ [j, j1])).set j (some x)) (((env.set j1 none).set j none).set j (some ds[i])) := ((((s.mono (e1.trans (e2.trans e3))).unset j1).unset j).set r3 j)
    refine ⟨wipe_two hjj, ?_⟩
    unfold tYes
    dsimp only
    rw [if_pos rfl]
    intro s0 H0 C cl fp
    obtain ⟨wi1, pi1, hw1⟩ := hi1 ds[i] _ hmem (sub (l := fl i)) s0 H0 C cl fp
    intro pins sA I
    refine pi1.run pins sA _ H3 _ I (hw1 _ F3 H3 _ sl w3 fun J1 F4 H4 e4 w4 src1 => ?_)
    have e14 : Ex F1 F4 := e2.trans (e3.trans e4)
    obtain ⟨n4, ys4, h4, s4⟩ := w4.own Dl _ ou_same
    refine ⟨fun b m H => m = (gs ds[i]).length - b ∧ b ≤ (gs ds[i]).length ∧ ∃ F5 ys, Ex F4 F5 ∧ Wo X.K ow F5 H ∧ F5 Dl = none ∧ H Dl = some (.lst ys) ∧ Rps X.K F5 ys (fl i ++ ((gs ds[i]).take b).map (f ds[i])), ⟨(gs ds[i]).length, by simp, Nat.zero_le _, F4, ys4, Evl.Ex.refl F4, w4.drop (sub (l := fl i)), n4, h4, by simpa using s4⟩, ?_⟩
    rintro b m H5 ⟨rfl, hb, F5, ys, e5, w5, hF5, hH5, r5⟩
    obtain ⟨stop1, go1⟩ := src1 F5 H5 ow b e5 w5
    by_cases hbt : b < (gs ds[i]).length
    · have hdb : (gs ds[i])[b]? = some (gs ds[i])[b] := by simp [hbt]
      obtain ⟨hgo1, _⟩ := go1 _ hdb
      have htb : (gs ds[i]).take (b + 1) = (gs ds[i]).take b ++ [(gs ds[i])[b]] := by rw [List.take_add_one, hdb]; rfl
      refine .inr ⟨hgo1, fun H6 => ∃ F6 ys, Ex F4 F6 ∧ Wo X.K ow F6 H6 ∧ F6 Dl = none ∧ H6 Dl = some (.lst ys) ∧ Rps X.K F6 ys (fl i ++ ((gs ds[i]).take (b + 1)).map (f ds[i])), fun H6 q => ⟨(gs ds[i]).length - (b + 1), by omega, rfl, hbt, q⟩, fun x1 H6 hx1 => ?_⟩
      obtain ⟨_, go1'⟩ := src1 F5 H5 _ b e5 (own_ w5 hF5 hH5 r5)
      obtain ⟨_, hy1⟩ := go1' _ hdb
      obtain ⟨F6, e6, w6, r6⟩ := hy1 x1 H6 hx1
      refine ⟨wipe_one, ?_⟩
      dsimp only
      rw [if_pos rfl]
      intro s1 H01 C1 cl1 fp1
      have sl1 : Sl X.K F6 ((L2.wipe ((L2.wipe σ [j, j1]).set j (some x)) [j1]).set j1 (some x1)) ((((env.set j1 none).set j none).set j (some ds[i])).set j1 (some (gs ds[i])[b])) := by
        have z := (((sl.mono (e4.trans (e5.trans e6))).unset j1).set r6 j1)
        have ee : ∀ E : List (Option D), (E.set j1 none).set j1 (some (gs ds[i])[b]) = E.set j1 (some (gs ds[i])[b]) := fun E => List.set_set _
        rw [ee] at z
        exact z
      refine he ds[i] _ _ hmem (List.getElem_mem hbt) (sub (l := fl i ++ ((gs ds[i]).take b).map (f ds[i]))) s1 H01 C1 cl1 fp1 _ F6 H6 _ sl1 w6 fun F7 H7 v e7 w7 r7 => ?_
      obtain ⟨n7, ys7, h7, s7⟩ := w7.own Dl _ ou_same
      refine ⟨ys7, h7, ?_, F7, ys7 ++ [v], e5.trans (e6.trans e7), ?_, n7, upd_same, ?_⟩
      · have z := s7.length
        have y1 := hl (i + 1) hlt
        have y2 : (fl (i + 1)).length ≤ 100000 := y1
        rw [htk, List.length_append, List.length_map] at y2
        rw [List.length_append, List.length_map, List.length_take] at z
        exact Evl.sz_lt (by omega)
      · exact (w7.setL ou_same (s7.append (.cons r7 .nil))).drop fun a o q => by
          rw [ou_ne (fun z => by rw [z, hoD] at q; cases q)]
          exact sub a o q
      · rw [htb, List.map_append, ← List.append_assoc]
        exact s7.append (.cons r7 .nil)
    · have eb : b = (gs ds[i]).length := by omega
      subst eb
      refine .inl ⟨stop1 (Nat.le_refl _), F5, ys, e14.trans e5, w5, hF5, hH5, ?_⟩
      rw [List.take_length] at r5
      rw [htk]
      exact r5
  · have e : i = ds.length := by omega
    subst e
    refine .inl ⟨stop (Nat.le_refl _), ?_⟩
    have r2' : Rps X.K F2 xs (ds.flatMap fun d => (gs d).map (f d)) := by
      have z : fl ds.length = ds.flatMap fun d => (gs d).map (f d) := by show (ds.take ds.length).flatMap _ = _; rw [List.take_length]
      rw [← z]
      exact r2
    exact k0 (upd F2 Dl (.lst xs)) H2 _ ((e1.trans e2).trans (Evl.Ex.new hF2)) (w2.freeze hF2 hH2 hoD) (.lst upd_same (r2'.mono (Evl.Ex.new hF2)))
theorem rn_setLc2 {scope : Scope} {j j1 i : Nat} {y z x : Str} {py pz px : Pos} (gs : D → List D) (f : D → D → D) (hc : X.calm = true) (hN : X.N.Nodup) (hx : X.N[i]? = some x) (hxl : X.env.scope.names.lookup x = some .local) (hsw : swapsWith (.ListComp elt [⟨.Name y py, it, [], 0⟩, ⟨.Name z pz, it1, [], 0⟩] scope pos) (some (.Name x px)) spos.line X.env = pure true)
    (hi : Vi X (.Name y py) it env ow ds) (ok : BlkOk X.N X.env.scope scope [(y, j), (z, j1)]) (hjj : j ≠ j1) (hl : ∀ i, i ≤ ds.length → ((ds.take i).flatMap fun d => (gs d).map (f d)).length ≤ 100000)
    (hg : ∀ (s : Shared) (H : Hp) (C : Addr) (cl : List (Str × Addr)) (fp : List Addr), PG (X.blk s H scope (compEnvC scope cl C X.env) fp) (.Name y py) (gName j))
    (hg1 : ∀ (s : Shared) (H : Hp) (C : Addr) (cl : List (Str × Addr)) (fp : List Addr), PG (X.blk s H scope (compEnvC scope cl C X.env) fp) (.Name z pz) (gName j1))
    (hi1 : ∀ d ow', d ∈ ds → Sub ow ow' → ∀ (s : Shared) (H : Hp) (C : Addr) (cl : List (Str × Addr)) (fp : List Addr), Vi (X.blk s H scope (compEnvC scope cl C X.env) fp) (.Name z pz) it1 (((env.set j1 none).set j none).set j (some d)) ow' (gs d))
    (he : ∀ d d1 ow', d ∈ ds → d1 ∈ gs d → Sub ow ow' → ∀ (s : Shared) (H : Hp) (C : Addr) (cl : List (Str × Addr)) (fp : List Addr), Ve (X.blk s H scope (compEnvC scope cl C X.env) fp) elt ((((env.set j1 none).set j none).set j (some d)).set j1 (some d1)) ow' (f d d1))
    (k : ∀ B', Ex B B' → Rn X B' rest Dn (env.set i (some (.lst (ds.flatMap fun d => (gs d).map (f d))))) ow)
    (hsf : ∀ x, foldedSetIterable it X.env x = pure x := by intro _; rfl) (hsf1 : ∀ env x, foldedSetIterable it1 env x = pure x := by intro _ _; rfl) : Rn X B (.Assign [.Name x px] (.ListComp elt [⟨.Name y py, it, [], 0⟩, ⟨.Name z pz, it1, [], 0⟩] scope pos) spos :: rest) Dn env ow := rn_one (by
  obtain ⟨wi, pi, hw⟩ := hi
  refine ⟨_, ps_setLc2 (own := [(y, j), (z, j1)]) (vs1 := [j1]) (g := gName j) (g1 := gName j1) (tt := tYes) (tt1 := tYes) (wi1 := lwi X scope (.Name z pz) it1) (te := lte X scope elt) hc hN hx hxl hsw pi ok (fun i hi => by rw [List.mem_singleton.mp hi]; show j1 ∈ [j, j1]; simp) hg
    (fun s0 H0 C cl fp => pts_nil) (fun s0 H0 C cl fp => ⟨fun pins s σ H R I h => h s0 H0 C cl fp pins s I⟩) hg1 (fun s0 H0 C cl fp => pts_nil) (fun s0 H0 C cl fp => ⟨fun pins s σ H Q I h => h s0 H0 C cl fp pins s I⟩) hsf hsf1, fun σ F H eB s w => ?_⟩
  exact lc2_read gs f hjj hl hw hi1 he σ F H _ s w fun F1 H1 v e1 w1 r1 => k F1 (eB.trans e1) _ F1 H1 (Evl.Ex.refl F1) ((s.mono e1).set r1 i) w1)
end
end Vd
set_option Elab.async false
set_option linter.all false
set_option maxRecDepth 100000
set_option maxHeartbeats 4000000
namespace K2
open PySem L2 Vd
open PySem.Spec PyProof.Rows
/-! the walk over data -/
local macro_rules | `(tactic| walk_at "vis") => `(tactic| first | exact Or.inl rfl | exact Or.inr (Or.inl rfl) | exact Or.inr (Or.inr rfl))
local macro_rules | `(tactic| walk_at "none") => `(tactic| first | assumption)
local macro_rules | `(tactic| walk_at "num") => `(tactic| first | decide | omega)
local macro_rules | `(tactic| walk_at "vr") => `(tactic| first
  | exact bo_add | exact bo_sub | exact bo_mulR (by decide) | exact bo_mulL (by decide) | exact bo_mod (by walk_at "num") | exact bo_div (by walk_at "num") (by walk_at "num") | exact bo_pow (by decide) (by decide) (by decide) | exact bo_cat (by walk_at "num") | exact bo_mulR (by omega) | exact bo_mulL (by omega))
local macro_rules | `(tactic| walk_at "vq") => `(tactic| first
  | exact co_lt | exact co_le | exact co_gt | exact co_ge | exact co_eqI | exact co_neI | exact co_eqS | exact co_neS)
local macro_rules | `(tactic| walk_at "vx") => `(tactic| first
  | exact xo_own (by assumption) rfl | exact xo_lst rfl | exact xo_tup rfl)
local macro_rules | `(tactic| walk_at "vf") => `(tactic| first
  | exact fo_abs | exact fo_lenL | exact fo_lenT | exact fo_lenO (by assumption) | exact fo_divmod (by walk_at "num") (by walk_at "num") | exact fo_max rfl | exact fo_min rfl)
local macro_rules | `(tactic| walk_at "vn") => `(tactic| first
  | exact ve_var (i := 0) rfl rfl (by walk_at "vis") | exact ve_var (i := 1) rfl rfl (by walk_at "vis") | exact ve_var (i := 2) rfl rfl (by walk_at "vis") | exact ve_var (i := 3) rfl rfl (by walk_at "vis") | exact ve_var (i := 4) rfl rfl (by walk_at "vis") | exact ve_var (i := 5) rfl rfl (by walk_at "vis") | exact ve_var (i := 6) rfl rfl (by walk_at "vis") | exact ve_var (i := 7) rfl rfl (by walk_at "vis"))
local macro_rules | `(tactic| walk_at "vd") => `(tactic| first
  | exact ve_int | exact ve_bl | exact ve_non | exact ve_str
  | (refine' ve_bin ?ha ?hb ?hr; (case ha => walk_at "vd"); (case hb => walk_at "vd"); (case hr => walk_at "vr"))
  | (refine' ve_sub ?ha ?hb (fun _ _ => rfl) ?hr; (case ha => walk_at "vd"); (case hb => walk_at "vd"); (case hr => walk_at "vx"))
  | (refine' ve_ty (id := "int") ?ha rfl ?hm boot_int ?hr; (case ha => walk_at "va"); (case hm => walk_at "none"); (case hr => exact to_int))
  | (refine' ve_bi ?ha rfl ?hm ?hv ?hr; (case hv => first | exact boot_abs | exact boot_len | exact boot_divmod | exact boot_max | exact boot_min); (case ha => walk_at "va"); (case hm => walk_at "none"); (case hr => walk_at "vf"))
  | (refine' ve_tup ?ha ?hl; (case ha => walk_at "va"); (case hl => walk_at "num"))
  | (refine' ve_lst ?ha ?hl; (case ha => walk_at "va"); (case hl => walk_at "num"))
  | (refine' ve_comp ?ha ?hb ?hr; (case ha => walk_at "vd"); (case hb => walk_at "vd"); (case hr => walk_at "vq"))
  | walk_at "vn")
local macro_rules | `(tactic| walk_at "va") => `(tactic| first | exact va_nil | (refine' va_cons ?ha ?hb; (case ha => walk_at "vd"); (case hb => walk_at "va")))
local macro_rules | `(tactic| walk_at "vt") => `(tactic| first
  | (refine' vt_comp ?ha ?hb ?hr; (case ha => walk_at "vd"); (case hb => walk_at "vd"); (case hr => walk_at "vq"))
  | (refine' vt_val ?hv; case hv => walk_at "vd"))
/-! ### in_both -/
abbrev sBo : Stmt := s_in_both
theorem scBo : FnScope ["one", "other", "period", "marks", "other_period", "other_marks", "shared", "stride", "turn", "partners", "found", "mark", "partner"] ["one", "other"] (defScope sBo) := ⟨rfl, rfl, rfl, by decide +kernel, rfl, by decide +kernel, by decide +kernel⟩
def GBr (ds : List D) : Prop := ∃ (M : List Nat) (g : Nat), ds = [.tup (M.map natD), natD g] ∧ Per.Asc M ∧ (∀ x ∈ M, x < 60) ∧ 0 < g
def grp (M : List Nat) (g r : Nat) : List Nat := M.filter fun m => decide (m % g = r)
def RBr (ds : List D) (d : D) : Prop := ∀ (M : List Nat) (g : Nat), ds = [.tup (M.map natD), natD g] → ∃ l, d = .dct l ∧ ∀ r : Nat, (valD l (.inl (r : Int))).getD (.tup []) = .tup ((grp M g r).map natD)
theorem fdL_len {a b t n : Nat} {A B : List Nat} (pa : Per.Pat a A) (pb : Per.Pat b B) (ht : (a / Nat.gcd a b * t) % (b / Nat.gcd a b) = 1 % (b / Nat.gcd a b)) (h : Nat.lcm a b ≤ n) : (fdL a A b B t).length ≤ n := by
  have z := (fd_perm pa pb ht).length_eq
  have y := List.length_filter_le (fun x => decide (x % a ∈ A) && decide (x % b ∈ B)) (List.range (Nat.lcm a b))
  rw [List.length_range] at y
  have e : (andL a A b B).length ≤ Nat.lcm a b := y
  omega
def gsB (a b : Nat) (B : List Nat) : D → List D
  | .int m => (grp B (Nat.gcd a b) (m.toNat % Nat.gcd a b)).map natD
  | _ => []
def fB (a b t : Nat) : D → D → D
  | .int m, .int p => natD (crt a b t m.toNat p.toNat)
  | _, _ => .non
theorem fdD {a b t : Nat} {B : List Nat} (A : List Nat) : ((A.map natD).flatMap fun d => (gsB a b B d).map (fB a b t d)) = (fdL a A b B t).map natD := by
  unfold fdL
  rw [List.map_flatMap, List.flatMap_map]
  congr 1
  funext m
  rw [List.map_map]
  show ((grp B (Nat.gcd a b) (((m : Int)).toNat % Nat.gcd a b)).map natD).map _ = _
  rw [List.map_map, Int.toNat_natCast]
  exact List.map_congr_left fun p _ => by
    show natD (crt a b t ((m : Int)).toNat ((p : Int)).toNat) = natD (crt a b t m p)
    rw [Int.toNat_natCast, Int.toNat_natCast]
section
variable {γ : Gds} {P : Program} {w : World} {K : PySem.W.Frag} {mg : Str → Option Value} {base : Heap}
theorem ok_both {f f1 f2 : Addr} {fd fd1 fd2 : FuncData} (Fn : Fun K "in_both" "in_both" sBo f fd) (F1 : FnG γ P w K mg base CX0 1 f1 fd1 ["number", "modulus"] (spR K RInv)) (m1 : mg "inverse" = some (.ref f1)) (k1 : PySem.W.keepIn K (.ref f1) = true) (b1 : Binds K fd1 ["number", "modulus"] [])
    (F2 : FnG γ P w K mg base CX0 2 f2 fd2 ["marks", "shared"] (spE K GBr RBr)) (m2 : mg "by_remainder" = some (.ref f2)) (k2 : PySem.W.keepIn K (.ref f2) = true) (b2 : Binds K fd2 ["marks", "shared"] []) (mG : mg "gcd" = some (.builtin "math.gcd")) (mL : mg "lcm" = some (.builtin "math.lcm")) (mT : mg "tuple" = none) (mS : mg "sorted" = none) :
    FnG γ P w K mg base CX0 3 f fd ["one", "other"] (spR K RBo) := by
  refine okR Fn scBo (fun ds d ⟨a, b, A, B, e, _⟩ => by rw [e]; rfl) fun cdv A0 outer s H Bh ow ds d Q E hgd hrm hR kQ => ?_
  obtain ⟨a, b, A, B, rfl, pa, pb, hl, hb60, rfl⟩ := hR
  have hu1 : A0.units + 3 + 1 < cLine := by
    have z : A0.units + 3 + 16 * 2 + 200 < cLine := hrm.un
    omega
  have hla := Nat.le_of_dvd (Nat.lcm_pos pa.pos pb.pos) (Nat.dvd_lcm_left a b)
  have hgp : 0 < Nat.gcd a b := Nat.gcd_pos_of_pos_left _ pa.pos
  have hgb : Nat.gcd a b ≤ b := Nat.le_of_dvd pb.pos (Nat.gcd_dvd_right a b)
  have hsp : 0 < b / Nat.gcd a b := Nat.div_pos hgb hgp
  have hsb : b / Nat.gcd a b ≤ b := Nat.div_le_self _ _
  have hcop : Nat.gcd (a / Nat.gcd a b) (b / Nat.gcd a b) = 1 := Nat.gcd_div_gcd_div_gcd_of_pos_left pa.pos
  obtain ⟨t, htl, ht⟩ := inv_ex hsp hcop
  have hq1 : (b : Int) / ((Nat.gcd a b : Nat) : Int) = ((b / Nat.gcd a b : Nat) : Int) := (Int.natCast_ediv _ _).symm
  have hq2 : (a : Int) / ((Nat.gcd a b : Nat) : Int) = ((a / Nat.gcd a b : Nat) : Int) := (Int.natCast_ediv _ _).symm
  refine' rn_asg (g := gTup K 2 (gCons (gName 2) (gCons (gName 3) gNil))) (f := fun env => (env.set 2 (some (natD a))).set 3 (some (.tup (A.map natD)))) (d := patD a A) (pg_tup rfl (pgs_cons (pg_name scBo.nd rfl (by first | exact .inl rfl | exact .inr rfl)) (pgs_cons (pg_name scBo.nd rfl (by first | exact .inl rfl | exact .inr rfl)) pgs_nil))) (ve_var (i := 0) rfl rfl (by walk_at "vis")) (gd_two 2 3) ?k1
  intro B1 e1
  refine' rn_asg (g := gTup K 2 (gCons (gName 4) (gCons (gName 5) gNil))) (f := fun env => (env.set 4 (some (natD b))).set 5 (some (.tup (B.map natD)))) (d := patD b B) (pg_tup rfl (pgs_cons (pg_name scBo.nd rfl (by first | exact .inl rfl | exact .inr rfl)) (pgs_cons (pg_name scBo.nd rfl (by first | exact .inl rfl | exact .inr rfl)) pgs_nil))) (ve_var (i := 1) rfl rfl (by walk_at "vis")) (gd_two 4 5) ?k2
  intro B2 e2
  refine' rn_set (i := 6) (d := natD (Nat.gcd a b)) scBo.nd rfl (by first | exact .inl rfl | exact .inr rfl) ?h3 ?k3
  case h3 => exact ve_gb (va_cons (ve_var (d := natD a) (i := 2) rfl rfl (by walk_at "vis")) (va_cons (ve_var (d := natD b) (i := 4) rfl rfl (by walk_at "vis")) va_nil)) rfl mG fo_gcd
  case k3 =>
  intro B3 e3
  refine' rn_set (i := 7) (d := natD (b / Nat.gcd a b)) scBo.nd rfl (by first | exact .inl rfl | exact .inr rfl) ?h4 ?k4
  case h4 => exact ve_is (ve_bin (ve_var (d := natD b) (i := 4) rfl rfl (by walk_at "vis")) (ve_var (d := natD (Nat.gcd a b)) (i := 6) rfl rfl (by walk_at "vis")) (bo_div (by omega) (by omega))) (by show D.int _ = D.int _; rw [hq1])
  case k4 =>
  intro B4 e4
  refine' rn_set (i := 8) (d := natD t) scBo.nd rfl (by first | exact .inl rfl | exact .inr rfl) ?h5 ?k5
  case h5 => exact ve_R F1 hgd (hrm.mono (by decide)) rfl m1 k1 b1 (va_cons (ve_is (ve_bin (ve_var (d := natD a) (i := 2) rfl rfl (by walk_at "vis")) (ve_var (d := natD (Nat.gcd a b)) (i := 6) rfl rfl (by walk_at "vis")) (bo_div (by omega) (by omega))) (by show D.int _ = D.int _; rw [hq2] : _ = natD (a / Nat.gcd a b))) (va_cons (ve_var (d := natD (b / Nat.gcd a b)) (i := 7) rfl rfl (by walk_at "vis")) va_nil)) ⟨a / Nat.gcd a b, b / Nat.gcd a b, t, rfl, hsp, by omega, hcop, htl, ht, rfl⟩
  case k5 =>
  intro B5 e5
  refine' rn_setM (i := 9) scBo.nd rfl (by first | exact .inl rfl | exact .inr rfl) (vm_E F2 hgd hrm rfl m2 k2 b2 (va_cons (ve_var (d := .tup (B.map natD)) (i := 5) rfl rfl (by walk_at "vis")) (va_cons (ve_var (d := natD (Nat.gcd a b)) (i := 6) rfl rfl (by walk_at "vis")) va_nil)) ⟨B, Nat.gcd a b, rfl, pb.asc, fun x hx => by have := pb.lt x hx; omega, hgp⟩) ?k6
  rintro B6 d ow2 e6 ⟨rfl, hRb⟩
  obtain ⟨l, rfl, hval⟩ := hRb B (Nat.gcd a b) rfl
  refine' rn_setLc2 (j := 11) (j1 := 12) (i := 10) (ds := A.map natD) (gsB a b B) (fB a b t) rfl scBo.nd rfl rfl (sw_true rfl rfl rfl (by decide +kernel)) (vi_tup (ve_var (i := 3) rfl rfl (by walk_at "vis"))) (blkOk_by (N := ["one", "other", "period", "marks", "other_period", "other_marks", "shared", "stride", "turn", "partners", "found", "mark", "partner"]) (sc := defScope sBo) (by decide +kernel)) (by decide) ?hl (fun _ _ _ _ _ => pg_name (i := 11) scBo.nd rfl (.inl rfl)) (fun _ _ _ _ _ => pg_name (i := 12) scBo.nd rfl (.inl rfl)) ?hi1 ?he ?k7
  case hl =>
    intro i hi
    rw [← List.map_take, fdD, List.length_map]
    exact fdL_len (A := A.take i) ⟨pa.pos, pa.asc.sublist (List.take_sublist _ _), fun x hx => pa.lt x (List.mem_of_mem_take hx)⟩ pb ht hl
  case hi1 =>
    intro d ow' hd sub s0 H0 C0 cl fp
    obtain ⟨m, hm, rfl⟩ := List.mem_map.mp hd
    have hmod : (m : Int) % ((Nat.gcd a b : Nat) : Int) = ((m % Nat.gcd a b : Nat) : Int) := (Int.natCast_emod _ _).symm
    refine vi_tup (ve_is (ve_get2 (l := l) (i := ((m % Nat.gcd a b : Nat) : Int)) (d0 := .tup []) hu1 (ve_var (i := 9) rfl rfl (by walk_at "vis")) (ve_is (ve_bin (ve_var (d := natD m) (i := 11) rfl rfl (by walk_at "vis")) (ve_var (d := natD (Nat.gcd a b)) (i := 6) rfl rfl (by walk_at "vis")) (bo_mod (by omega))) (by rw [hmod])) (ve_tup va_nil (Nat.zero_le _)) ⟨by rfl, by rfl, by rfl, by rfl⟩) ?_)
    rw [hval]
    rfl
  case he =>
    intro d d1 ow' hd hd1 sub s0 H0 C0 cl fp
    obtain ⟨m, hm, rfl⟩ := List.mem_map.mp hd
    obtain ⟨p, hp, rfl⟩ := List.mem_map.mp hd1
    have kk : (0 : Int) ≤ (((p : Int) - (m : Int)) / ((Nat.gcd a b : Nat) : Int) * (t : Int)) % ((b / Nat.gcd a b : Nat) : Int) := Int.emod_nonneg _ (by omega)
    refine ve_is (ve_bin (ve_var (d := natD m) (i := 11) rfl rfl (by walk_at "vis")) (ve_bin (ve_var (d := natD a) (i := 2) rfl rfl (by walk_at "vis")) (ve_bin (ve_bin (ve_bin (ve_bin (ve_var (d := natD p) (i := 12) rfl rfl (by walk_at "vis")) (ve_var (d := natD m) (i := 11) rfl rfl (by walk_at "vis")) bo_sub) (ve_var (d := natD (Nat.gcd a b)) (i := 6) rfl rfl (by walk_at "vis")) (bo_div (by omega) (by omega))) (ve_var (d := natD t) (i := 8) rfl rfl (by walk_at "vis")) (bo_mulR (by omega))) (ve_var (d := natD (b / Nat.gcd a b)) (i := 7) rfl rfl (by walk_at "vis")) (bo_mod (by omega))) (bo_mulL (by omega))) bo_add) ?_
    show D.int _ = D.int ((crt a b t ((m : Int)).toNat ((p : Int)).toNat : Nat) : Int)
    rw [Int.toNat_natCast, Int.toNat_natCast]
    unfold crt
    rw [Int.natCast_add, Int.natCast_mul, Int.toNat_of_nonneg kk]
  case k7 =>
  intro B7 e7
  have eL := fdD (a := a) (b := b) (t := t) (B := B) A
  rw [eL]
  have pr := fd_perm pa pb ht
  exact rn_ret (ve_is (ve_tup (va_cons (ve_gb (va_cons (ve_var (d := natD a) (i := 2) rfl rfl (by walk_at "vis")) (va_cons (ve_var (d := natD b) (i := 4) rfl rfl (by walk_at "vis")) va_nil)) rfl mL (fo_lcm (by omega) (by omega))) (va_cons (ve_ty (id := "tuple") (va_cons (ve_bi (va_cons (ve_is (ve_var (d := .lst ((fdL a A b B t).map natD)) (i := 10) rfl rfl (by walk_at "vis")) (by rw [natD_ints] : _ = D.lst (((fdL a A b B t).map toI).map D.int))) va_nil) rfl mS boot_sorted (fo_sorted (l := (andL a A b B).map toI) (List.pairwise_map.mpr ((asc_filter (asc_range _) _ : Per.Asc (andL a A b B)).imp fun h => by show (_ : Int) ≤ _; unfold toI; omega)) (pr.map _))) va_nil) rfl mT boot_tuple to_tupL) va_nil)) (by show 2 ≤ 100000; decide)) (by rw [← natD_ints]; rfl)) (kQ.ex (e1.trans (e2.trans (e3.trans (e4.trans (e5.trans (e6.trans e7)))))))
end
end K2
set_option Elab.async false
set_option linter.all false
set_option maxRecDepth 100000
set_option maxHeartbeats 4000000
namespace K2
open PySem L2 Vd
open PySem.Spec PyProof.Rows
/-! the walk over data -/
local macro_rules | `(tactic| walk_at "vis") => `(tactic| first | exact Or.inl rfl | exact Or.inr (Or.inl rfl) | exact Or.inr (Or.inr rfl))
local macro_rules | `(tactic| walk_at "none") => `(tactic| first | assumption)
local macro_rules | `(tactic| walk_at "num") => `(tactic| first | decide | omega)
local macro_rules | `(tactic| walk_at "vr") => `(tactic| first
  | exact bo_add | exact bo_sub | exact bo_mulR (by decide) | exact bo_mulL (by decide) | exact bo_mod (by walk_at "num") | exact bo_div (by walk_at "num") (by walk_at "num") | exact bo_pow (by decide) (by decide) (by decide) | exact bo_cat (by walk_at "num") | exact bo_mulR (by omega) | exact bo_mulL (by omega))
local macro_rules | `(tactic| walk_at "vq") => `(tactic| first
  | exact co_lt | exact co_le | exact co_gt | exact co_ge | exact co_eqI | exact co_neI | exact co_eqS | exact co_neS)
local macro_rules | `(tactic| walk_at "vx") => `(tactic| first
  | exact xo_own (by assumption) rfl | exact xo_lst rfl | exact xo_tup rfl)
local macro_rules | `(tactic| walk_at "vf") => `(tactic| first
  | exact fo_abs | exact fo_lenL | exact fo_lenT | exact fo_lenO (by assumption) | exact fo_divmod (by walk_at "num") (by walk_at "num") | exact fo_max rfl | exact fo_min rfl)
local macro_rules | `(tactic| walk_at "vn") => `(tactic| first
  | exact ve_var (i := 0) rfl rfl (by walk_at "vis") | exact ve_var (i := 1) rfl rfl (by walk_at "vis") | exact ve_var (i := 2) rfl rfl (by walk_at "vis") | exact ve_var (i := 3) rfl rfl (by walk_at "vis") | exact ve_var (i := 4) rfl rfl (by walk_at "vis") | exact ve_var (i := 5) rfl rfl (by walk_at "vis") | exact ve_var (i := 6) rfl rfl (by walk_at "vis") | exact ve_var (i := 7) rfl rfl (by walk_at "vis"))
local macro_rules | `(tactic| walk_at "vd") => `(tactic| first
  | exact ve_int | exact ve_bl | exact ve_non | exact ve_str
  | (refine' ve_bin ?ha ?hb ?hr; (case ha => walk_at "vd"); (case hb => walk_at "vd"); (case hr => walk_at "vr"))
  | (refine' ve_sub ?ha ?hb (fun _ _ => rfl) ?hr; (case ha => walk_at "vd"); (case hb => walk_at "vd"); (case hr => walk_at "vx"))
  | (refine' ve_ty (id := "int") ?ha rfl ?hm boot_int ?hr; (case ha => walk_at "va"); (case hm => walk_at "none"); (case hr => exact to_int))
  | (refine' ve_bi ?ha rfl ?hm ?hv ?hr; (case hv => first | exact boot_abs | exact boot_len | exact boot_divmod | exact boot_max | exact boot_min); (case ha => walk_at "va"); (case hm => walk_at "none"); (case hr => walk_at "vf"))
  | (refine' ve_tup ?ha ?hl; (case ha => walk_at "va"); (case hl => walk_at "num"))
  | (refine' ve_lst ?ha ?hl; (case ha => walk_at "va"); (case hl => walk_at "num"))
  | (refine' ve_comp ?ha ?hb ?hr; (case ha => walk_at "vd"); (case hb => walk_at "vd"); (case hr => walk_at "vq"))
  | walk_at "vn")
local macro_rules | `(tactic| walk_at "va") => `(tactic| first | exact va_nil | (refine' va_cons ?ha ?hb; (case ha => walk_at "vd"); (case hb => walk_at "va")))
local macro_rules | `(tactic| walk_at "vt") => `(tactic| first
  | (refine' vt_comp ?ha ?hb ?hr; (case ha => walk_at "vd"); (case hb => walk_at "vd"); (case hr => walk_at "vq"))
  | (refine' vt_val ?hv; case hv => walk_at "vd"))
/-! ### rows of equal first things -/
abbrev PN := Nat × Nat
abbrev GN := Nat × List Nat
def onG (G : GN) : List PN := G.2.map fun m => (G.1, m)
def flatP (Gs : List GN) : List PN := Gs.flatMap onG
/-- whether a place begins a row -/
def isSt (S : List PN) (at_ : Nat) : Bool := decide (at_ = 0) || decide ((S.getD at_ (0, 0)).1 ≠ (S.getD (at_ - 1) (0, 0)).1)
def stG : Nat → List GN → List Nat
  | _, [] => []
  | o, G :: r => o :: stG (o + G.2.length) r
def offG : Nat → List GN → List PN
  | _, [] => []
  | o, G :: r => (o, o + G.2.length) :: offG (o + G.2.length) r
theorem flatP_cons {G : GN} {r : List GN} : flatP (G :: r) = onG G ++ flatP r := by unfold flatP; rw [List.flatMap_cons]
theorem onG_len {G : GN} : (onG G).length = G.2.length := by unfold onG; rw [List.length_map]
theorem onG_fst {G : GN} {p : PN} (h : p ∈ onG G) : p.1 = G.1 := by
  obtain ⟨m, _, rfl⟩ := List.mem_map.mp h
  rfl
theorem getD_mid {P Q R : List PN} {i : Nat} (h1 : P.length ≤ i) (h2 : i < P.length + Q.length) : (P ++ (Q ++ R)).getD i (0, 0) ∈ Q := by
  have e : (P ++ (Q ++ R))[i]? = Q[i - P.length]? := by
    rw [List.getElem?_append_right h1, List.getElem?_append_left (by omega)]
  have hi : i - P.length < Q.length := by omega
  rw [List.getD_eq_getElem?_getD, e, List.getElem?_eq_getElem hi]
  exact List.getElem_mem hi
theorem starts_eq : ∀ (Gs : List GN) (P : List PN), (∀ G ∈ Gs, G.2 ≠ []) → Gs.Pairwise (fun G H => G.1 ≠ H.1) → (∀ q, P.getLast? = some q → ∀ G ∈ Gs, q.1 ≠ G.1) → (List.range' P.length (flatP Gs).length).filter (isSt (P ++ flatP Gs)) = stG P.length Gs
  | [], P, _, _, _ => by simp [flatP, stG]
  | G :: r, P, hne, hd, hP => by
    have h1 := List.pairwise_cons.mp hd
    have gne := hne G (List.mem_cons_self ..)
    obtain ⟨k, hk⟩ : ∃ k, G.2.length = k + 1 := ⟨G.2.length - 1, by have := List.length_pos_iff.mpr gne; omega⟩
    have hl : (flatP (G :: r)).length = 1 + (k + (flatP r).length) := by
      rw [flatP_cons, List.length_append, onG_len, hk]
      omega
    have IH := starts_eq r (P ++ onG G) (fun H hH => hne H (List.mem_cons_of_mem _ hH)) h1.2 (fun q hq H hH => by
      have hq2 : q ∈ onG G := by
        have gn : onG G ≠ [] := fun e => gne (by have := onG_len (G := G); rw [e] at this; exact List.eq_nil_of_length_eq_zero this.symm)
        have ge : (P ++ onG G).getLast? = (onG G).getLast? := by
          rw [List.getLast?_append]
          cases e : (onG G).getLast? with
          | none => exact absurd (List.getLast?_eq_none_iff.mp e) gn
          | some v => rfl
        rw [ge] at hq
        exact List.mem_of_getLast? hq
      rw [onG_fst hq2]
      exact h1.1 H hH)
    rw [List.append_assoc, ← flatP_cons] at IH
    have e1 : (P ++ onG G).length = P.length + 1 + k := by rw [List.length_append, onG_len, hk]; omega
    rw [e1] at IH
    rw [hl, ← List.range'_append_1 (s := P.length) (m := 1) (n := k + (flatP r).length), ← List.range'_append_1 (s := P.length + 1) (m := k) (n := (flatP r).length), List.filter_append, List.filter_append, IH]
    have f1 : (List.range' P.length 1).filter (isSt (P ++ flatP (G :: r))) = [P.length] := by
      have : isSt (P ++ flatP (G :: r)) P.length = true := by
        unfold isSt
        rcases Nat.eq_zero_or_pos P.length with e | e
        · rw [e]; rfl
        · have a : (P ++ flatP (G :: r)).getD P.length (0, 0) ∈ onG G := by
            rw [flatP_cons]
            exact getD_mid (Nat.le_refl _) (by rw [onG_len, hk]; omega)
          have b : P.getLast? = some ((P ++ flatP (G :: r)).getD (P.length - 1) (0, 0)) := by
            rw [List.getLast?_eq_getElem?, List.getD_eq_getElem?_getD, List.getElem?_append_left (by omega), List.getElem?_eq_getElem (by omega)]
            rfl
          have z := hP _ b G (List.mem_cons_self ..)
          have zz : (G.1 ≠ ((P ++ flatP (G :: r)).getD (P.length - 1) (0, 0)).1) := fun e => z e.symm
          rw [onG_fst a, Bool.or_eq_true]
          exact .inr (by rw [decide_eq_true_eq]; exact zz)
      simp [List.range', this]
    have f2 : (List.range' (P.length + 1) k).filter (isSt (P ++ flatP (G :: r))) = [] := by
      refine List.filter_eq_nil_iff.mpr fun x hx => ?_
      obtain ⟨h3, h4⟩ := List.mem_range'_1.mp hx
      have a : (P ++ flatP (G :: r)).getD x (0, 0) ∈ onG G := by
        rw [flatP_cons]
        exact getD_mid (by omega) (by rw [onG_len, hk]; omega)
      have b : (P ++ flatP (G :: r)).getD (x - 1) (0, 0) ∈ onG G := by
        rw [flatP_cons]
        exact getD_mid (by omega) (by rw [onG_len, hk]; omega)
      unfold isSt
      rw [onG_fst a, onG_fst b, decide_eq_false (by omega : ¬ x = 0)]
      simp
    rw [f1, f2]
    show P.length :: ([] ++ stG (P.length + 1 + k) r) = P.length :: stG (P.length + G.2.length) r
    rw [hk, List.nil_append, Nat.add_assoc, Nat.add_comm 1 k]
theorem zip_off : ∀ (Gs : List GN) (o : Nat), (stG o Gs).zip ((stG o Gs).drop 1 ++ [o + (flatP Gs).length]) = offG o Gs
  | [], o => rfl
  | [G], o => by
    show [(o, o + (flatP [G]).length)] = [(o, o + G.2.length)]
    rw [flatP_cons, List.length_append, onG_len]
    rfl
  | G :: G2 :: r, o => by
    have IH := zip_off (G2 :: r) (o + G.2.length)
    have e : o + (flatP (G :: G2 :: r)).length = o + G.2.length + (flatP (G2 :: r)).length := by
      rw [flatP_cons (G := G), List.length_append, onG_len]
      omega
    rw [e]
    show (o, o + G.2.length) :: (stG (o + G.2.length) (G2 :: r)).zip ((stG (o + G.2.length) (G2 :: r)).drop 1 ++ [o + G.2.length + (flatP (G2 :: r)).length]) = _
    rw [IH]
    rfl
/-- what stands at the places -/
theorem off_get : ∀ (Gs : List GN) (P : List PN), (∀ G ∈ Gs, G.2 ≠ []) → (offG P.length Gs).map (fun q => (((P ++ flatP Gs).getD q.1 (0, 0)).1, ((((P ++ flatP Gs).drop q.1).take (q.2 - q.1)).map (·.2)))) = Gs
  | [], P, _ => rfl
  | G :: r, P, hne => by
    have IH := off_get r (P ++ onG G) (fun H hH => hne H (List.mem_cons_of_mem _ hH))
    rw [List.append_assoc, ← flatP_cons, List.length_append, onG_len] at IH
    have gne := hne G (List.mem_cons_self ..)
    have hk : 0 < G.2.length := List.length_pos_iff.mpr gne
    have a : (P ++ flatP (G :: r)).getD P.length (0, 0) ∈ onG G := by
      rw [flatP_cons]
      exact getD_mid (Nat.le_refl _) (by rw [onG_len]; omega)
    have b : (((P ++ flatP (G :: r)).drop P.length).take (P.length + G.2.length - P.length)).map (·.2) = G.2 := by
      rw [List.drop_left, flatP_cons, Nat.add_sub_cancel_left, ← onG_len, List.take_left]
      unfold onG
      rw [List.map_map]
      exact List.map_id _
    show (((P ++ flatP (G :: r)).getD P.length (0, 0)).1, (((P ++ flatP (G :: r)).drop P.length).take (P.length + G.2.length - P.length)).map (·.2)) :: _ = _
    rw [onG_fst a, b]
    congr 1
end K2
set_option Elab.async false
set_option linter.all false
set_option maxRecDepth 100000
set_option maxHeartbeats 4000000
namespace K2
open PySem L2 Vd
open PySem.Spec PyProof.Rows
/-! the walk over data -/
local macro_rules | `(tactic| walk_at "vis") => `(tactic| first | exact Or.inl rfl | exact Or.inr (Or.inl rfl) | exact Or.inr (Or.inr rfl))
local macro_rules | `(tactic| walk_at "none") => `(tactic| first | assumption)
local macro_rules | `(tactic| walk_at "num") => `(tactic| first | decide | omega)
local macro_rules | `(tactic| walk_at "vr") => `(tactic| first
  | exact bo_add | exact bo_sub | exact bo_mulR (by decide) | exact bo_mulL (by decide) | exact bo_mod (by walk_at "num") | exact bo_div (by walk_at "num") (by walk_at "num") | exact bo_pow (by decide) (by decide) (by decide) | exact bo_cat (by walk_at "num") | exact bo_mulR (by omega) | exact bo_mulL (by omega))
local macro_rules | `(tactic| walk_at "vq") => `(tactic| first
  | exact co_lt | exact co_le | exact co_gt | exact co_ge | exact co_eqI | exact co_neI | exact co_eqS | exact co_neS)
local macro_rules | `(tactic| walk_at "vx") => `(tactic| first
  | exact xo_own (by assumption) rfl | exact xo_lst rfl | exact xo_tup rfl)
local macro_rules | `(tactic| walk_at "vf") => `(tactic| first
  | exact fo_abs | exact fo_lenL | exact fo_lenT | exact fo_lenO (by assumption) | exact fo_divmod (by walk_at "num") (by walk_at "num") | exact fo_max rfl | exact fo_min rfl)
local macro_rules | `(tactic| walk_at "vn") => `(tactic| first
  | exact ve_var (i := 0) rfl rfl (by walk_at "vis") | exact ve_var (i := 1) rfl rfl (by walk_at "vis") | exact ve_var (i := 2) rfl rfl (by walk_at "vis") | exact ve_var (i := 3) rfl rfl (by walk_at "vis") | exact ve_var (i := 4) rfl rfl (by walk_at "vis") | exact ve_var (i := 5) rfl rfl (by walk_at "vis") | exact ve_var (i := 6) rfl rfl (by walk_at "vis") | exact ve_var (i := 7) rfl rfl (by walk_at "vis"))
local macro_rules | `(tactic| walk_at "vd") => `(tactic| first
  | exact ve_int | exact ve_bl | exact ve_non | exact ve_str
  | (refine' ve_bin ?ha ?hb ?hr; (case ha => walk_at "vd"); (case hb => walk_at "vd"); (case hr => walk_at "vr"))
  | (refine' ve_sub ?ha ?hb (fun _ _ => rfl) ?hr; (case ha => walk_at "vd"); (case hb => walk_at "vd"); (case hr => walk_at "vx"))
  | (refine' ve_ty (id := "int") ?ha rfl ?hm boot_int ?hr; (case ha => walk_at "va"); (case hm => walk_at "none"); (case hr => exact to_int))
  | (refine' ve_bi ?ha rfl ?hm ?hv ?hr; (case hv => first | exact boot_abs | exact boot_len | exact boot_divmod | exact boot_max | exact boot_min); (case ha => walk_at "va"); (case hm => walk_at "none"); (case hr => walk_at "vf"))
  | (refine' ve_tup ?ha ?hl; (case ha => walk_at "va"); (case hl => walk_at "num"))
  | (refine' ve_lst ?ha ?hl; (case ha => walk_at "va"); (case hl => walk_at "num"))
  | (refine' ve_comp ?ha ?hb ?hr; (case ha => walk_at "vd"); (case hb => walk_at "vd"); (case hr => walk_at "vq"))
  | walk_at "vn")
local macro_rules | `(tactic| walk_at "va") => `(tactic| first | exact va_nil | (refine' va_cons ?ha ?hb; (case ha => walk_at "vd"); (case hb => walk_at "va")))
local macro_rules | `(tactic| walk_at "vt") => `(tactic| first
  | (refine' vt_comp ?ha ?hb ?hr; (case ha => walk_at "vd"); (case hb => walk_at "vd"); (case hr => walk_at "vq"))
  | (refine' vt_val ?hv; case hv => walk_at "vd"))
/-! ### by_remainder -/
abbrev sBr : Stmt := s_by_remainder
theorem scBr : FnScope ["marks", "shared", "pairs", "starts", "ends", "mark", "at", "pair", "start", "end"] ["marks", "shared"] (defScope sBr) := ⟨rfl, rfl, rfl, by decide +kernel, rfl, by decide +kernel, by decide +kernel⟩
def rsL (M : List Nat) (g : Nat) : List Nat := (List.range g).filter fun r => decide (grp M g r ≠ [])
def grL (M : List Nat) (g : Nat) : List GN := (rsL M g).map fun r => (r, grp M g r)
theorem gr_ne {M : List Nat} {g : Nat} : ∀ G ∈ grL M g, G.2 ≠ [] := fun G hG => by
  obtain ⟨r, hr, rfl⟩ := List.mem_map.mp hG
  exact of_decide_eq_true (List.mem_filter.mp hr).2
theorem gr_lt {M : List Nat} {g : Nat} : (grL M g).Pairwise fun G H => G.1 < H.1 := List.pairwise_map.mpr (asc_filter (asc_range g) _)
theorem mem_flat {M : List Nat} {g : Nat} (hg : 0 < g) {p : PN} : p ∈ flatP (grL M g) ↔ p.2 ∈ M ∧ p.2 % g = p.1 := by
  unfold flatP
  rw [List.mem_flatMap]
  constructor
  · rintro ⟨G, hG, hp⟩
    obtain ⟨r, hr, rfl⟩ := List.mem_map.mp hG
    obtain ⟨m, hm, rfl⟩ := List.mem_map.mp hp
    have z := List.mem_filter.mp hm
    exact ⟨z.1, of_decide_eq_true z.2⟩
  · rintro ⟨h1, h2⟩
    have hm : p.2 ∈ grp M g p.1 := List.mem_filter.mpr ⟨h1, decide_eq_true h2⟩
    refine ⟨(p.1, grp M g p.1), List.mem_map.mpr ⟨p.1, List.mem_filter.mpr ⟨List.mem_range.mpr (by rw [← h2]; exact Nat.mod_lt _ hg), decide_eq_true (List.ne_nil_of_mem hm)⟩, rfl⟩, List.mem_map.mpr ⟨p.2, hm, rfl⟩⟩
theorem flat_sorted {M : List Nat} {g : Nat} (a : Per.Asc M) (h60 : ∀ x ∈ M, x < 60) : (flatP (grL M g)).Pairwise fun p q => cdP p < cdP q := by
  refine List.pairwise_flatMap.mpr ⟨fun G hG => ?_, ?_⟩
  · obtain ⟨r, hr, rfl⟩ := List.mem_map.mp hG
    exact List.pairwise_map.mpr ((asc_filter a _ : Per.Asc (grp M g r)).imp fun {x y} h => by show r * 64 + x < r * 64 + y; omega)
  · refine (List.Pairwise.and_mem.mp gr_lt).imp fun {G H} h p hp q hq => ?_
    obtain ⟨hG, hH, lt⟩ := h
    obtain ⟨r, hr, rfl⟩ := List.mem_map.mp hG
    obtain ⟨s, hs, rfl⟩ := List.mem_map.mp hH
    obtain ⟨m, hm, rfl⟩ := List.mem_map.mp hp
    obtain ⟨n, hn, rfl⟩ := List.mem_map.mp hq
    have z := h60 m (List.mem_filter.mp hm).1
    have lt2 : r < s := lt
    show r * 64 + m < s * 64 + n
    omega
theorem flat_perm {M : List Nat} {g : Nat} (hg : 0 < g) (a : Per.Asc M) (h60 : ∀ x ∈ M, x < 60) : (flatP (grL M g)).Perm (M.map fun m => (m % g, m)) := by
  refine (List.perm_ext_iff_of_nodup ((flat_sorted a h60).imp fun {p q} h e => by subst e; exact absurd h (Nat.lt_irrefl _)) ?_).mpr fun p => ?_
  · exact List.pairwise_map.mpr ((asc_nodup a).imp fun {x y} h e => h (congrArg Prod.snd e))
  · rw [mem_flat hg, List.mem_map]
    constructor
    · rintro ⟨h1, h2⟩
      exact ⟨p.2, h1, Prod.ext h2 rfl⟩
    · rintro ⟨m, hm, rfl⟩
      exact ⟨hm, rfl⟩
theorem enum_filt (q : Nat → Bool) (kp : D → Bool) (f : D → D) (hk : ∀ (n : Nat) (d : D), kp (.tup [.int (n : Int), d]) = q n) (hf : ∀ (n : Nat) (d : D), f (.tup [.int (n : Int), d]) = natD n) : ∀ (ds : List D) (n : Nat), ((enumD n ds).filter kp).map f = ((List.range' n ds.length).filter q).map natD
  | [], n => rfl
  | d :: ds, n => by
    have ih := enum_filt q kp f hk hf ds (n + 1)
    show ((D.tup [.int (n : Nat), d] :: enumD (n + 1) ds).filter kp).map f = (((n :: List.range' (n + 1) ds.length)).filter q).map natD
    rw [List.filter_cons, List.filter_cons, hk]
    split
    · rw [List.map_cons, List.map_cons, ih, hf]
    · exact ih
theorem zip_pr : ∀ (l m : List Nat), zipD (l.map natD) (m.map natD) = (l.zip m).map prD
  | [], _ => rfl
  | _ :: _, [] => rfl
  | x :: l, y :: m => by
    show D.tup [natD x, natD y] :: zipD (l.map natD) (m.map natD) = prD (x, y) :: (l.zip m).map prD
    rw [zip_pr l m]
    rfl
def kpB (S : List PN) : D → Bool
  | .tup [.int i, _] => isSt S i.toNat
  | _ => false
def fstB : D → D
  | .tup [x, _] => x
  | _ => .non
def keyB (S : List PN) : D → Int
  | .tup [.int o, _] => ((S.getD o.toNat (0, 0)).1 : Int)
  | _ => 0
def sndB (S : List PN) : D → D
  | .tup [.int o, .int e] => .tup ((((S.drop o.toNat).take (e.toNat - o.toNat)).map (·.2)).map natD)
  | _ => .non
theorem cut_all {l : List D} (c : Nat) : Vd.cutD l (some (c : Int)) none = l.drop c := by
  by_cases h : c ≤ l.length
  · exact cut_from h
  · unfold Vd.cutD
    rw [HT.sIx_nat, HT.sIx_none, Nat.min_eq_right (by omega), List.drop_length, List.take_nil, List.drop_of_length_le (by omega)]
theorem cut_mid {l : List D} {a b : Nat} (h : a ≤ l.length) (h2 : b ≤ l.length) : Vd.cutD l (some (a : Int)) (some (b : Int)) = (l.drop a).take (b - a) := by
  unfold Vd.cutD
  rw [HT.sIx_nat, HT.sIx_nat, Nat.min_eq_left h, Nat.min_eq_left h2]
theorem off_lt : ∀ (Gs : List GN) (o : Nat), (∀ G ∈ Gs, G.2 ≠ []) → ∀ q ∈ offG o Gs, q.1 < o + (flatP Gs).length ∧ q.2 ≤ o + (flatP Gs).length
  | [], _, _, q, hq => by cases hq
  | G :: r, o, hne, q, hq => by
    have hk : 0 < G.2.length := List.length_pos_iff.mpr (hne G (List.mem_cons_self ..))
    have e : (flatP (G :: r)).length = G.2.length + (flatP r).length := by rw [flatP_cons, List.length_append, onG_len]
    rw [e]
    rcases List.mem_cons.mp hq with h | h
    · rw [h]
      exact ⟨by show o < _; omega, by show o + G.2.length ≤ _; omega⟩
    · have z := off_lt r (o + G.2.length) (fun H hH => hne H (List.mem_cons_of_mem _ hH)) q h
      omega
theorem val_at {f : Nat → D} {r0 : Nat} : ∀ rs : List Nat, valD (rs.map fun (r : Nat) => ((.inl (r : Int) : Key), f r)) (.inl (r0 : Int)) = if r0 ∈ rs then some (f r0) else none
  | [] => by simp [valD]
  | r :: rs => by
    have ih := val_at (f := f) (r0 := r0) rs
    unfold valD at ih ⊢
    by_cases h : r = r0
    · subst h
      simp
    · have h2 : ¬ ((r : Int) = (r0 : Int)) := by omega
      rw [List.map_cons, List.find?_cons_of_neg (by simpa using h2), ih]
      have : (r0 ∈ r :: rs) ↔ r0 ∈ rs := by
        rw [List.mem_cons]
        exact ⟨fun z => z.elim (fun e => absurd e.symm h) id, .inr⟩
      simp only [this]
theorem br_val {M : List Nat} {g : Nat} (hg : 0 < g) (r : Nat) : (valD ((grL M g).map fun G => ((.inl (G.1 : Int) : Key), D.tup (G.2.map natD))) (.inl (r : Int))).getD (.tup []) = .tup ((grp M g r).map natD) := by
  have e : (grL M g).map (fun G => ((.inl (G.1 : Int) : Key), D.tup (G.2.map natD))) = (rsL M g).map fun (r : Nat) => ((.inl (r : Int) : Key), D.tup ((grp M g r).map natD)) := by
    unfold grL
    rw [List.map_map]
    rfl
  rw [e, val_at (f := fun r => D.tup ((grp M g r).map natD))]
  by_cases h : r ∈ rsL M g
  · rw [if_pos h]
    rfl
  · rw [if_neg h]
    have : grp M g r = [] := by
      by_cases q : grp M g r = []
      · exact q
      · exfalso
        obtain ⟨m, hm⟩ := List.exists_mem_of_ne_nil _ q
        have z := of_decide_eq_true (List.mem_filter.mp hm).2
        exact h (List.mem_filter.mpr ⟨List.mem_range.mpr (by rw [← z]; exact Nat.mod_lt _ hg), decide_eq_true q⟩)
    rw [this]
    rfl
def dcS : Scope := { kind := .function, names := [(".0", .local), ("start", .local), ("end", .local), ("tuple", .globalImplicit), ("pairs", .cell)], isGenerator := false, isCoroutine := false }
section
variable {γ : Gds} {P : Program} {w : World} {K : PySem.W.Frag} {mg : Str → Option Value} {base : Heap}
theorem ok_byrem {f : Addr} {fd : FuncData} (Fn : Fun K "by_remainder" "by_remainder" sBr f fd) (mS : mg "sorted" = none) (mE : mg "enumerate" = none) (mL : mg "len" = none) (mZ : mg "zip" = none) (mT : mg "tuple" = none) : FnG γ P w K mg base CX0 1 f fd ["marks", "shared"] (spE K GBr RBr) := by
  refine okE Fn scBr (fun ds ⟨M, g, e, _⟩ => by rw [e]; rfl) fun cdv A0 outer s H Bh ow ds Q E hgd hrm hG kQ => ?_
  obtain ⟨M, g, rfl, asc, h60, hg⟩ := hG
  have hMl := asc_le asc h60
  obtain ⟨S, hS⟩ : ∃ S, S = flatP (grL M g) := ⟨_, rfl⟩
  have hperm := flat_perm hg asc h60
  have hsort := flat_sorted (g := g) asc h60
  rw [← hS] at hperm hsort
  have hSl : S.length = M.length := by rw [hperm.length_eq, List.length_map]
  refine' rn_set (i := 2) (d := .lst (S.map prD)) scBr.nd rfl (by first | exact .inl rfl | exact .inr rfl) ?h1 ?k1
  case h1 =>
    refine ve_bi (va_cons (ve_is (ve_lc (j := 5) (fun _ => true) (fun d => match d with | .int m => prD (m.toNat % g, m.toNat) | _ => .non) (ds := M.map natD) rfl scBr.nd (vi_tup (ve_var (i := 0) rfl rfl (by walk_at "vis"))) (blkOk_by (N := ["marks", "shared", "pairs", "starts", "ends", "mark", "at", "pair", "start", "end"]) (sc := defScope sBr) (by decide +kernel)) (by rw [List.length_map]; omega) (fun _ _ _ _ _ => pg_name (i := 5) scBr.nd rfl (.inl rfl)) (fun d ow' _ _ s0 H0 C0 cl fp => vts_nil) ?he) ?eq) va_nil) rfl mS boot_sorted (fo_sortP (L := M.map fun m => (m % g, m)) (by rw [List.length_map]; omega) (fun p hp => ?bd) hperm (hsort.imp fun h => Nat.le_of_lt h))
    case he =>
      intro d ow' hd _ sub s0 H0 C0 cl fp
      obtain ⟨m, hm, rfl⟩ := List.mem_map.mp hd
      have hmod : (m : Int) % (g : Int) = ((m % g : Nat) : Int) := (Int.natCast_emod m g).symm
      exact ve_is (ve_tup (va_cons (ve_is (ve_bin (ve_var (d := natD m) (i := 5) rfl rfl (by walk_at "vis")) (ve_var (d := natD g) (i := 1) rfl rfl (by walk_at "vis")) (bo_mod (by omega))) (by rw [hmod])) (va_cons (ve_var (d := natD m) (i := 5) rfl rfl (by walk_at "vis")) va_nil)) (by show 2 ≤ 100000; decide)) (by rfl)
    case eq =>
      rw [List.filter_eq_self.mpr (fun _ _ => rfl), List.map_map, List.map_map]
      rfl
    case bd =>
      obtain ⟨m, hm, rfl⟩ := List.mem_map.mp hp
      have z := h60 m hm
      have y := Nat.mod_le m g
      exact ⟨by show m % g < 64; omega, by show m < 64; omega⟩
  case k1 =>
  intro B1 e1
  refine' rn_setLcP (j := 6) (j1 := 7) (i := 3) (ds := enumD 0 (S.map prD)) (kpB S) fstB rfl scBr.nd rfl rfl (sw_true rfl rfl rfl (by decide +kernel)) (vi_enum rfl mE (ve_var (d := .lst (S.map prD)) (i := 2) rfl rfl (by walk_at "vis"))) (blkOk_by (N := ["marks", "shared", "pairs", "starts", "ends", "mark", "at", "pair", "start", "end"]) (sc := defScope sBr) (by decide +kernel)) (by rw [enumD_len, List.length_map]; omega) (by decide) ?hp ?hg ?ht ?he2 ?k2
  case hp =>
    intro d hd
    obtain ⟨i, hi⟩ := List.getElem?_of_mem hd
    obtain ⟨d', _, rfl⟩ := enumD_get hi
    exact ⟨_, _, rfl⟩
  case hg => exact fun _ _ _ _ _ => pg_tup rfl (pgs_cons (pg_name (i := 6) scBr.nd rfl (.inl rfl)) (pgs_cons (pg_name (i := 7) scBr.nd rfl (.inl rfl)) pgs_nil))
  case ht =>
    intro d ow' hd sub s0 H0 C0 cl fp
    obtain ⟨i, hi⟩ := List.getElem?_of_mem hd
    obtain ⟨d', hd', rfl⟩ := enumD_get hi
    have hlt : i < S.length := by
      have := (List.getElem?_eq_some_iff.mp hd').1
      rw [List.length_map] at this
      exact this
    have e1 : d' = prD S[i] := by
      rw [List.getElem?_map, List.getElem?_eq_getElem hlt] at hd'
      exact (Option.some.inj hd').symm
    subst e1
    have e0 : ((0 + i : Nat) : Int) = (i : Int) := by omega
    rw [e0]
    have gd0 : S.getD i (0, 0) = S[i] := by rw [List.getD_eq_getElem?_getD, List.getElem?_eq_getElem hlt]; rfl
    refine vts_one (vt_is (vt_w (vw_or (t := decide (i = 0)) (vt_is (vt_comp (ve_var (d := natD i) (i := 6) rfl rfl (by walk_at "vis")) ve_int co_eqI) (by rw [decide_eq_decide]; omega)) (u := decide (S[i].1 ≠ (S.getD (i - 1) (0, 0)).1)) (fun hz => ?_) (pw_all_or _ _))) ?_)
    · have ne : i ≠ 0 := of_decide_eq_false hz
      have hl1 : i - 1 < S.length := by omega
      have gd1 : S.getD (i - 1) (0, 0) = S[i - 1] := by rw [List.getD_eq_getElem?_getD, List.getElem?_eq_getElem hl1]; rfl
      have at1 : L2.atI (S.map prD) ((i : Int) - 1) = some (prD S[i - 1]) := by
        have e : (i : Int) - 1 = ((i - 1 : Nat) : Int) := by omega
        rw [e, atI_nat (by rw [List.length_map]; exact hl1), List.getElem_map]
      refine vw_or1 (vt_is (vt_comp (ve_sub (ve_var (d := prD S[i]) (i := 7) rfl rfl (by walk_at "vis")) ve_int (fun _ _ => rfl) (xo_tup (d := .int (S[i].1 : Int)) rfl)) (ve_sub (ve_sub (ve_var (d := .lst (S.map prD)) (i := 2) rfl rfl (by walk_at "vis")) (ve_bin (ve_var (d := natD i) (i := 6) rfl rfl (by walk_at "vis")) ve_int bo_sub) (fun _ _ => rfl) (xo_lst at1)) ve_int (fun _ _ => rfl) (xo_tup (d := .int (S[i - 1].1 : Int)) rfl)) co_neI) ?_)
      rw [gd1]
      by_cases h : S[i].1 = S[i - 1].1
      · simp [h]
      · have h2 : ¬ ((S[i].1 : Int) = (S[i - 1].1 : Int)) := by omega
        simp [h, h2]
    · show _ = isSt S ((i : Int)).toNat
      rw [Int.toNat_natCast]
      unfold isSt
      rw [gd0]
  case he2 =>
    intro d ow' hd _ sub s0 H0 C0 cl fp
    obtain ⟨i, hi⟩ := List.getElem?_of_mem hd
    obtain ⟨d', hd', rfl⟩ := enumD_get hi
    exact ve_var (i := 6) rfl rfl (by walk_at "vis")
  case k2 =>
  intro B2 e2
  have eSt : ((enumD 0 (S.map prD)).filter (kpB S)).map fstB = (stG 0 (grL M g)).map natD := by
    rw [enum_filt (isSt S) (kpB S) fstB (fun n d => by show isSt S ((n : Int)).toNat = _; rw [Int.toNat_natCast]) (fun n d => rfl), List.length_map]
    have z := starts_eq (grL M g) [] gr_ne (gr_lt.imp fun h => Nat.ne_of_lt h) (fun q hq => by cases hq)
    rw [List.nil_append, ← hS] at z
    exact congrArg _ z
  rw [eSt]
  have sl : (stG 0 (grL M g)).length ≤ 60 := by
    have : ∀ (Gs : List GN) (o : Nat), (∀ G ∈ Gs, G.2 ≠ []) → (stG o Gs).length ≤ (flatP Gs).length := by
      intro Gs
      induction Gs with
      | nil => intro o _; exact Nat.le_refl _
      | cons G r ih =>
        intro o hne
        have hk : 0 < G.2.length := List.length_pos_iff.mpr (hne G (List.mem_cons_self ..))
        have z := ih (o + G.2.length) (fun H hH => hne H (List.mem_cons_of_mem _ hH))
        rw [flatP_cons, List.length_append, onG_len]
        show (stG (o + G.2.length) r).length + 1 ≤ _
        omega
    have z := this (grL M g) 0 gr_ne
    rw [← hS] at z
    omega
  refine' rn_set (i := 4) (d := .lst (((stG 0 (grL M g)).drop 1 ++ [S.length]).map natD)) scBr.nd rfl (by first | exact .inl rfl | exact .inr rfl) ?h3 ?k3
  case h3 =>
    refine ve_is (ve_bin (ve_sliceL (ve_var (d := .lst ((stG 0 (grL M g)).map natD)) (i := 3) rfl rfl (by walk_at "vis")) (vp_some ve_int) vp_none) (ve_lst (va_cons (ve_bi (va_cons (ve_var (d := .lst (S.map prD)) (i := 2) rfl rfl (by walk_at "vis")) va_nil) rfl mL boot_len fo_lenL) va_nil) (by show 1 ≤ 100000; decide)) (bo_cat ?lc)) ?le
    case lc =>
      rw [show (1 : Int) = ((1 : Nat) : Int) from rfl, cut_all, List.length_drop, List.length_map]
      show _ + 1 ≤ _
      omega
    case le =>
      rw [show (1 : Int) = ((1 : Nat) : Int) from rfl, cut_all, List.length_map, List.map_append, List.map_drop]
      rfl
  case k3 =>
  intro B3 e3
  have hoff := off_get (grL M g) [] gr_ne
  rw [List.nil_append, ← hS] at hoff
  have hlt := off_lt (grL M g) 0 gr_ne
  rw [← hS, Nat.zero_add] at hlt
  have hzip : zipD ((stG 0 (grL M g)).map natD) (((stG 0 (grL M g)).drop 1 ++ [S.length]).map natD) = (offG 0 (grL M g)).map prD := by
    have z := zip_off (grL M g) 0
    rw [← hS, Nat.zero_add] at z
    rw [zip_pr, z]
  have hkeys : (offG 0 (grL M g)).map (fun q => ((S.getD q.1 (0, 0)).1 : Int)) = (grL M g).map fun G => (G.1 : Int) := by
    conv => rhs; rw [← hoff]
    rw [List.map_map]
    rfl
  have hlst : ((offG 0 (grL M g)).map prD).map (fun d => ((.inl (keyB S d) : Key), sndB S d)) = (grL M g).map fun G => ((.inl (G.1 : Int) : Key), D.tup (G.2.map natD)) := by
    conv => rhs; rw [← hoff]
    rw [List.map_map, List.map_map]
    refine List.map_congr_left fun q _ => ?_
    show ((.inl ((S.getD ((q.1 : Int)).toNat (0, 0)).1 : Int) : Key), D.tup ((((S.drop ((q.1 : Int)).toNat).take (((q.2 : Int)).toNat - ((q.1 : Int)).toNat)).map (·.2)).map natD)) = _
    rw [Int.toNat_natCast, Int.toNat_natCast]
    rfl
  refine' rn_ret (d := .dct ((grL M g).map fun G => ((.inl (G.1 : Int) : Key), D.tup (G.2.map natD)))) ?h4 ((kQ _ ?prop).ex (e1.trans (e2.trans e3)))
  case prop =>
    intro M2 g2 e
    injection e with a1 a2
    injection a2 with a3 _
    injection a1 with a4
    have hM2 : M2 = M := by
      have := natD_inj a4
      exact this.symm
    have hg2 : g2 = g := by
      injection a3 with a5
      omega
    subst hM2
    subst hg2
    exact ⟨_, rfl, fun r => br_val hg r⟩
  case h4 =>
    refine ve_is (ve_dcP (j := 8) (j1 := 9) (ds := (offG 0 (grL M g)).map prD) (keyB S) (sndB S) rfl scBr.nd ?vi (blkOk_by (N := ["marks", "shared", "pairs", "starts", "ends", "mark", "at", "pair", "start", "end"]) (sc := defScope sBr) (by decide +kernel)) ?ln (by decide) ?pp ?nd2 (fun _ _ _ _ _ => pg_tup rfl (pgs_cons (pg_name (i := 8) scBr.nd rfl (by first | exact .inl rfl | exact .inr rfl)) (pgs_cons (pg_name (i := 9) scBr.nd rfl (by first | exact .inl rfl | exact .inr rfl)) pgs_nil))) ?hk3 ?he3) (by rw [hlst])
    case vi =>
      rw [← hzip]
      exact vi_zip rfl mZ (ve_var (d := .lst ((stG 0 (grL M g)).map natD)) (i := 3) rfl rfl (by walk_at "vis")) (ve_var (d := .lst (((stG 0 (grL M g)).drop 1 ++ [S.length]).map natD)) (i := 4) rfl rfl (by walk_at "vis"))
    case ln =>
      rw [List.length_map]
      have z := congrArg List.length hzip
      rw [zipD_len, List.length_map, List.length_map, List.length_map] at z
      omega
    case pp =>
      intro d hd
      obtain ⟨q, _, rfl⟩ := List.mem_map.mp hd
      exact ⟨_, _, rfl⟩
    case nd2 =>
      have e : ((offG 0 (grL M g)).map prD).map (keyB S) = (grL M g).map fun G => (G.1 : Int) := by
        rw [← hkeys, List.map_map]
        refine List.map_congr_left fun q _ => ?_
        show ((S.getD ((q.1 : Int)).toNat (0, 0)).1 : Int) = _
        rw [Int.toNat_natCast]
      rw [e]
      exact List.pairwise_map.mpr (gr_lt.imp fun {G H} h e => by
        have lt : G.1 < H.1 := h
        have e2 : (G.1 : Int) = (H.1 : Int) := e
        omega)
    case hk3 =>
      intro d ow' hd sub s0 H0 C0 cl fp
      obtain ⟨q, hq, rfl⟩ := List.mem_map.mp hd
      obtain ⟨z1, z2⟩ := hlt q hq
      have gd1 : S.getD q.1 (0, 0) = S[q.1] := by rw [List.getD_eq_getElem?_getD, List.getElem?_eq_getElem z1]; rfl
      refine ve_is (ve_sub (ve_sub (ve_var (d := .lst (S.map prD)) (i := 2) rfl rfl (by walk_at "vis")) (ve_var (d := natD q.1) (i := 8) rfl rfl (by walk_at "vis")) (fun _ _ => rfl) (xo_lst (d := prD S[q.1]) (by rw [atI_nat (by rw [List.length_map]; exact z1), List.getElem_map]))) ve_int (fun _ _ => rfl) (xo_tup (d := .int (S[q.1].1 : Int)) rfl)) ?_
      show D.int _ = D.int ((S.getD ((q.1 : Int)).toNat (0, 0)).1 : Int)
      rw [Int.toNat_natCast, gd1]
    case he3 =>
      intro d ow' hd sub s0 H0 C0 cl fp
      obtain ⟨q, hq, rfl⟩ := List.mem_map.mp hd
      obtain ⟨z1, z2⟩ := hlt q hq
      have hcut : Vd.cutD (S.map prD) (some (q.1 : Int)) (some (q.2 : Int)) = ((S.drop q.1).take (q.2 - q.1)).map prD := by
        rw [cut_mid (by rw [List.length_map]; omega) (by rw [List.length_map]; exact z2), ← List.map_drop, ← List.map_take]
      refine ve_is (ve_ty (id := "tuple") (va_cons (ve_lc (j := 7) (fun _ => true) (fun d => match d with | .tup [_, y] => y | _ => .non) (ds := ((S.drop q.1).take (q.2 - q.1)).map prD) rfl scBr.nd (vi_list (ve_is (ve_sliceL (ve_var (d := .lst (S.map prD)) (i := 2) rfl rfl (by walk_at "vis")) (vp_some (ve_var (d := natD q.1) (i := 8) rfl rfl (by walk_at "vis"))) (vp_some (ve_var (d := natD q.2) (i := 9) rfl rfl (by walk_at "vis")))) (by rw [hcut]))) (blkOk_by (N := ["marks", "shared", "pairs", "starts", "ends", "mark", "at", "pair", "start", "end"]) (sc := dcS) (by decide +kernel)) ?ln4 (fun _ _ _ _ _ => pg_name (i := 7) scBr.nd rfl (.inl rfl)) (fun d ow' _ _ s0 H0 C0 cl fp => vts_nil) ?he4) va_nil) rfl mT boot_tuple to_tupL) ?eq4
      case ln4 =>
        rw [List.length_map, List.length_take, List.length_drop]
        omega
      case he4 =>
        intro d ow'' hd2 _ sub2 s1 H1 C1 cl1 fp1
        obtain ⟨p, hp, rfl⟩ := List.mem_map.mp hd2
        exact ve_sub (ve_var (d := prD p) (i := 7) rfl rfl (by walk_at "vis")) ve_int (fun _ _ => rfl) (xo_tup rfl)
      case eq4 =>
        show D.tup _ = D.tup ((((S.drop ((q.1 : Int)).toNat).take (((q.2 : Int)).toNat - ((q.1 : Int)).toNat)).map (·.2)).map natD)
        rw [Int.toNat_natCast, Int.toNat_natCast, List.filter_eq_self.mpr (fun _ _ => rfl), List.map_map, List.map_map]
        rfl
end
end K2
set_option Elab.async false
set_option linter.all false
set_option maxRecDepth 100000
set_option maxHeartbeats 4000000
/-! a, b = e1, e2 where both sides may change what is owned; a, b, c = e1, e2, e3. -/
namespace Vd
open PySem L2
open PySem.Spec PyProof.Rows
section
variable {X : Cx} {B : Hp} {env : List (Option D)} {ow : Ow} {a b c : Expr} {d1 d2 d3 : D} {pos : Pos} {Dn : Ends} {rest : List Stmt}
theorem rn_parM {x y : Str} {px py p1 p2 : Pos} {k1 k2 i j : Nat} {P1 : D → Ow → Prop} {P2 : D → D → Ow → Prop} (hc : X.calm = true) (hN : X.N.Nodup) (hi : X.N[i]? = some x) (hj : X.N[j]? = some y) (hij : i ≠ j) (hx : X.env.scope.names.lookup x = some .local) (hy : X.env.scope.names.lookup y = some .local)
    (h1 : Vm X a env ow P1) (h2 : ∀ d1 ow2, P1 d1 ow2 → Vm X b env ow2 (P2 d1)) (k : ∀ B' d1 d2 ow3, Ex B B' → P2 d1 d2 ow3 → Rn X B' rest Dn ((env.set i (some d1)).set j (some d2)) ow3)
    (hw : swappedStores [.Tuple [.Name x px, .Name y py] k1 p1] (.Tuple [a, b] k2 p2) X.env = pure (some [x, y])) (hst : starEach [a, b] X.env = (false, eval a X.env) :: starEach [b] X.env := by rfl) (hst2 : starEach [b] X.env = (false, eval b X.env) :: starEach [] X.env := by rfl)
    (hs : swapsWithSole [.Tuple [.Name x px, .Name y py] k1 p1] (.Tuple [a, b] k2 p2) pos.line X.env = pure false := by rfl) :
    Rn X B (.Assign [.Tuple [.Name x px, .Name y py] k1 p1] (.Tuple [a, b] k2 p2) pos :: rest) Dn env ow := rn_one ⟨_, ps_par hc hN hi hj hij hx hy (pa_cons pe_can (pa_cons pe_can pa_nil hst2) hst) hw hs, fun σ F H eB s w =>
  h1 σ F H _ s w fun F1 H1 v dv ow1 e1 w1 r1 hp1 => h2 dv ow1 hp1 σ F1 H1 _ (s.mono e1) w1 fun F2 H2 u du ow2 e2 w2 r2 hp2 => ⟨_, _, rfl, k F2 dv du ow2 (eB.trans (e1.trans e2)) hp2 _ F2 H2 (Evl.Ex.refl F2) (((s.mono (e1.trans e2)).set (r1.mono e2) i).set r2 j) w2⟩⟩
theorem rn_par3 {x y z : Str} {px py pz p1 p2 : Pos} {k1 k2 i j l : Nat} (hc : X.calm = true) (hN : X.N.Nodup) (hi : X.N[i]? = some x) (hj : X.N[j]? = some y) (hl : X.N[l]? = some z) (hij : i ≠ j) (hil : i ≠ l) (hjl : j ≠ l) (hx : X.env.scope.names.lookup x = some .local) (hy : X.env.scope.names.lookup y = some .local) (hz : X.env.scope.names.lookup z = some .local)
    (h1 : Ve X a env ow d1) (h2 : Ve X b env ow d2) (h3 : Ve X c env ow d3) (k : ∀ B', Ex B B' → Rn X B' rest Dn (((env.set i (some d1)).set j (some d2)).set l (some d3)) ow)
    (hw : swappedStores [.Tuple [.Name x px, .Name y py, .Name z pz] k1 p1] (.Tuple [a, b, c] k2 p2) X.env = pure (some [x, y, z])) (hst : starEach [a, b, c] X.env = (false, eval a X.env) :: starEach [b, c] X.env := by rfl) (hst2 : starEach [b, c] X.env = (false, eval b X.env) :: starEach [c] X.env := by rfl) (hst3 : starEach [c] X.env = (false, eval c X.env) :: starEach [] X.env := by rfl)
    (hs : swapsWithSole [.Tuple [.Name x px, .Name y py, .Name z pz] k1 p1] (.Tuple [a, b, c] k2 p2) pos.line X.env = pure false := by rfl) :
    Rn X B (.Assign [.Tuple [.Name x px, .Name y py, .Name z pz] k1 p1] (.Tuple [a, b, c] k2 p2) pos :: rest) Dn env ow := rn_one ⟨_, ps_par3 hc hN hi hj hl hij hil hjl hx hy hz (pa_cons pe_can (pa_cons pe_can (pa_cons pe_can pa_nil hst3) hst2) hst) hw hs, fun σ F H eB s w =>
  h1 σ F H _ s w fun F1 H1 v1 e1 w1 r1 => h2 σ F1 H1 _ (s.mono e1) w1 fun F2 H2 v2 e2 w2 r2 => h3 σ F2 H2 _ (s.mono (e1.trans e2)) w2 fun F3 H3 v3 e3 w3 r3 => ⟨_, _, _, rfl, k F3 (eB.trans (e1.trans (e2.trans e3))) _ F3 H3 (Evl.Ex.refl F3) ((((s.mono (e1.trans (e2.trans e3))).set (r1.mono (e2.trans e3)) i).set (r2.mono e3) j).set r3 l) w3⟩⟩
end
theorem rn_asgM {X : Cx} {B : Hp} {rest : List Stmt} {Dn : Ends} {env : List (Option D)} {ow : Ow} {e tg : Expr} {pos : Pos} {g : TG} {P : D → Ow → Prop} (hg : PG X tg g) (h : Vm X e env ow P) (k : ∀ d ow2, P d ow2 → ∃ f, Gd X.K ow2 g d f ∧ ∀ B', Ex B B' → Rn X B' rest Dn (f env) ow2) (hs : swapsWithSole [tg] e pos.line X.env = pure false := by rfl) (hw : swappedStores [tg] e X.env = pure none := by rfl)
    (h1 : (assignEach [tg] X.env).map (·.2) = [assign tg X.env] := by rfl) : Rn X B (.Assign [tg] e pos :: rest) Dn env ow := rn_one ⟨_, ps_asg pe_can hg hs hw h1, fun σ F H eB s w => h σ F H _ s w fun F1 H1 v d ow2 e1 w1 r1 hp => by
  obtain ⟨f, hgd, k0⟩ := k d ow2 hp
  exact hgd env σ F1 H1 v _ (s.mono e1) w1 r1 fun σ2 s2 => k0 F1 (eB.trans e1) _ F1 H1 (Evl.Ex.refl F1) s2 w1⟩
end Vd
set_option Elab.async false
set_option linter.all false
set_option maxRecDepth 100000
set_option maxHeartbeats 4000000
namespace K2
open PySem L2 Vd
open PySem.Spec PyProof.Rows
/-! the walk over data -/
local macro_rules | `(tactic| walk_at "vis") => `(tactic| first | exact Or.inl rfl | exact Or.inr (Or.inl rfl) | exact Or.inr (Or.inr rfl))
local macro_rules | `(tactic| walk_at "none") => `(tactic| first | assumption)
local macro_rules | `(tactic| walk_at "num") => `(tactic| first | decide | omega)
local macro_rules | `(tactic| walk_at "vr") => `(tactic| first
  | exact bo_add | exact bo_sub | exact bo_mulR (by decide) | exact bo_mulL (by decide) | exact bo_mod (by walk_at "num") | exact bo_div (by walk_at "num") (by walk_at "num") | exact bo_pow (by decide) (by decide) (by decide) | exact bo_cat (by walk_at "num") | exact bo_mulR (by omega) | exact bo_mulL (by omega))
local macro_rules | `(tactic| walk_at "vq") => `(tactic| first
  | exact co_lt | exact co_le | exact co_gt | exact co_ge | exact co_eqI | exact co_neI | exact co_eqS | exact co_neS)
local macro_rules | `(tactic| walk_at "vx") => `(tactic| first
  | exact xo_own (by assumption) rfl | exact xo_lst rfl | exact xo_tup rfl)
local macro_rules | `(tactic| walk_at "vf") => `(tactic| first
  | exact fo_abs | exact fo_lenL | exact fo_lenT | exact fo_lenO (by assumption) | exact fo_divmod (by walk_at "num") (by walk_at "num") | exact fo_max rfl | exact fo_min rfl)
local macro_rules | `(tactic| walk_at "vn") => `(tactic| first
  | exact ve_var (i := 0) rfl rfl (by walk_at "vis") | exact ve_var (i := 1) rfl rfl (by walk_at "vis") | exact ve_var (i := 2) rfl rfl (by walk_at "vis") | exact ve_var (i := 3) rfl rfl (by walk_at "vis") | exact ve_var (i := 4) rfl rfl (by walk_at "vis") | exact ve_var (i := 5) rfl rfl (by walk_at "vis") | exact ve_var (i := 6) rfl rfl (by walk_at "vis") | exact ve_var (i := 7) rfl rfl (by walk_at "vis"))
local macro_rules | `(tactic| walk_at "vd") => `(tactic| first
  | exact ve_int | exact ve_bl | exact ve_non | exact ve_str
  | (refine' ve_bin ?ha ?hb ?hr; (case ha => walk_at "vd"); (case hb => walk_at "vd"); (case hr => walk_at "vr"))
  | (refine' ve_sub ?ha ?hb (fun _ _ => rfl) ?hr; (case ha => walk_at "vd"); (case hb => walk_at "vd"); (case hr => walk_at "vx"))
  | (refine' ve_ty (id := "int") ?ha rfl ?hm boot_int ?hr; (case ha => walk_at "va"); (case hm => walk_at "none"); (case hr => exact to_int))
  | (refine' ve_bi ?ha rfl ?hm ?hv ?hr; (case hv => first | exact boot_abs | exact boot_len | exact boot_divmod | exact boot_max | exact boot_min); (case ha => walk_at "va"); (case hm => walk_at "none"); (case hr => walk_at "vf"))
  | (refine' ve_tup ?ha ?hl; (case ha => walk_at "va"); (case hl => walk_at "num"))
  | (refine' ve_lst ?ha ?hl; (case ha => walk_at "va"); (case hl => walk_at "num"))
  | (refine' ve_comp ?ha ?hb ?hr; (case ha => walk_at "vd"); (case hb => walk_at "vd"); (case hr => walk_at "vq"))
  | walk_at "vn")
local macro_rules | `(tactic| walk_at "va") => `(tactic| first | exact va_nil | (refine' va_cons ?ha ?hb; (case ha => walk_at "vd"); (case hb => walk_at "va")))
local macro_rules | `(tactic| walk_at "vt") => `(tactic| first
  | (refine' vt_comp ?ha ?hb ?hr; (case ha => walk_at "vd"); (case hb => walk_at "vd"); (case hr => walk_at "vq"))
  | (refine' vt_val ?hv; case hv => walk_at "vd"))
/-! ### results of the operators -/
structure Tld (ns A : List Nat) (a : Nat) : Prop where
  asc : Per.Asc ns
  lst : Per.Lst a A a A
theorem Tld.nil : Tld [] [] 1 := ⟨List.Pairwise.nil, ⟨⟨by decide, List.Pairwise.nil, (fun x hx => by cases hx)⟩, rfl, fun m hm _ => hm⟩⟩
theorem inT_no (x : Nat) : inT [] 1 [] x = false := by
  unfold inT Per.fn
  simp
theorem Tld.same {ns ms A B : List Nat} {a b : Nat} (p : Tld ns A a) (q : Tld ms B b) (h : ∀ x, inT ns a A x = inT ms b B x) : decide (a = b ∧ A = B ∧ ns = ms) = true := by
  obtain ⟨h1, h2, h3⟩ := canon p.asc q.asc p.lst q.lst h
  exact decide_eq_true ⟨h2, h3, h1⟩
/-- what an operator gives -/
theorem op_ex {C : Addr} {lim : Nat} {pt : Nat → List Nat → Nat → List Nat → Nat × List Nat} {op : Bool → Bool → Bool} (hpat : ∀ {a b : Nat} {A B : List Nat}, Per.Pat a A → Per.Pat b B → Per.Pat (pt a A b B).1 (pt a A b B).2) (hfn : ∀ {a b : Nat} {A B : List Nat}, Per.Pat a A → Per.Pat b B → ∀ x, Per.fn (pt a A b B).1 (pt a A b B).2 x = op (Per.fn a A x) (Per.fn b B x)) (hdv : ∀ {a b : Nat} {A B : List Nat}, (pt a A b B).1 ∣ Nat.lcm a b)
    {ns ms A B : List Nat} {a b : Nat} (p : Tld ns A a) (q : Tld ms B b) (hl : Nat.lcm a b ≤ 100000) (hb : b ≤ lim) (hn : ns.length + ms.length ≤ 60) :
    ∃ (ks Cc : List Nat) (c : Nat), Tld ks Cc c ∧ (∀ x, inT ks c Cc x = op (inT ns a A x) (inT ms b B x)) ∧ ks.length ≤ ns.length + ms.length ∧ c ∣ Nat.lcm a b ∧ ROp C lim pt op [.ins C (tmD ns a A), .ins C (tmD ms b B)] (.ins C (tmD ks c Cc)) := by
  obtain ⟨ks, hk⟩ := both_ex ns ms p.asc
  have pa := p.lst.pat
  have pb := q.lst.pat
  have pp := hpat pa pb
  obtain ⟨c, Cc, hL⟩ := exists_lst _ _ pp
  refine ⟨exL ks (ks.filter fun x => op (inT ns a A x) (inT ms b B x)) (pt a A b B).1 (pt a A b B).2, Cc, c, ⟨asc_filter hk.1 _, Lst.self hL⟩, fun x => ?_, ?_, Nat.dvd_trans (lst_dvd pp hL) hdv, ns, ms, ks, A, B, Cc, a, b, c, rfl, p.asc, q.asc, pa, pb, hl, hb, hn, hk, hL, rfl⟩
  · rw [← sem_join (A := A) (B := B) op hk (hfn pa pb) x, inT_lst hL]
  · exact Nat.le_trans (List.length_filter_le _ _) hk.len
theorem dv_an {a b : Nat} {A B : List Nat} : (anP a A b B).1 ∣ Nat.lcm a b := Nat.dvd_refl _
theorem dv_lo {a b : Nat} {A B : List Nat} : (loP a A b B).1 ∣ Nat.lcm a b := Nat.dvd_refl _
theorem dv_or {a b : Nat} {A B : List Nat} : (orP a A b B).1 ∣ Nat.lcm a b := by
  unfold orP
  split
  · exact Nat.dvd_lcm_left a b
  · split
    · exact Nat.dvd_lcm_right a b
    · exact Nat.dvd_refl _
end K2
set_option Elab.async false
set_option linter.all false
set_option maxRecDepth 100000
set_option maxHeartbeats 4000000
namespace K2
open PySem L2 Vd
open PySem.Spec PyProof.Rows
/-! the walk over data -/
local macro_rules | `(tactic| walk_at "vis") => `(tactic| first | exact Or.inl rfl | exact Or.inr (Or.inl rfl) | exact Or.inr (Or.inr rfl))
local macro_rules | `(tactic| walk_at "none") => `(tactic| first | assumption)
local macro_rules | `(tactic| walk_at "num") => `(tactic| first | decide | omega)
local macro_rules | `(tactic| walk_at "vr") => `(tactic| first
  | exact bo_add | exact bo_sub | exact bo_mulR (by decide) | exact bo_mulL (by decide) | exact bo_mod (by walk_at "num") | exact bo_div (by walk_at "num") (by walk_at "num") | exact bo_pow (by decide) (by decide) (by decide) | exact bo_cat (by walk_at "num") | exact bo_mulR (by omega) | exact bo_mulL (by omega))
local macro_rules | `(tactic| walk_at "vq") => `(tactic| first
  | exact co_lt | exact co_le | exact co_gt | exact co_ge | exact co_eqI | exact co_neI | exact co_eqS | exact co_neS)
local macro_rules | `(tactic| walk_at "vx") => `(tactic| first
  | exact xo_own (by assumption) rfl | exact xo_lst rfl | exact xo_tup rfl)
local macro_rules | `(tactic| walk_at "vf") => `(tactic| first
  | exact fo_abs | exact fo_lenL | exact fo_lenT | exact fo_lenO (by assumption) | exact fo_divmod (by walk_at "num") (by walk_at "num") | exact fo_max rfl | exact fo_min rfl)
local macro_rules | `(tactic| walk_at "vn") => `(tactic| first
  | exact ve_var (i := 0) rfl rfl (by walk_at "vis") | exact ve_var (i := 1) rfl rfl (by walk_at "vis") | exact ve_var (i := 2) rfl rfl (by walk_at "vis") | exact ve_var (i := 3) rfl rfl (by walk_at "vis") | exact ve_var (i := 4) rfl rfl (by walk_at "vis") | exact ve_var (i := 5) rfl rfl (by walk_at "vis") | exact ve_var (i := 6) rfl rfl (by walk_at "vis") | exact ve_var (i := 7) rfl rfl (by walk_at "vis"))
local macro_rules | `(tactic| walk_at "vd") => `(tactic| first
  | exact ve_int | exact ve_bl | exact ve_non | exact ve_str
  | (refine' ve_bin ?ha ?hb ?hr; (case ha => walk_at "vd"); (case hb => walk_at "vd"); (case hr => walk_at "vr"))
  | (refine' ve_sub ?ha ?hb (fun _ _ => rfl) ?hr; (case ha => walk_at "vd"); (case hb => walk_at "vd"); (case hr => walk_at "vx"))
  | (refine' ve_ty (id := "int") ?ha rfl ?hm boot_int ?hr; (case ha => walk_at "va"); (case hm => walk_at "none"); (case hr => exact to_int))
  | (refine' ve_bi ?ha rfl ?hm ?hv ?hr; (case hv => first | exact boot_abs | exact boot_len | exact boot_divmod | exact boot_max | exact boot_min); (case ha => walk_at "va"); (case hm => walk_at "none"); (case hr => walk_at "vf"))
  | (refine' ve_tup ?ha ?hl; (case ha => walk_at "va"); (case hl => walk_at "num"))
  | (refine' ve_lst ?ha ?hl; (case ha => walk_at "va"); (case hl => walk_at "num"))
  | (refine' ve_comp ?ha ?hb ?hr; (case ha => walk_at "vd"); (case hb => walk_at "vd"); (case hr => walk_at "vq"))
  | walk_at "vn")
local macro_rules | `(tactic| walk_at "va") => `(tactic| first | exact va_nil | (refine' va_cons ?ha ?hb; (case ha => walk_at "vd"); (case hb => walk_at "va")))
local macro_rules | `(tactic| walk_at "vt") => `(tactic| first
  | (refine' vt_comp ?ha ?hb ?hr; (case ha => walk_at "vd"); (case hb => walk_at "vd"); (case hr => walk_at "vq"))
  | (refine' vt_val ?hv; case hv => walk_at "vd"))
/-! ### _law_right -/
abbrev sR4 : Stmt := s__law_right
theorem scR4 : FnScope ["cup", "turn", "s", "t", "size", "some", "length", "others", "one", "two", "ahead", "both", "either", "rest", "at", "left", "right", "made"] ["cup"] (defScope sR4) := ⟨rfl, rfl, rfl, by decide +kernel, rfl, by decide +kernel, by decide +kernel⟩
/-- what the law's turn asks of the text -/
structure Q4 (P : Program) (w : World) (K : PySem.W.Frag) (mg : Str → Option Value) (base : Heap) (C : Addr) : Prop where
  cls : ClsK K C
  gl : mg "Times" = some (.ref C)
  ins : PySem.W.notFirst K C (.ref C) = true
  num : ∃ f fd, FnG gd0 P w K mg base CX0 3 f fd ["cup"] (spC K G0 RNum) ∧ mg "_law_numbers" = some (.ref f) ∧ PySem.W.keepIn K (.ref f) = true ∧ Binds K fd ["cup"] []
  mrk : ∃ f fd, FnG gd0 P w K mg base CX0 3 f fd ["cup"] (spC K G0 RMrk) ∧ mg "_law_marks" = some (.ref f) ∧ PySem.W.keepIn K (.ref f) = true ∧ Binds K fd ["cup"] []
  set : ∃ f fd, FnG gd0 P w K mg base CX0 6 f fd ["s", "size", "some"] (spR K (RSet C)) ∧ mg "_law_set" = some (.ref f) ∧ PySem.W.keepIn K (.ref f) = true ∧ Binds K fd ["s", "size", "some"] []
  lin : ∃ f fd, FnG gd0 P w K mg base CX0 1 f fd ["s", "size", "some", "at"] (spR K RIn) ∧ mg "_law_in" = some (.ref f) ∧ PySem.W.keepIn K (.ref f) = true ∧ Binds K fd ["s", "size", "some", "at"] []
  plc : ∃ f fd, FnG gd0 P w K mg base CX0 1 f fd ["s", "size"] (spR K RPlc) ∧ mg "_law_places" = some (.ref f) ∧ PySem.W.keepIn K (.ref f) = true ∧ Binds K fd ["s", "size"] []
  and_ : ∃ f fd, BinOf K C .BitAnd f ∧ FnG gd0 P w K mg base CX0 8 f fd ["self", "other"] (spR K (ROp C 60 anP fun x y => x && y)) ∧ Binds K fd ["self", "other"] []
  or_ : ∃ f fd, BinOf K C .BitOr f ∧ FnG gd0 P w K mg base CX0 8 f fd ["self", "other"] (spR K (ROp C 100000 orP fun x y => x || y)) ∧ Binds K fd ["self", "other"] []
  sub : ∃ f fd, BinOf K C .Sub f ∧ FnG gd0 P w K mg base CX0 8 f fd ["self", "other"] (spR K (ROp C 100000 loP fun x y => x && !y)) ∧ Binds K fd ["self", "other"] []
  eq : ∃ f fd, NeOf K C f ∧ FnG gd0 P w K mg base CX0 1 f fd ["self", "other"] (spR K (REq C)) ∧ Binds K fd ["self", "other"] []
  con : ∃ f fd, PySem.W.findIn K (.ref C) "__contains__" = some (some (.ref f)) ∧ PySem.W.isFn K (.ref f) = true ∧ FnG gd0 P w K mg base CX0 3 f fd ["self", "number"] (spR K (RCon C)) ∧ Binds K fd ["self", "number"] []
  period : ∃ p g fd, PropOf K C "period" p g ∧ FnG gd0 P w K mg base CX0 1 g fd ["self"] (spR K (RSelf C (fun ns a A => natD a))) ∧ Binds K fd ["self"] []
  marks : ∃ p g fd, PropOf K C "marks" p g ∧ FnG gd0 P w K mg base CX0 1 g fd ["self"] (spR K (RSelf C (fun ns a A => .tup (A.map natD)))) ∧ Binds K fd ["self"] []
  endless : ∃ p g fd, PropOf K C "endless" p g ∧ FnG gd0 P w K mg base CX0 1 g fd ["self"] (spR K (RSelf C (fun ns a A => .bl (decide (A ≠ []))))) ∧ Binds K fd ["self"] []
  cmk : ∃ f, Mk K C f ∧ InS gd0 P w K mg base 4 f [] (spI K C (RIni fun kd => g0 kd [natD 1, .tup []]))
  mR : mg "range" = none
  mI : mg "int" = none
  mRp : mg "repr" = none
  rep : ∀ (ns A ms Bb : List Nat) (a b : Nat), TextFit ns a A → TextFit ms b Bb → ∃ y : Str, ∀ {ow : Ow} {X : Cx}, X.prog = P → X.w = w → X.K = K → X.mg = mg → X.base = base → X.A.guards = some [] → Room 3 X.A → BiOk X ow "repr" [.lst [.ins C (tmD ns a A), .ins C (tmD ms b Bb)]] (.str y)
theorem vm_weak {X : Cx} {e : Expr} {env : List (Option D)} {ow : Ow} {P P' : D → Ow → Prop} (h : Vm X e env ow P) (hp : ∀ d ow2, P d ow2 → P' d ow2) : Vm X e env ow P' := .mk fun σ F H Q s w k0 => h σ F H Q s w fun F2 H2 v d ow2 e2 w2 r2 p => k0 F2 H2 v d ow2 e2 w2 r2 (hp d ow2 p)
def RTr4 (_ : List D) (d : D) : Prop := d = .bl true
theorem lst_le' {n a : Nat} {M A : List Nat} (p : Per.Pat n M) (l : Per.Lst n M a A) : a ≤ n := Nat.le_of_dvd p.pos (lst_dvd p l)
section
variable {P : Program} {w : World} {K : PySem.W.Frag} {mg : Str → Option Value} {base : Heap}
theorem ok_right4 {f C : Addr} {fd : FuncData} (Fn : Fun K "_law_right" "_law_right" sR4 f fd) (T : Q4 P w K mg base C) (hfit : ∀ {ns A : List Nat} {a : Nat}, ns.length ≤ 4 → (∀ x ∈ ns, x ≤ 1000000000000000000000) → Per.Pat a A → a ≤ 30 → TextFit ns a A) : FnG gd0 P w K mg base CX0 10 f fd ["cup"] (spC K G0 RTr4) := by
  refine okC Fn scR4 (fun ds e => by rw [e]; rfl) fun cdv A0 outer s H B ow c ds Q E hgd hr9 hG hc kQ => ?_
  obtain rfl : ds = [] := hG
  have hr : ∀ k, k ≤ 9 → Room k (A0.deeper (envOfC "_law_right" (defScope sR4) s.heap.objs.size f cdv)) := fun k hk => hr9.mono hk
  have hu64 : A0.units + 3 + 64 < cLine := by
    have z : A0.units + 3 + 16 * 9 + 200 < cLine := hr9.un
    omega
  obtain ⟨fN, fdN, FN, mN, kN, bN⟩ := T.num
  obtain ⟨fM, fdM, FM, mM, kM, bM⟩ := T.mrk
  obtain ⟨fS, fdS, FS, mS, kS, bS⟩ := T.set
  refine' rn_forRM (g := gName 1) (f := fun d env => env.set 1 (some d)) (P := fun d ow2 => d = .int 3 ∧ ow2 = ow)
    (fun n i env' ow' => n = 3 ∧ SameO c ow ow' ∧ CupO ow' c ∧ env'[0]? = some (some (.ob (.ref c))) ∧ env'.length = 18)
    PassesOwn.never rfl ?hgR T.mR ?hi ?hP ?hgt (fun ow d => gd_name 1) ?hs ?hd ?hst
  case hgR => rfl
  case hgt => exact pg_name (i := 1) scR4.nd rfl (.inl rfl)
  case hst => rfl
  case hi => exact vm_of ve_int ⟨rfl, rfl⟩
  case hP =>
    rintro d ow2 ⟨rfl, rfl⟩
    exact ⟨3, rfl, by decide, rfl, .refl, hc, rfl, rfl⟩
  case hd =>
    rintro n B2 env' ow' e2 ⟨rfl, sub, c2, h0, hlen⟩
    exact rn_retC (d := .bl true) ve_bl kQ e2 sub c2 rfl
  case hs =>
    rintro n B2 i env' ow' e2 hin ⟨rfl, sub, c2, h0, hlen⟩
    obtain ⟨env, hE⟩ : ∃ env, env = env'.set 1 (some (.int (i : Nat))) := ⟨_, rfl⟩
    rw [← hE]
    have g0' : env[0]? = some (some (.ob (.ref c))) := by rw [hE, List.getElem?_set_ne (by decide)]; exact h0
    have gl' : env.length = 18 := by rw [hE, List.length_set]; exact hlen
    refine' rn_parM (i := 2) (j := 3) (P1 := fun d ow2 => SameO c ow' ow2 ∧ CupO ow2 c ∧ RNum [] d) (P2 := fun d1 d2 ow2 => RNum [] d1 ∧ SameO c ow' ow2 ∧ CupO ow2 c ∧ RNum [] d2) rfl scR4.nd rfl rfl (by decide) rfl rfl ?a1 ?a2 ?a3 ?a4
    case a4 => rfl
    case a1 => exact vm_draw FN hgd (hr 3 (by decide)) rfl mN kN bN (va_cons (ve_var g0' rfl (by walk_at "vis")) va_nil) c2 rfl
    case a2 =>
      rintro d1 ow2 ⟨s2, c3, h1⟩
      exact vm_weak (vm_draw FN hgd (hr 3 (by decide)) rfl mN kN bN (va_cons (ve_var g0' rfl (by walk_at "vis")) va_nil) c3 rfl) fun d ow4 ⟨s4, c4, h4⟩ => ⟨h1, s2.trans s4, c4, h4⟩
    case a3 =>
    rintro B3 d1 d2 ow3 e3 ⟨⟨ns, rfl, an, ln, bn⟩, s3, c3, ⟨ms, rfl, am, lm, bm⟩⟩
    obtain ⟨env1, hE1⟩ : ∃ env1, env1 = (env.set 2 (some (.lst (ns.map natD)))).set 3 (some (.lst (ms.map natD))) := ⟨_, rfl⟩
    rw [← hE1]
    have G0 : env1[0]? = some (some (.ob (.ref c))) := by rw [hE1, List.getElem?_set_ne (by decide), List.getElem?_set_ne (by decide)]; exact g0'
    have G2 : env1[2]? = some (some (.lst (ns.map natD))) := by rw [hE1, List.getElem?_set_ne (by decide), List.getElem?_set_self (by rw [gl']; decide)]
    have G3 : env1[3]? = some (some (.lst (ms.map natD))) := by rw [hE1, List.getElem?_set_self (by rw [List.length_set, gl']; decide)]
    have GL : env1.length = 18 := by rw [hE1, List.length_set, List.length_set]; exact gl'
    have G1 : ∃ z, env1[1]? = some z := by
      have : 1 < env1.length := by rw [GL]; decide
      exact ⟨env1[1], by rw [List.getElem?_eq_getElem this]⟩
    -- from here on the names' places are written out
    obtain ⟨z1, l4, l5, l6, l7, l8, l9, l10, l11, l12, l13, l14, l15, l16, l17, hlist⟩ : ∃ z1 l4 l5 l6 l7 l8 l9 l10 l11 l12 l13 l14 l15 l16 l17, env1 = [some (.ob (.ref c)), z1, some (.lst (ns.map natD)), some (.lst (ms.map natD)), l4, l5, l6, l7, l8, l9, l10, l11, l12, l13, l14, l15, l16, l17] := by
      clear hE1
      match env1, GL with
      | [a0, a1, a2, a3, a4, a5, a6, a7, a8, a9, a10, a11, a12, a13, a14, a15, a16, a17], _ =>
        simp at G0 G2 G3
        subst G0 G2 G3
        exact ⟨_, _, _, _, _, _, _, _, _, _, _, _, _, _, _, rfl⟩
    subst hlist
    clear hE1 G0 G2 G3 GL G1
    refine' rn_asgM (g := gTup K 2 (gCons (gName 4) (gCons (gName 5) gNil))) (P := fun d ow2 => SameO c ow3 ow2 ∧ CupO ow2 c ∧ RMrk [] d) (pg_tup rfl (pgs_cons (pg_name scR4.nd rfl (.inl rfl)) (pgs_cons (pg_name scR4.nd rfl (.inl rfl)) pgs_nil))) ?b1 ?b2
    case b1 => exact vm_draw FM hgd (hr 3 (by decide)) rfl mM kM bM (va_cons (ve_var (i := 0) rfl rfl (by walk_at "vis")) va_nil) c3 rfl
    case b2 =>
    rintro d ow4 ⟨s4, c4, n, M, rfl, patM, n30⟩
    refine ⟨_, gd_two 4 5, fun B4 e4 => ?_⟩
    refine' rn_asgM (g := gTup K 2 (gCons (gName 6) (gCons (gName 7) gNil))) (P := fun d ow2 => SameO c ow4 ow2 ∧ CupO ow2 c ∧ RMrk [] d) (pg_tup rfl (pgs_cons (pg_name scR4.nd rfl (.inl rfl)) (pgs_cons (pg_name scR4.nd rfl (.inl rfl)) pgs_nil))) ?b3 ?b4
    case b3 => exact vm_draw FM hgd (hr 3 (by decide)) rfl mM kM bM (va_cons (ve_var (i := 0) rfl rfl (by walk_at "vis")) va_nil) c4 rfl
    case b4 =>
    rintro d ow5 ⟨s5, c5, m, N, rfl, patN, m30⟩
    refine ⟨_, gd_two 6 7, fun B5 e5 => ?_⟩
    obtain ⟨a, A, hLa⟩ := exists_lst n M patM
    obtain ⟨b, Bb, hLb⟩ := exists_lst m N patN
    have iniA : IniOk ns n M a A := ⟨an, fun x hx => Nat.le_trans (bn x hx) (by decide), patM, by omega, hLa⟩
    have iniB : IniOk ms m N b Bb := ⟨am, fun x hx => Nat.le_trans (bm x hx) (by decide), patN, by omega, hLb⟩
    refine' rn_par (i := 8) (j := 9) (d1 := .ins C (tmD ns a A)) (d2 := .ins C (tmD ms b Bb)) rfl scR4.nd rfl rfl (by decide) rfl rfl ?p1 ?p2 ?p3 ?p4 rfl rfl ⟨_, ps_par rfl scR4.nd rfl rfl (by decide) rfl rfl pa_can rfl, rfl⟩
    case p4 => rfl
    case p1 => exact ve_R FS hgd (hr 6 (by decide)) rfl mS kS bS (va_cons (ve_var (d := .lst (ns.map natD)) (i := 2) rfl rfl (by walk_at "vis")) (va_cons (ve_var (d := natD n) (i := 4) rfl rfl (by walk_at "vis")) (va_cons (ve_var (d := .tup (M.map natD)) (i := 5) rfl rfl (by walk_at "vis")) va_nil))) ⟨ns, n, M, a, A, rfl, ln, iniA, rfl⟩
    case p2 => exact ve_R FS hgd (hr 6 (by decide)) rfl mS kS bS (va_cons (ve_var (d := .lst (ms.map natD)) (i := 3) rfl rfl (by walk_at "vis")) (va_cons (ve_var (d := natD m) (i := 6) rfl rfl (by walk_at "vis")) (va_cons (ve_var (d := .tup (N.map natD)) (i := 7) rfl rfl (by walk_at "vis")) va_nil))) ⟨ms, m, N, b, Bb, rfl, lm, iniB, rfl⟩
    case p3 =>
    intro B6 e6
    have ha30 : a ≤ 30 := Nat.le_trans (lst_le' patM hLa) n30
    have hb30 : b ≤ 30 := Nat.le_trans (lst_le' patN hLb) m30
    have T1 : Tld ns A a := ⟨an, Lst.self hLa⟩
    have T2 : Tld ms Bb b := ⟨am, Lst.self hLb⟩
    have hlcm : Nat.lcm a b ≤ 900 := by
      have d : Nat.lcm a b ∣ a * b := Nat.lcm_dvd (Nat.dvd_mul_right a b) (Nat.dvd_mul_left b a)
      have z := Nat.le_of_dvd (Nat.mul_pos hLa.pat.pos hLb.pat.pos) d
      have y : a * b ≤ 30 * 30 := Nat.mul_le_mul ha30 hb30
      omega
    obtain ⟨y, hy⟩ := T.rep ns A ms Bb a b (hfit ln bn hLa.pat ha30) (hfit lm bm hLb.pat hb30)
    obtain ⟨fA, fdA, BA, FA, bA⟩ := T.and_
    obtain ⟨fO, fdO, BO, FO, bO⟩ := T.or_
    obtain ⟨fU, fdU, BU, FU, bU⟩ := T.sub
    obtain ⟨fE, fdE, NE, FE, bE⟩ := T.eq
    obtain ⟨fC, fdC, sC, iC, FC, bC⟩ := T.con
    obtain ⟨ks1, C1, c1, K1, S1, L1, D1, R1⟩ := op_ex (C := C) (lim := 60) (op := fun x y => x && y) pat_an fn_an dv_an T1 T2 (by omega) (by omega) (by omega)
    obtain ⟨ks2, C2, c2', K2', S2, L2', D2, R2⟩ := op_ex (C := C) (lim := 100000) (op := fun x y => x || y) pat_or fn_or dv_or T1 T2 (by omega) (by omega) (by omega)
    obtain ⟨ks3, C3, c3', K3, S3, L3, D3, R3⟩ := op_ex (C := C) (lim := 100000) (op := fun x y => x && !y) pat_lo fn_lo dv_lo T1 T2 (by omega) (by omega) (by omega)
    refine' rn_set (i := 10) (d := .str y) scR4.nd rfl (.inl rfl) ?r1 ?r2
    case r1 => exact ve_bi (va_cons (ve_lst (va_cons (ve_var (d := .ins C (tmD ns a A)) (i := 8) rfl rfl (by walk_at "vis")) (va_cons (ve_var (d := .ins C (tmD ms b Bb)) (i := 9) rfl rfl (by walk_at "vis")) va_nil)) (by show 2 ≤ 100000; decide)) va_nil) rfl T.mRp boot_repr (hy rfl rfl rfl rfl rfl hgd (hr 3 (by decide)))
    case r2 =>
    intro B7 e7
    refine' rn_par3 (i := 11) (j := 12) (l := 13) (d1 := .ins C (tmD ks1 c1 C1)) (d2 := .ins C (tmD ks2 c2' C2)) (d3 := .ins C (tmD ks3 c3' C3)) rfl scR4.nd rfl rfl rfl (by decide) (by decide) (by decide) rfl rfl rfl ?q1 ?q2 ?q3 ?q4 ?q5
    case q5 => rfl
    case q1 => exact ve_bin (ve_var (d := .ins C (tmD ns a A)) (i := 8) rfl rfl (by walk_at "vis")) (ve_var (d := .ins C (tmD ms b Bb)) (i := 9) rfl rfl (by walk_at "vis")) (bo_own FA hgd (hr 8 (by decide)) bA BA T.cls R1)
    case q2 => exact ve_bin (ve_var (d := .ins C (tmD ns a A)) (i := 8) rfl rfl (by walk_at "vis")) (ve_var (d := .ins C (tmD ms b Bb)) (i := 9) rfl rfl (by walk_at "vis")) (bo_own FO hgd (hr 8 (by decide)) bO BO T.cls R2)
    case q3 => exact ve_bin (ve_var (d := .ins C (tmD ns a A)) (i := 8) rfl rfl (by walk_at "vis")) (ve_var (d := .ins C (tmD ms b Bb)) (i := 9) rfl rfl (by walk_at "vis")) (bo_own FU hgd (hr 8 (by decide)) bU BU T.cls R3)
    case q4 =>
    intro B8 e8
    obtain ⟨fI, fdI, FI, mI, kI, bI⟩ := T.lin
    obtain ⟨fP, fdP, FP, mP, kP, bP⟩ := T.plc
    have hnm : n * m ≤ 900 := Nat.mul_le_mul n30 m30
    refine' rn_for (ds := (plcL (ns ++ ms) (n * m)).map natD) (g := gName 14) (f := fun d env => env.set 14 (some d)) (fun i env2 ow2 => ow2 = ow5 ∧ ∃ u14 u15 u16 : Option D, env2 = [some (.ob (.ref c)), z1, some (.lst (ns.map natD)), some (.lst (ms.map natD)), some (natD n), some (.tup (M.map natD)), some (natD m), some (.tup (N.map natD)), some (.ins C (tmD ns a A)), some (.ins C (tmD ms b Bb)), some (.str y), some (.ins C (tmD ks1 c1 C1)), some (.ins C (tmD ks2 c2' C2)), some (.ins C (tmD ks3 c3' C3)), u14, u15, u16, l17])
      PassesOwn.never rfl ?f1 ?f2 (fun ow d _ => gd_name 14) ⟨rfl, _, _, _, rfl⟩ ?f3 ?f4
    case f1 =>
      refine vi_list (ve_R FP hgd (hr 1 (by decide)) rfl mP kP bP (va_cons (ve_is (ve_bin (ve_var (d := .lst (ns.map natD)) (i := 2) rfl rfl (by walk_at "vis")) (ve_var (d := .lst (ms.map natD)) (i := 3) rfl rfl (by walk_at "vis")) (bo_cat (by rw [List.length_map, List.length_map]; omega))) (by rw [← List.map_append] : _ = D.lst ((ns ++ ms).map natD))) (va_cons (ve_is (ve_bin (ve_var (d := natD n) (i := 4) rfl rfl (by walk_at "vis")) (ve_var (d := natD m) (i := 6) rfl rfl (by walk_at "vis")) (bo_mulL (by omega))) (by show D.int _ = D.int _; rw [Int.natCast_mul] : _ = natD (n * m))) va_nil)) ⟨ns ++ ms, n * m, rfl, by rw [List.length_append]; omega, by omega, rfl⟩)
    case f2 => exact pg_name (i := 14) scR4.nd rfl (.inl rfl)
    case f3 =>
      rintro B9 i2 d env2 ow2 e9 hd ⟨rfl, u14, u15, u16, rfl⟩
      obtain ⟨x, _, rfl⟩ := List.mem_map.mp (List.mem_of_getElem? hd)
      refine' rn_par (i := 15) (j := 16) (d1 := .bl (inT ns n M x)) (d2 := .bl (inT ms m N x)) rfl scR4.nd rfl rfl (by decide) rfl rfl ?i1 ?i2 ?i3 ?i4 rfl rfl ⟨_, ps_par rfl scR4.nd rfl rfl (by decide) rfl rfl pa_can rfl, rfl⟩
      case i4 => rfl
      case i1 => exact ve_R FI hgd (hr 1 (by decide)) rfl mI kI bI (va_cons (ve_var (d := .lst (ns.map natD)) (i := 2) rfl rfl (by walk_at "vis")) (va_cons (ve_var (d := natD n) (i := 4) rfl rfl (by walk_at "vis")) (va_cons (ve_var (d := .tup (M.map natD)) (i := 5) rfl rfl (by walk_at "vis")) (va_cons (ve_var (d := natD x) (i := 14) rfl rfl (by walk_at "vis")) va_nil)))) ⟨ns, M, n, x, rfl, patM.pos, rfl⟩
      case i2 => exact ve_R FI hgd (hr 1 (by decide)) rfl mI kI bI (va_cons (ve_var (d := .lst (ms.map natD)) (i := 3) rfl rfl (by walk_at "vis")) (va_cons (ve_var (d := natD m) (i := 6) rfl rfl (by walk_at "vis")) (va_cons (ve_var (d := .tup (N.map natD)) (i := 7) rfl rfl (by walk_at "vis")) (va_cons (ve_var (d := natD x) (i := 14) rfl rfl (by walk_at "vis")) va_nil)))) ⟨ms, N, m, x, rfl, patN.pos, rfl⟩
      case i3 =>
      intro B10 e10
      have q1 : inT ns n M x = inT ns a A x := by rw [inT_lst hLa]
      have q2 : inT ms m N x = inT ms b Bb x := by rw [inT_lst hLb]
      refine' rn_if (t := false) ?t1 (fun z => nomatch z) ?t2
      case t1 =>
        refine vt_is (vt_comp (d1 := .lst [.bl (inT ks1 c1 C1 x), .bl (inT ks2 c2' C2 x), .bl (inT ks3 c3' C3 x)]) (d2 := .lst [.bl (inT ns n M x && inT ms m N x), .bl (inT ns n M x || inT ms m N x), .bl (inT ns n M x && !inT ms m N x)]) ?u1 ?u2 (co_neD hu64 rfl rfl)) ?u3
        case u1 =>
          refine ve_lst (va_cons (ve_is (ve_comp (ve_var (d := natD x) (i := 14) rfl rfl (by walk_at "vis")) (ve_var (d := .ins C (tmD ks1 c1 C1)) (i := 11) rfl rfl (by walk_at "vis")) (co_inOwn rfl FC hgd (hr 3 (by decide)) bC sC iC ⟨ks1, c1, C1, natD x, rfl, rfl, K1.asc, K1.lst.pat, rfl⟩)) (by rw [memT_nat])) (va_cons (ve_is (ve_comp (ve_var (d := natD x) (i := 14) rfl rfl (by walk_at "vis")) (ve_var (d := .ins C (tmD ks2 c2' C2)) (i := 12) rfl rfl (by walk_at "vis")) (co_inOwn rfl FC hgd (hr 3 (by decide)) bC sC iC ⟨ks2, c2', C2, natD x, rfl, rfl, K2'.asc, K2'.lst.pat, rfl⟩)) (by rw [memT_nat])) (va_cons (ve_is (ve_comp (ve_var (d := natD x) (i := 14) rfl rfl (by walk_at "vis")) (ve_var (d := .ins C (tmD ks3 c3' C3)) (i := 13) rfl rfl (by walk_at "vis")) (co_inOwn rfl FC hgd (hr 3 (by decide)) bC sC iC ⟨ks3, c3', C3, natD x, rfl, rfl, K3.asc, K3.lst.pat, rfl⟩)) (by rw [memT_nat])) va_nil))) (by show 3 ≤ 100000; decide)
        case u2 =>
          refine ve_lst (va_cons (ve_and (ve_var (d := .bl (inT ns n M x)) (i := 15) rfl rfl (by walk_at "vis")) (fun _ => ve_and1 (ve_var (d := .bl (inT ms m N x)) (i := 16) rfl rfl (by walk_at "vis")))) (va_cons (ve_or (ve_var (d := .bl (inT ns n M x)) (i := 15) rfl rfl (by walk_at "vis")) (fun _ => ve_or1 (ve_var (d := .bl (inT ms m N x)) (i := 16) rfl rfl (by walk_at "vis")))) (va_cons (ve_and (ve_var (d := .bl (inT ns n M x)) (i := 15) rfl rfl (by walk_at "vis")) (fun _ => ve_and1 (ve_not (ve_var (d := .bl (inT ms m N x)) (i := 16) rfl rfl (by walk_at "vis"))))) va_nil))) (by show 3 ≤ 100000; decide)
        case u3 =>
          rw [S1, S2, S3, q1, q2]
          cases inT ns a A x <;> cases inT ms b Bb x <;> rfl
      case t2 =>
        intro _ B11 e11
        refine rn_go ?_
        exact rn_nextW ⟨rfl, _, _, _, rfl⟩ (e10.trans e11)
    case f4 =>
    rintro B9 env2 ow2 e9 ⟨rfl, u14, u15, u16, rfl⟩
    obtain ⟨g, mk0, i00⟩ := T.cmk
    have n0 : IniOk [] 1 [] 1 [] := ⟨List.Pairwise.nil, (fun x hx => by cases hx), Tld.nil.lst.pat, by decide, Tld.nil.lst⟩
    have dvd_le : ∀ {u v : Nat}, u ∣ Nat.lcm a b → v ∣ Nat.lcm a b → Nat.lcm u v ≤ 100000 ∧ Nat.lcm u v ∣ Nat.lcm a b := fun h1 h2 => by
      have d := Nat.lcm_dvd h1 h2
      have z := Nat.le_of_dvd (Nat.lcm_pos hLa.pat.pos hLb.pat.pos) d
      exact ⟨by omega, d⟩
    have da : a ∣ Nat.lcm a b := Nat.dvd_lcm_left a b
    have db : b ∣ Nat.lcm a b := Nat.dvd_lcm_right a b
    obtain ⟨ks4, C4, c4', K4, S4, L4, D4, R4⟩ := op_ex (C := C) (lim := 100000) (op := fun x y => x || y) pat_or fn_or dv_or K1 K3 (dvd_le D1 D3).1 (by have := Nat.le_of_dvd (Nat.lcm_pos hLa.pat.pos hLb.pat.pos) D3; omega) (by omega)
    obtain ⟨ks5, C5, c5', K5, S5, L5, D5, R5⟩ := op_ex (C := C) (lim := 60) (op := fun x y => x && y) pat_an fn_an dv_an K3 T2 (dvd_le D3 db).1 (by omega) (by omega)
    obtain ⟨ks6, C6, c6', K6, S6, L6, D6, R6⟩ := op_ex (C := C) (lim := 100000) (op := fun x y => x && !y) pat_lo fn_lo dv_lo K2' T2 (dvd_le D2 db).1 (by omega) (by omega)
    obtain ⟨ks7, C7, c7', K7, S7, L7, D7, R7⟩ := op_ex (C := C) (lim := 100000) (op := fun x y => x && !y) pat_lo fn_lo dv_lo T2 T1 (dvd_le db da).1 (by omega) (by omega)
    obtain ⟨ks8, C8, c8', K8, S8, L8, D8, R8⟩ := op_ex (C := C) (lim := 100000) (op := fun x y => x || y) pat_or fn_or dv_or K7 T1 (dvd_le (Nat.dvd_trans D7 (dvd_le db da).2) da).1 (by omega) (by omega)
    obtain ⟨ks9, C9, c9', K9, S9, L9, D9, R9⟩ := op_ex (C := C) (lim := 60) (op := fun x y => x && y) pat_an fn_an dv_an T2 T1 (dvd_le db da).1 (by omega) (by omega)
    obtain ⟨ks10, C10, c10', K10, S10, L10, D10, R10⟩ := op_ex (C := C) (lim := 100000) (op := fun x y => x || y) pat_or fn_or dv_or T2 T1 (dvd_le db da).1 (by omega) (by omega)
    obtain ⟨ks11, C11, c11', K11, S11, L11, D11, R11⟩ := op_ex (C := C) (lim := 100000) (op := fun x y => x && !y) pat_lo fn_lo dv_lo T1 T1 (dvd_le da da).1 (by omega) (by omega)
    obtain ⟨ks12, C12, c12', K12, S12, L12, D12, R12⟩ := op_ex (C := C) (lim := 100000) (op := fun x y => x || y) pat_or fn_or dv_or T1 T1 (dvd_le da da).1 (by omega) (by omega)
    refine' rn_if (t := false) ?w1 (fun z => nomatch z) ?w2
    case w1 => exact vt_is (vt_w (vw_or (vt_comp (ve_bin (ve_var (d := .ins C (tmD ks1 c1 C1)) (i := 11) rfl rfl (by walk_at "vis")) (ve_var (d := .ins C (tmD ks3 c3' C3)) (i := 13) rfl rfl (by walk_at "vis")) (bo_own FO hgd (hr 8 (by decide)) bO BO T.cls R4)) (ve_var (d := .ins C (tmD ns a A)) (i := 8) rfl rfl (by walk_at "vis")) (co_to (co_neOwn FE hgd (hr 2 (by decide)) bE NE (.ins T.cls) T.ins ⟨_, _, _, .inr ⟨_, _, _, rfl, rfl⟩⟩) (by rw [Tld.same K4 T1 (fun x => by simp only [S4, S1, S3]; cases inT ns a A x <;> cases inT ms b Bb x <;> rfl)]))) (fun _ => vw_or (vt_comp (ve_bin (ve_var (d := .ins C (tmD ks3 c3' C3)) (i := 13) rfl rfl (by walk_at "vis")) (ve_var (d := .ins C (tmD ms b Bb)) (i := 9) rfl rfl (by walk_at "vis")) (bo_own FA hgd (hr 8 (by decide)) bA BA T.cls R5)) (ve_mk0 mk0 i00 hgd (hr 5 (by decide)) rfl T.gl vk_nil rfl ⟨[], 1, [], 1, [], rfl, by decide, rfl, n0, rfl⟩) (co_to (co_neOwn FE hgd (hr 2 (by decide)) bE NE (.ins T.cls) T.ins ⟨_, _, _, .inr ⟨_, _, _, rfl, rfl⟩⟩) (by rw [Tld.same K5 Tld.nil (fun x => by simp only [S5, S3, inT_no]; cases inT ns a A x <;> cases inT ms b Bb x <;> rfl)]))) (fun _ => vw_or (vt_comp (ve_bin (ve_var (d := .ins C (tmD ks2 c2' C2)) (i := 12) rfl rfl (by walk_at "vis")) (ve_var (d := .ins C (tmD ms b Bb)) (i := 9) rfl rfl (by walk_at "vis")) (bo_own FU hgd (hr 8 (by decide)) bU BU T.cls R6)) (ve_var (d := .ins C (tmD ks3 c3' C3)) (i := 13) rfl rfl (by walk_at "vis")) (co_to (co_neOwn FE hgd (hr 2 (by decide)) bE NE (.ins T.cls) T.ins ⟨_, _, _, .inr ⟨_, _, _, rfl, rfl⟩⟩) (by rw [Tld.same K6 K3 (fun x => by simp only [S6, S2, S3]; cases inT ns a A x <;> cases inT ms b Bb x <;> rfl)]))) (fun _ => vw_or1 (vt_comp (ve_bin (ve_bin (ve_var (d := .ins C (tmD ms b Bb)) (i := 9) rfl rfl (by walk_at "vis")) (ve_var (d := .ins C (tmD ns a A)) (i := 8) rfl rfl (by walk_at "vis")) (bo_own FU hgd (hr 8 (by decide)) bU BU T.cls R7)) (ve_var (d := .ins C (tmD ns a A)) (i := 8) rfl rfl (by walk_at "vis")) (bo_own FO hgd (hr 8 (by decide)) bO BO T.cls R8)) (ve_var (d := .ins C (tmD ks2 c2' C2)) (i := 12) rfl rfl (by walk_at "vis")) (co_to (co_neOwn FE hgd (hr 2 (by decide)) bE NE (.ins T.cls) T.ins ⟨_, _, _, .inr ⟨_, _, _, rfl, rfl⟩⟩) (by rw [Tld.same K8 K2' (fun x => by simp only [S8, S7, S2]; cases inT ns a A x <;> cases inT ms b Bb x <;> rfl)])))) (pw_all_or _ _)) (pw_all_or _ _)) (pw_all_or _ _))) (by rfl)
    case w2 =>
    intro _ B10 e10
    refine rn_go ?_
    refine' rn_if (t := false) ?w3 (fun z => nomatch z) ?w4
    case w3 => exact vt_is (vt_w (vw_or (vt_comp (ve_bin (ve_var (d := .ins C (tmD ms b Bb)) (i := 9) rfl rfl (by walk_at "vis")) (ve_var (d := .ins C (tmD ns a A)) (i := 8) rfl rfl (by walk_at "vis")) (bo_own FA hgd (hr 8 (by decide)) bA BA T.cls R9)) (ve_var (d := .ins C (tmD ks1 c1 C1)) (i := 11) rfl rfl (by walk_at "vis")) (co_to (co_neOwn FE hgd (hr 2 (by decide)) bE NE (.ins T.cls) T.ins ⟨_, _, _, .inr ⟨_, _, _, rfl, rfl⟩⟩) (by rw [Tld.same K9 K1 (fun x => by simp only [S9, S1]; cases inT ns a A x <;> cases inT ms b Bb x <;> rfl)]))) (fun _ => vw_or (vt_comp (ve_bin (ve_var (d := .ins C (tmD ms b Bb)) (i := 9) rfl rfl (by walk_at "vis")) (ve_var (d := .ins C (tmD ns a A)) (i := 8) rfl rfl (by walk_at "vis")) (bo_own FO hgd (hr 8 (by decide)) bO BO T.cls R10)) (ve_var (d := .ins C (tmD ks2 c2' C2)) (i := 12) rfl rfl (by walk_at "vis")) (co_to (co_neOwn FE hgd (hr 2 (by decide)) bE NE (.ins T.cls) T.ins ⟨_, _, _, .inr ⟨_, _, _, rfl, rfl⟩⟩) (by rw [Tld.same K10 K2' (fun x => by simp only [S10, S2]; cases inT ns a A x <;> cases inT ms b Bb x <;> rfl)]))) (fun _ => vw_or (vt_comp (ve_bin (ve_var (d := .ins C (tmD ns a A)) (i := 8) rfl rfl (by walk_at "vis")) (ve_var (d := .ins C (tmD ns a A)) (i := 8) rfl rfl (by walk_at "vis")) (bo_own FU hgd (hr 8 (by decide)) bU BU T.cls R11)) (ve_mk0 mk0 i00 hgd (hr 5 (by decide)) rfl T.gl vk_nil rfl ⟨[], 1, [], 1, [], rfl, by decide, rfl, n0, rfl⟩) (co_to (co_neOwn FE hgd (hr 2 (by decide)) bE NE (.ins T.cls) T.ins ⟨_, _, _, .inr ⟨_, _, _, rfl, rfl⟩⟩) (by rw [Tld.same K11 Tld.nil (fun x => by simp only [S11, inT_no]; cases inT ns a A x <;> rfl)]))) (fun _ => vw_or1 (vt_comp (ve_bin (ve_var (d := .ins C (tmD ns a A)) (i := 8) rfl rfl (by walk_at "vis")) (ve_var (d := .ins C (tmD ns a A)) (i := 8) rfl rfl (by walk_at "vis")) (bo_own FO hgd (hr 8 (by decide)) bO BO T.cls R12)) (ve_var (d := .ins C (tmD ns a A)) (i := 8) rfl rfl (by walk_at "vis")) (co_to (co_neOwn FE hgd (hr 2 (by decide)) bE NE (.ins T.cls) T.ins ⟨_, _, _, .inr ⟨_, _, _, rfl, rfl⟩⟩) (by rw [Tld.same K12 T1 (fun x => by simp only [S12]; cases inT ns a A x <;> rfl)])))) (pw_all_or _ _)) (pw_all_or _ _)) (pw_all_or _ _))) (by rfl)
    case w4 =>
    intro _ B11 e11
    refine rn_go ?_
    refine' rn_if (t := false) ?w5 (fun z => nomatch z) ?w6
    case w5 => exact vt_comp (ve_bi (va_cons (ve_lst (va_cons (ve_var (d := .ins C (tmD ns a A)) (i := 8) rfl rfl (by walk_at "vis")) (va_cons (ve_var (d := .ins C (tmD ms b Bb)) (i := 9) rfl rfl (by walk_at "vis")) va_nil)) (by show 2 ≤ 100000; decide)) va_nil) rfl T.mRp boot_repr (hy rfl rfl rfl rfl rfl hgd (hr 3 (by decide)))) (ve_var (d := .str y) (i := 10) rfl rfl (by walk_at "vis")) co_neSR
    case w6 =>
    intro _ B12 e12
    refine rn_go ?_
    obtain ⟨pp, gp, fdp, PP, FPp, bPp⟩ := T.period
    obtain ⟨pm, gm, fdm, PM, FPm, bPm⟩ := T.marks
    obtain ⟨pe, ge, fde, PE, FPe, bPe⟩ := T.endless
    refine' rn_for (ds := [.ins C (tmD ks1 c1 C1), .ins C (tmD ks2 c2' C2), .ins C (tmD ks3 c3' C3)]) (g := gName 17) (f := fun d env => env.set 17 (some d)) (fun i env3 ow3 => ow3 = ow2 ∧ ∃ u17 : Option D, env3 = [some (.ob (.ref c)), z1, some (.lst (ns.map natD)), some (.lst (ms.map natD)), some (natD n), some (.tup (M.map natD)), some (natD m), some (.tup (N.map natD)), some (.ins C (tmD ns a A)), some (.ins C (tmD ms b Bb)), some (.str y), some (.ins C (tmD ks1 c1 C1)), some (.ins C (tmD ks2 c2' C2)), some (.ins C (tmD ks3 c3' C3)), u14, u15, u16, u17])
      PassesOwn.never rfl ?m1 ?m2 (fun ow d _ => gd_name 17) ⟨rfl, _, rfl⟩ ?m3 ?m4
    case m1 => exact vi_list (ve_lst (va_cons (ve_var (d := .ins C (tmD ks1 c1 C1)) (i := 11) rfl rfl (by walk_at "vis")) (va_cons (ve_var (d := .ins C (tmD ks2 c2' C2)) (i := 12) rfl rfl (by walk_at "vis")) (va_cons (ve_var (d := .ins C (tmD ks3 c3' C3)) (i := 13) rfl rfl (by walk_at "vis")) va_nil))) (by show 3 ≤ 100000; decide))
    case m2 => exact pg_name (i := 17) scR4.nd rfl (.inl rfl)
    case m3 =>
      rintro B13 i3 d env3 ow3 e13 hd ⟨rfl, u17, rfl⟩
      obtain ⟨ks, Cs, c0, rfl, KK, hkl, dv⟩ : ∃ (ks Cs : List Nat) (c0 : Nat), d = .ins C (tmD ks c0 Cs) ∧ Tld ks Cs c0 ∧ ks.length ≤ 8 ∧ c0 ∣ Nat.lcm a b := by
        have hm : d ∈ ([.ins C (tmD ks1 c1 C1), .ins C (tmD ks2 c2' C2), .ins C (tmD ks3 c3' C3)] : List D) := List.mem_of_getElem? hd
        rcases List.mem_cons.mp hm with e | hm
        · exact ⟨ks1, C1, c1, e, K1, by omega, D1⟩
        rcases List.mem_cons.mp hm with e | hm
        · exact ⟨ks2, C2, c2', e, K2', by omega, D2⟩
        rcases List.mem_cons.mp hm with e | hm
        · exact ⟨ks3, C3, c3', e, K3, by omega, D3⟩
        cases hm
      have c0p := KK.lst.pat.pos
      have c0l : c0 ≤ 900 := Nat.le_trans (Nat.le_of_dvd (Nat.lcm_pos hLa.pat.pos hLb.pat.pos) dv) hlcm
      have hCs : Cs.length ≤ 100000 := by
        have := asc_le KK.lst.pat.asc KK.lst.pat.lt
        omega
      have dvn : c0 ∣ n * m := Nat.dvd_trans dv (Nat.lcm_dvd (Nat.dvd_trans (lst_dvd patM hLa) (Nat.dvd_mul_right n m)) (Nat.dvd_trans (lst_dvd patN hLb) (Nat.dvd_mul_left m n)))
      have hmod : ((n * m : Nat) : Int) % (c0 : Int) = 0 := by
        rw [← Int.natCast_emod, Nat.mod_eq_zero_of_dvd dvn]
        rfl
      have tE : ∀ {X : Cx} {ow : Ow} {b : Expr}, X.A.units + 64 < cLine → CmpOk X ow .NotEq b (.tup (Cs.map natD)) (.tup []) (.bl (!decide (Cs = []))) := fun {X ow b} h => by
        rw [← map_nil_iff, natD_ints]
        exact co_neIT (l := Cs.map toI) (m := []) h
      refine' rn_if (t := false) ?x1 (fun z => nomatch z) ?x2
      case x1 =>
        refine vt_is (vt_w (vw_or (t := false) (u := false) (vt_is (vt_comp (d1 := .int 0) (ve_is (ve_bin (ve_ty (id := "int") (va_cons (ve_is (ve_bin (ve_var (d := natD n) (i := 4) rfl rfl (by walk_at "vis")) (ve_var (d := natD m) (i := 6) rfl rfl (by walk_at "vis")) (bo_mulL (by omega))) (by show D.int _ = D.int _; rw [Int.natCast_mul] : _ = natD (n * m))) va_nil) rfl T.mI boot_int to_int) (ve_prop T.cls.cl PP FPp hgd (hr 2 (by decide)) bPp (ve_var (d := .ins C (tmD ks c0 Cs)) (i := 17) rfl rfl (by walk_at "vis")) ⟨ks, c0, Cs, rfl, hCs, by omega, rfl⟩) (bo_mod (by omega))) (by show D.int _ = D.int _; rw [hmod])) ve_int co_neI) (by rfl)) (fun _ => vw_or1 (vt_is (vt_comp (d1 := .bl (decide (Cs ≠ []))) (d2 := .bl (!decide (Cs = []))) (ve_prop T.cls.cl PE FPe hgd (hr 2 (by decide)) bPe (ve_var (d := .ins C (tmD ks c0 Cs)) (i := 17) rfl rfl (by walk_at "vis")) ⟨ks, c0, Cs, rfl, hCs, by omega, rfl⟩) (ve_comp (ve_prop T.cls.cl PM FPm hgd (hr 2 (by decide)) bPm (ve_var (d := .ins C (tmD ks c0 Cs)) (i := 17) rfl rfl (by walk_at "vis")) ⟨ks, c0, Cs, rfl, hCs, by omega, rfl⟩) (ve_tup va_nil (Nat.zero_le _)) (tE hu64)) (co_neD hu64 rfl rfl)) ?x3)) (pw_all_or _ _))) (by rfl)
        case x3 =>
          by_cases h : Cs = []
          · subst h; rfl
          · have h1 : decide (Cs ≠ []) = true := decide_eq_true h
            have h2 : decide (Cs = []) = false := decide_eq_false h
            rw [h1, h2]
            rfl
      case x2 =>
        intro _ B14 e14
        refine rn_go ?_
        exact rn_nextW ⟨rfl, _, rfl⟩ e14
    case m4 =>
      rintro B13 env3 ow3 e13 ⟨rfl, u17, rfl⟩
      exact rn_nextW ⟨rfl, sub.trans (s3.trans (s4.trans s5)), c5, rfl, rfl⟩ (e3.trans (e4.trans (e5.trans (e6.trans (e7.trans (e8.trans (e9.trans (e10.trans (e11.trans (e12.trans e13))))))))))
end
end K2
set_option Elab.async false
set_option linter.all false
set_option maxRecDepth 100000
set_option maxHeartbeats 4000000
namespace K2
open PySem L2 Vd
open PySem.Spec PyProof.Rows
/-! the walk over data -/
local macro_rules | `(tactic| walk_at "vis") => `(tactic| first | exact Or.inl rfl | exact Or.inr (Or.inl rfl) | exact Or.inr (Or.inr rfl))
local macro_rules | `(tactic| walk_at "none") => `(tactic| first | assumption)
local macro_rules | `(tactic| walk_at "num") => `(tactic| first | decide | omega)
local macro_rules | `(tactic| walk_at "vr") => `(tactic| first
  | exact bo_add | exact bo_sub | exact bo_mulR (by decide) | exact bo_mulL (by decide) | exact bo_mod (by walk_at "num") | exact bo_div (by walk_at "num") (by walk_at "num") | exact bo_pow (by decide) (by decide) (by decide) | exact bo_cat (by walk_at "num") | exact bo_mulR (by omega) | exact bo_mulL (by omega))
local macro_rules | `(tactic| walk_at "vq") => `(tactic| first
  | exact co_lt | exact co_le | exact co_gt | exact co_ge | exact co_eqI | exact co_neI | exact co_eqS | exact co_neS)
local macro_rules | `(tactic| walk_at "vx") => `(tactic| first
  | exact xo_own (by assumption) rfl | exact xo_lst rfl | exact xo_tup rfl)
local macro_rules | `(tactic| walk_at "vf") => `(tactic| first
  | exact fo_abs | exact fo_lenL | exact fo_lenT | exact fo_lenO (by assumption) | exact fo_divmod (by walk_at "num") (by walk_at "num") | exact fo_max rfl | exact fo_min rfl)
local macro_rules | `(tactic| walk_at "vn") => `(tactic| first
  | exact ve_var (i := 0) rfl rfl (by walk_at "vis") | exact ve_var (i := 1) rfl rfl (by walk_at "vis") | exact ve_var (i := 2) rfl rfl (by walk_at "vis") | exact ve_var (i := 3) rfl rfl (by walk_at "vis") | exact ve_var (i := 4) rfl rfl (by walk_at "vis") | exact ve_var (i := 5) rfl rfl (by walk_at "vis") | exact ve_var (i := 6) rfl rfl (by walk_at "vis") | exact ve_var (i := 7) rfl rfl (by walk_at "vis"))
local macro_rules | `(tactic| walk_at "vd") => `(tactic| first
  | exact ve_int | exact ve_bl | exact ve_non | exact ve_str
  | (refine' ve_bin ?ha ?hb ?hr; (case ha => walk_at "vd"); (case hb => walk_at "vd"); (case hr => walk_at "vr"))
  | (refine' ve_sub ?ha ?hb (fun _ _ => rfl) ?hr; (case ha => walk_at "vd"); (case hb => walk_at "vd"); (case hr => walk_at "vx"))
  | (refine' ve_ty (id := "int") ?ha rfl ?hm boot_int ?hr; (case ha => walk_at "va"); (case hm => walk_at "none"); (case hr => exact to_int))
  | (refine' ve_bi ?ha rfl ?hm ?hv ?hr; (case hv => first | exact boot_abs | exact boot_len | exact boot_divmod | exact boot_max | exact boot_min); (case ha => walk_at "va"); (case hm => walk_at "none"); (case hr => walk_at "vf"))
  | (refine' ve_tup ?ha ?hl; (case ha => walk_at "va"); (case hl => walk_at "num"))
  | (refine' ve_lst ?ha ?hl; (case ha => walk_at "va"); (case hl => walk_at "num"))
  | (refine' ve_comp ?ha ?hb ?hr; (case ha => walk_at "vd"); (case hb => walk_at "vd"); (case hr => walk_at "vq"))
  | walk_at "vn")
local macro_rules | `(tactic| walk_at "va") => `(tactic| first | exact va_nil | (refine' va_cons ?ha ?hb; (case ha => walk_at "vd"); (case hb => walk_at "va")))
local macro_rules | `(tactic| walk_at "vt") => `(tactic| first
  | (refine' vt_comp ?ha ?hb ?hr; (case ha => walk_at "vd"); (case hb => walk_at "vd"); (case hr => walk_at "vq"))
  | (refine' vt_val ?hv; case hv => walk_at "vd"))
/-! ### the law -/
abbrev sL4 : Stmt := s_law
theorem scL4 : FnScope ["script", "two", "three", "seen", "due", "spot"] ["script"] (defScope sL4) := ⟨rfl, rfl, rfl, by decide +kernel, rfl, by decide +kernel, by decide +kernel⟩
instance {l : List Nat} : Decidable (Per.Asc l) := inferInstanceAs (Decidable (l.Pairwise (· < ·)))
/-- a short pattern is told by its least period where every shorter one fails at some place -/
theorem lst_by {n : Nat} {M : List Nat} (p : Per.Pat n M) (h : ∀ m, m < n → 0 < m → ∃ x, x < n ∧ Per.fn n M (x + m) ≠ Per.fn n M x) : Per.Lst n M n M := ⟨p, rfl, fun m hm hP => by
  rcases Nat.lt_or_ge m n with q | q
  · obtain ⟨x, _, hx⟩ := h m q hm
    exact absurd (hP x) hx
  · exact q⟩
theorem l2 : Per.Lst 2 [0] 2 [0] := lst_by ⟨by decide, by decide, by decide⟩ (by decide)
theorem l2' : Per.Lst 2 [1] 2 [1] := lst_by ⟨by decide, by decide, by decide⟩ (by decide)
theorem l3 : Per.Lst 3 [0] 3 [0] := lst_by ⟨by decide, by decide, by decide⟩ (by decide)
theorem l6a : Per.Lst 6 [0] 6 [0] := lst_by ⟨by decide, by decide, by decide⟩ (by decide)
theorem l6o : Per.Lst 6 [0, 2, 3, 4] 6 [0, 2, 3, 4] := lst_by ⟨by decide, by decide, by decide⟩ (by decide)
theorem l6s : Per.Lst 6 [2, 4] 6 [2, 4] := lst_by ⟨by decide, by decide, by decide⟩ (by decide)
theorem l1 : Per.Lst 1 [0] 1 [0] := lst_by ⟨by decide, by decide, by decide⟩ (by decide)
theorem fnIn {n x : Nat} {M : List Nat} : inT [] n M x = decide (x % n ∈ M) := by
  unfold inT Per.fn
  simp
theorem x1 : setT [] 6 [0] = ("Times(period=6, marks=(0,))" : Str) := by decide +kernel
theorem x2 : setT [] 6 [0, 2, 3, 4] = ("Times(period=6, marks=(0, 2, 3, 4))" : Str) := by decide +kernel
theorem x3 : setT [] 6 [2, 4] = ("Times(period=6, marks=(2, 4))" : Str) := by decide +kernel
theorem x4 : setT [4] 1 [0] = ("Times(4, period=1, marks=(0,))" : Str) := by decide +kernel
theorem sem1 (x : Nat) : (inT [] 2 [0] x && inT [] 3 [0] x) = inT [] 6 [0] x := by
  rw [fnIn, fnIn, fnIn, ← Bool.decide_and, decide_eq_decide]
  simp only [List.mem_cons, List.not_mem_nil, or_false]
  omega
theorem sem2 (x : Nat) : (inT [] 2 [0] x || inT [] 3 [0] x) = inT [] 6 [0, 2, 3, 4] x := by
  rw [fnIn, fnIn, fnIn, ← Bool.decide_or, decide_eq_decide]
  simp only [List.mem_cons, List.not_mem_nil, or_false]
  omega
theorem sem3 (x : Nat) : (inT [] 2 [0] x && !inT [] 3 [0] x) = inT [] 6 [2, 4] x := by
  rw [fnIn, fnIn, fnIn, ← decide_not, ← Bool.decide_and, decide_eq_decide]
  simp only [List.mem_cons, List.not_mem_nil, or_false]
  omega
theorem sem4 (x : Nat) : (inT [] 2 [0] x || inT [] 2 [1] x) = inT [] 1 [0] x := by
  rw [fnIn, fnIn, fnIn, ← Bool.decide_or, decide_eq_decide]
  simp only [List.mem_cons, List.not_mem_nil, or_false]
  omega
theorem sem5 (x : Nat) : (inT [] 1 [0] x && !inT [4] 1 [] x) = inT [4] 1 [0] x := by
  unfold inT Per.fn
  have e : x % 1 = 0 := Nat.mod_one x
  rw [e]
  by_cases h : x = 4
  · subst h; decide
  · simp [h]
end K2
set_option Elab.async false
set_option linter.all false
set_option maxRecDepth 100000
set_option maxHeartbeats 4000000
namespace K2
open PySem L2 Vd
open PySem.Spec PyProof.Rows
/-! the walk over data -/
local macro_rules | `(tactic| walk_at "vis") => `(tactic| first | exact Or.inl rfl | exact Or.inr (Or.inl rfl) | exact Or.inr (Or.inr rfl))
local macro_rules | `(tactic| walk_at "none") => `(tactic| first | assumption)
local macro_rules | `(tactic| walk_at "num") => `(tactic| first | decide | omega)
local macro_rules | `(tactic| walk_at "vr") => `(tactic| first
  | exact bo_add | exact bo_sub | exact bo_mulR (by decide) | exact bo_mulL (by decide) | exact bo_mod (by walk_at "num") | exact bo_div (by walk_at "num") (by walk_at "num") | exact bo_pow (by decide) (by decide) (by decide) | exact bo_cat (by walk_at "num") | exact bo_mulR (by omega) | exact bo_mulL (by omega))
local macro_rules | `(tactic| walk_at "vq") => `(tactic| first
  | exact co_lt | exact co_le | exact co_gt | exact co_ge | exact co_eqI | exact co_neI | exact co_eqS | exact co_neS)
local macro_rules | `(tactic| walk_at "vx") => `(tactic| first
  | exact xo_own (by assumption) rfl | exact xo_lst rfl | exact xo_tup rfl)
local macro_rules | `(tactic| walk_at "vf") => `(tactic| first
  | exact fo_abs | exact fo_lenL | exact fo_lenT | exact fo_lenO (by assumption) | exact fo_divmod (by walk_at "num") (by walk_at "num") | exact fo_max rfl | exact fo_min rfl)
local macro_rules | `(tactic| walk_at "vn") => `(tactic| first
  | exact ve_var (i := 0) rfl rfl (by walk_at "vis") | exact ve_var (i := 1) rfl rfl (by walk_at "vis") | exact ve_var (i := 2) rfl rfl (by walk_at "vis") | exact ve_var (i := 3) rfl rfl (by walk_at "vis") | exact ve_var (i := 4) rfl rfl (by walk_at "vis") | exact ve_var (i := 5) rfl rfl (by walk_at "vis") | exact ve_var (i := 6) rfl rfl (by walk_at "vis") | exact ve_var (i := 7) rfl rfl (by walk_at "vis"))
local macro_rules | `(tactic| walk_at "vd") => `(tactic| first
  | exact ve_int | exact ve_bl | exact ve_non | exact ve_str
  | (refine' ve_bin ?ha ?hb ?hr; (case ha => walk_at "vd"); (case hb => walk_at "vd"); (case hr => walk_at "vr"))
  | (refine' ve_sub ?ha ?hb (fun _ _ => rfl) ?hr; (case ha => walk_at "vd"); (case hb => walk_at "vd"); (case hr => walk_at "vx"))
  | (refine' ve_ty (id := "int") ?ha rfl ?hm boot_int ?hr; (case ha => walk_at "va"); (case hm => walk_at "none"); (case hr => exact to_int))
  | (refine' ve_bi ?ha rfl ?hm ?hv ?hr; (case hv => first | exact boot_abs | exact boot_len | exact boot_divmod | exact boot_max | exact boot_min); (case ha => walk_at "va"); (case hm => walk_at "none"); (case hr => walk_at "vf"))
  | (refine' ve_tup ?ha ?hl; (case ha => walk_at "va"); (case hl => walk_at "num"))
  | (refine' ve_lst ?ha ?hl; (case ha => walk_at "va"); (case hl => walk_at "num"))
  | (refine' ve_comp ?ha ?hb ?hr; (case ha => walk_at "vd"); (case hb => walk_at "vd"); (case hr => walk_at "vq"))
  | walk_at "vn")
local macro_rules | `(tactic| walk_at "va") => `(tactic| first | exact va_nil | (refine' va_cons ?ha ?hb; (case ha => walk_at "vd"); (case hb => walk_at "va")))
local macro_rules | `(tactic| walk_at "vt") => `(tactic| first
  | (refine' vt_comp ?ha ?hb ?hr; (case ha => walk_at "vd"); (case hb => walk_at "vd"); (case hr => walk_at "vq"))
  | (refine' vt_val ?hv; case hv => walk_at "vd"))
section
variable {P : Program} {w : World} {K : PySem.W.Frag} {mg : Str → Option Value} {base : Heap}
theorem ok_law4 {f fU fR C : Addr} {fd fdU fdR : FuncData} (Fn : Fun K "law" "law" sL4 f fd) (FU : FnG gd0 P w K mg base CX0 1 fU fdU ["script", "spot"] (spCup K)) (mU : mg "_law_cup" = some (.ref fU)) (kU : PySem.W.keepIn K (.ref fU) = true) (bU : Binds K fdU ["script", "spot"] [])
    (FR : FnG gd0 P w K mg base CX0 10 fR fdR ["cup"] (spC K G0 RTr4)) (mR : mg "_law_right" = some (.ref fR)) (kR : PySem.W.keepIn K (.ref fR) = true) (bR : Binds K fdR ["cup"] [])
    (T : Q4 P w K mg base C) (rpr : ∃ f fd, PySem.W.findIn K (.ref C) "__repr__" = some (some (.ref f)) ∧ PySem.W.isFn K (.ref f) = true ∧ FnG gd0 P w K mg base CX0 1 f fd ["self"] (spR K (RRpr C)) ∧ Binds K fd ["self"] [])
    (mk : ∃ f, Mk K C f ∧ InS gd0 P w K mg base 4 f [] (spI K C (RIni fun kd => g0 kd [natD 1, .tup []])) ∧ InS gd0 P w K mg base 4 f ["period", "marks"] (spI K C (RIni fun kd => gPM kd [])))
    (mAll : mg "all" = none) (mRg : mg "range" = none) (mMx : mg "max" = none) (mMn : mg "min" = none) (mLn : mg "len" = none) : FnG gd0 P w K mg base CX0 11 f fd ["script"] (spLaw K) := by
  refine okG Fn scL4 (fun vs H Q E ⟨F, a, ns, e, _⟩ => by rw [e]; rfl) fun cdv A0 outer s H vs Q E hgd hr10 ⟨F, a, ns, e, wo, hS, hn, kQ⟩ => ?_
  subst e
  refine ⟨F, fun _ => none, [.rol (ns.map D.int)], wo, .cons (.rol hS (Rps.ints ns)) .nil, ?_⟩
  have hr : ∀ k, k ≤ 10 → Room k (A0.deeper (envOfC "law" (defScope sL4) s.heap.objs.size f cdv)) := fun k hk => hr10.mono hk
  have hu64 : A0.units + 3 + 64 < cLine := by
    have z : A0.units + 3 + 16 * 10 + 200 < cLine := hr10.un
    omega
  obtain ⟨g, mk0, i00, iPM⟩ := mk
  obtain ⟨f1, fd1, s1, n1, F1, b1⟩ := rpr
  obtain ⟨fA, fdA, BA, FA, bA⟩ := T.and_
  obtain ⟨fO, fdO, BO, FO, bO⟩ := T.or_
  obtain ⟨fS, fdS, BU, FS, bS⟩ := T.sub
  have tw : ∀ {n : Nat} {M : List Nat}, Per.Lst n M n M → Tld [] M n := fun l => ⟨List.Pairwise.nil, l⟩
  have nil0 : ∀ x ∈ ([] : List Nat), x ≤ 1000000000000000000000000000000 := fun x hx => by cases hx
  have j2 : IniOk [] 2 [0] 2 [0] := ⟨List.Pairwise.nil, nil0, l2.pat, by decide, l2⟩
  have j2' : IniOk [] 2 [1] 2 [1] := ⟨List.Pairwise.nil, nil0, l2'.pat, by decide, l2'⟩
  have j3 : IniOk [] 3 [0] 3 [0] := ⟨List.Pairwise.nil, nil0, l3.pat, by decide, l3⟩
  have j4 : IniOk [4] 1 [] 1 [] := ⟨List.pairwise_singleton _ _, (fun x hx => by rw [List.mem_singleton.mp hx]; decide), Tld.nil.lst.pat, by decide, Tld.nil.lst⟩
  have T4 : Tld [4] [] 1 := ⟨List.pairwise_singleton _ _, Tld.nil.lst⟩
  obtain ⟨k1, C1, c1, K1, S1, _, _, R1⟩ := op_ex (C := C) (lim := 60) (op := fun x y => x && y) pat_an fn_an dv_an (tw l2) (tw l3) (by decide) (by decide) (by decide)
  obtain ⟨rfl, rfl, rfl⟩ := canon K1.asc List.Pairwise.nil K1.lst l6a fun x => (S1 x).trans (sem1 x)
  obtain ⟨k2, C2, c2, K2', S2, _, _, R2⟩ := op_ex (C := C) (lim := 100000) (op := fun x y => x || y) pat_or fn_or dv_or (tw l2) (tw l3) (by decide) (by decide) (by decide)
  obtain ⟨rfl, rfl, rfl⟩ := canon K2'.asc List.Pairwise.nil K2'.lst l6o fun x => (S2 x).trans (sem2 x)
  obtain ⟨k3, C3, c3, K3, S3, _, _, R3⟩ := op_ex (C := C) (lim := 100000) (op := fun x y => x && !y) pat_lo fn_lo dv_lo (tw l2) (tw l3) (by decide) (by decide) (by decide)
  obtain ⟨rfl, rfl, rfl⟩ := canon K3.asc List.Pairwise.nil K3.lst l6s fun x => (S3 x).trans (sem3 x)
  obtain ⟨k4, C4, c4, K4, S4, _, _, R4⟩ := op_ex (C := C) (lim := 100000) (op := fun x y => x || y) pat_or fn_or dv_or (tw l2) (tw l2') (by decide) (by decide) (by decide)
  obtain ⟨rfl, rfl, rfl⟩ := canon K4.asc List.Pairwise.nil K4.lst l1 fun x => (S4 x).trans (sem4 x)
  obtain ⟨k5, C5, c5, K5, S5, _, _, R5⟩ := op_ex (C := C) (lim := 100000) (op := fun x y => x && !y) pat_lo fn_lo dv_lo (tw l1) T4 (by decide) (by decide) (by decide)
  obtain ⟨rfl, rfl, rfl⟩ := canon K5.asc (List.pairwise_singleton _ _) K5.lst l1 fun x => (S5 x).trans (sem5 x)
  have ft1 : TextFit [] 6 [0] := fit_of (a := 6) (A := [0]) (by decide) (by decide) (by decide) (by decide) (by decide)
  have ft2 : TextFit [] 6 [0, 2, 3, 4] := fit_of (a := 6) (A := [0, 2, 3, 4]) (by decide) (by decide) (by decide) (by decide) (by decide)
  have ft3 : TextFit [] 6 [2, 4] := fit_of (a := 6) (A := [2, 4]) (by decide) (by decide) (by decide) (by decide) (by decide)
  have ft4 : TextFit [4] 1 [0] := fit_of (a := 1) (A := [0]) (by decide) (by decide) (by decide) (by decide) (by decide)
  refine' rn_par (i := 1) (j := 2) (d1 := .ins C (tmD [] 2 [0])) (d2 := .ins C (tmD [] 3 [0])) rfl scL4.nd rfl rfl (by decide) rfl rfl ?p1 ?p2 ?p3 ?p4 rfl rfl ⟨_, ps_par rfl scL4.nd rfl rfl (by decide) rfl rfl pa_can rfl, rfl⟩
  case p4 => rfl
  case p1 => exact ve_mk0 mk0 iPM hgd (hr 5 (by decide)) rfl T.gl (vk_cons ve_int (vk_cons (ve_tup (va_cons ve_int va_nil) (by decide)) vk_nil)) rfl ⟨[], 2, [0], 2, [0], rfl, by decide, rfl, j2, rfl⟩
  case p2 => exact ve_mk0 mk0 iPM hgd (hr 5 (by decide)) rfl T.gl (vk_cons ve_int (vk_cons (ve_tup (va_cons ve_int va_nil) (by decide)) vk_nil)) rfl ⟨[], 3, [0], 3, [0], rfl, by decide, rfl, j3, rfl⟩
  case p3 =>
  intro B1 e1
  refine' rn_newL (j := 3) (ds := [.str "Times(period=6, marks=(0,))", .str "Times(period=6, marks=(0, 2, 3, 4))", .str "Times(period=6, marks=(2, 4))"]) scL4.nd rfl (.inl rfl) ?s1 (by decide) ?s2
  case s1 => exact va_cons (ve_bi (va_cons (ve_bin (ve_var (d := .ins C (tmD [] 2 [0])) (i := 1) rfl rfl (by walk_at "vis")) (ve_var (d := .ins C (tmD [] 3 [0])) (i := 2) rfl rfl (by walk_at "vis")) (bo_own FA hgd (hr 8 (by decide)) bA BA T.cls R1)) va_nil) rfl T.mRp boot_repr (fo_reprOwn F1 hgd (hr 2 (by decide)) b1 s1 n1 ⟨[], 6, [0], rfl, ft1, by rw [x1]⟩)) (va_cons (ve_bi (va_cons (ve_bin (ve_var (d := .ins C (tmD [] 2 [0])) (i := 1) rfl rfl (by walk_at "vis")) (ve_var (d := .ins C (tmD [] 3 [0])) (i := 2) rfl rfl (by walk_at "vis")) (bo_own FO hgd (hr 8 (by decide)) bO BO T.cls R2)) va_nil) rfl T.mRp boot_repr (fo_reprOwn F1 hgd (hr 2 (by decide)) b1 s1 n1 ⟨[], 6, [0, 2, 3, 4], rfl, ft2, by rw [x2]⟩)) (va_cons (ve_bi (va_cons (ve_bin (ve_var (d := .ins C (tmD [] 2 [0])) (i := 1) rfl rfl (by walk_at "vis")) (ve_var (d := .ins C (tmD [] 3 [0])) (i := 2) rfl rfl (by walk_at "vis")) (bo_own FS hgd (hr 8 (by decide)) bS BU T.cls R3)) va_nil) rfl T.mRp boot_repr (fo_reprOwn F1 hgd (hr 2 (by decide)) b1 s1 n1 ⟨[], 6, [2, 4], rfl, ft3, by rw [x3]⟩)) va_nil))
  case s2 =>
  intro B2 q e2 hq
  refine' rn_app (q := q) (d := .str "Times(4, period=1, marks=(0,))") ?o1 ou_same ?o2 (by decide) ?o3
  case o1 => exact ve_var (i := 3) rfl rfl (by walk_at "vis")
  case o2 => exact ve_bi (va_cons (ve_bin (ve_bin (ve_var (d := .ins C (tmD [] 2 [0])) (i := 1) rfl rfl (by walk_at "vis")) (ve_mk0 mk0 iPM hgd (hr 5 (by decide)) rfl T.gl (vk_cons ve_int (vk_cons (ve_tup (va_cons ve_int va_nil) (by decide)) vk_nil)) rfl ⟨[], 2, [1], 2, [1], rfl, by decide, rfl, j2', rfl⟩) (bo_own FO hgd (hr 8 (by decide)) bO BO T.cls R4)) (ve_mk mk0 i00 hgd (hr 5 (by decide)) rfl T.gl (va_cons ve_int va_nil) vk_nil rfl (by decide) ⟨[4], 1, [], 1, [], rfl, by decide, rfl, j4, rfl⟩) (bo_own FS hgd (hr 8 (by decide)) bS BU T.cls R5)) va_nil) rfl T.mRp boot_repr (fo_reprOwn F1 hgd (hr 2 (by decide)) b1 s1 n1 ⟨[4], 1, [0], rfl, ft4, by rw [x4]⟩)
  case o3 =>
  intro B3 e3
  refine' rn_freeze (j := 3) (q := q) rfl ou_same ?z1
  intro B4 e4
  refine' rn_set (i := 4) (d := .lst [.str "Times(period=6, marks=(0,))", .str "Times(period=6, marks=(0, 2, 3, 4))", .str "Times(period=6, marks=(2, 4))"]) scL4.nd rfl (.inl rfl) ?d1 ?d2
  case d1 => exact ve_lst (va_cons ve_str (va_cons ve_str (va_cons ve_str va_nil))) (by decide)
  case d2 =>
  intro B5 e5
  refine' rn_if (t := false) ?t1 (fun z => nomatch z) ?t2
  case t1 => exact vt_is (vt_comp (ve_var (d := .lst [.str "Times(period=6, marks=(0,))", .str "Times(period=6, marks=(0, 2, 3, 4))", .str "Times(period=6, marks=(2, 4))", .str "Times(4, period=1, marks=(0,))"]) (i := 3) rfl rfl (by walk_at "vis")) (ve_bin (ve_var (d := .lst [.str "Times(period=6, marks=(0,))", .str "Times(period=6, marks=(0, 2, 3, 4))", .str "Times(period=6, marks=(2, 4))"]) (i := 4) rfl rfl (by walk_at "vis")) (ve_lst (va_cons ve_str va_nil) (by decide)) (bo_cat (by decide))) (co_neD hu64 (by decide +kernel) (by decide +kernel))) (by decide +kernel)
  case t2 =>
  intro _ B6 e6
  refine rn_go ?_
  have hlen : ((ns.map D.int).length : Int) = ns.length := by rw [List.length_map]
  obtain ⟨M0, hM0⟩ : ∃ M0 : Int, M0 = if (5 : Int) < (((ns.map D.int).length : Nat) : Int) then (5 : Int) else (((ns.map D.int).length : Nat) : Int) := ⟨_, rfl⟩
  obtain ⟨M, hM⟩ : ∃ M : Int, M = if M0 > 2 then M0 else 2 := ⟨_, rfl⟩
  have hM1 : 2 ≤ M ∧ M ≤ 5 := by
    rw [hlen] at hM0
    split at hM0 <;> split at hM <;> omega
  refine' rn_ret (d := .bl true) ?h (fun F2 H2 v x2 w2 r2 => by cases r2; exact kQ H2)
  case h =>
    refine' ve_is (ve_bi (va_cons ?ha va_nil) rfl mAll boot_all (fo_all (bs := List.replicate M.toNat true) rfl)) ?hq
    case ha =>
      refine' ve_lcZ (j := 5) (ds := rangeD 0 M.toNat) ((List.replicate M.toNat true).map D.bl) ?ul rfl scL4.nd ?ui (blkOk_by (N := ["script", "two", "three", "seen", "due", "spot"]) (sc := defScope sL4) (by decide +kernel)) ?um ?ug ?ue
      case ul => rw [List.length_map, List.length_replicate, rangeD_len]
      case ui =>
        refine' vi_range1 rfl mRg ?va (by omega)
        case va =>
          rw [hM]
          refine' ve_bi (va_cons ve_int (va_cons ?vb va_nil)) rfl mMx boot_max (fo_max rfl)
          case vb =>
            rw [hM0]
            refine' ve_bi (va_cons ?vc (va_cons ve_int va_nil)) rfl mMn boot_min (fo_min rfl)
            case vc => exact ve_bi (va_cons (ve_var (i := 0) rfl rfl (by walk_at "vis")) va_nil) rfl mLn boot_len fo_lenR
      case um => rw [rangeD_len]; omega
      case ug => exact fun _ _ _ _ _ => pg_name scL4.nd rfl (.inl rfl)
      case ue =>
        intro n d r ow' hd hr' sub s0 H0 C0 cl fp
        obtain ⟨hn8, rfl⟩ := rangeD_get hd
        have e0 : (0 : Int) + ((n : Nat) : Int) = (n : Int) := by omega
        rw [e0]
        obtain rfl : r = .bl true := by
          rw [List.getElem?_map] at hr'
          have y : (List.replicate M.toNat true)[n]? = some true := by simp [hn8]
          rw [y] at hr'
          exact (Option.some.inj hr').symm
        exact ve_right FR FU hgd (hr 1 (by decide)) (hr 10 (by decide)) rfl rfl mU mR kU kR bU bR (ve_var (i := 0) rfl rfl (by walk_at "vis")) (ve_var (i := 5) rfl rfl (by walk_at "vis")) rfl (fun d' h => h)
    case hq => simp
end
end K2
set_option Elab.async false
set_option linter.all false
set_option maxRecDepth 100000
set_option maxHeartbeats 4000000
/-! The text of an own object within the text of a list. -/
namespace Vd
open PySem L2
open PySem.Spec PyProof.Rows
section
variable {prog : Program} {w : World} {A : Around} {E : Value → Shared → Prop} {s : Shared} {K : PySem.W.Frag} {x C f : Addr} {h₀ : Heap} {L : Addr} {m : Str → Option Value} {ox : Obj} {od : Option Obj} {base : Nat}
theorem under_own {Q : Str → Shared → Prop} (hu : A.units < cLine) (hb : base ≤ sizeLine) (fr : Fr h₀ L s.heap m) (X₀ : K.In h₀) (I : PySem.W.InstAt s.heap x ox C od) (hs : PySem.W.findIn K (.ref C) "__repr__" = some (some (.ref f))) (hf : PySem.W.isFn K (.ref f) = true)
    (h : wpAny (model prog w) A (call (.ref f) [.ref x]) (fun v s' => ∃ t u, v = .str t u ∧ Q t s') E s) : wpAny (model prog w) A (pyReprUnder base (.ref x)) Q E s := by
  have X := X₀.keeps fr.keep
  refine PySem.wpAny_pyReprUnder_ref hb ?_
  unfold pyReprObjUnder pyReprObjBy
  refine wpAny_bind (wpAny_cRoomFor hu ?_)
  refine wpAny_bind (wpAny_bind (I.type.here ((PySem.W.looks_findIn X hs).here ?_)))
  show wpAny _ _ (if (some (Value.ref f)).isNone = true then _ else _) _ _ _
  rw [if_neg (by simp)]
  refine wpAny_bind ?_
  simp only [callSpecialIfBoundBy?, bindSpecialIfBound?]
  refine wpAny_holding (wpAny_bind (wpAny_bind (wpAny_bind (I.type.here ((PySem.W.looks_findIn X hs).here ?_)))))
  refine wpAny_bind (wpAny_askSetting (wpAny_ite ?_))
  have back : wpAny (model prog w) A (call (.ref f) ([.ref x] ++ []) >>= fun v => pure (some v)) (fun r s' => wpAny (model prog w) A (match r with
      | some r => do if ← isInstance r (.type "str") then pure r else raiseError "TypeError" s!"__repr__ returned non-string (type {← typeNameOf r})"
      | none => unsupported "repr:special-get-raises") (fun v s' => ∃ x u, v = .str x u ∧ Q x s') E s') E s := wpAny_bind (wpAny_mono h (fun v s' hv => by
    obtain ⟨t, u, rfl, q⟩ := hv
    refine wpAny_pure ?_
    refine wpAny_bind (wpAny_isInstance (typeIs_str _ _ _) isSubtype_str_str ?_)
    first
      | exact wpAny_pure ⟨_, _, rfl, q⟩
      | (rw [if_pos rfl]; exact wpAny_pure ⟨_, _, rfl, q⟩)
      | (simp only [if_true]; exact wpAny_pure ⟨_, _, rfl, q⟩)) fun _ _ z => z)
  split
  · exact wpAny_bind ((PySem.W.bind_fn X _ (beq_iff_eq.mp hf)).here (wpAny_pure (by exact back)))
  · exact wpAny_tryCatch (wpAny_bind ((PySem.W.bind_fn X _ (beq_iff_eq.mp hf)).here (wpAny_pure (by exact back))))
end
end Vd
set_option Elab.async false
set_option linter.all false
set_option maxRecDepth 100000
set_option maxHeartbeats 4000000
/-! The text of a list of own objects. -/
namespace Vd
open PySem L2
open PySem.Spec PyProof.Rows
/-- a text may be under way at L alone -/
def gdL (L : Addr) : Gds := fun g => ∃ l, g = some l ∧ ∀ b, b ≠ L → Clear l b
/-- data to data, while a list stands at L -/
def spL (L : Addr) (K : PySem.W.Frag) (R : List D → D → Prop) : Sp := fun vs H Q _ => ∃ F ow ds d, Wo K ow F H ∧ (∃ xs, F L = some (.lst xs)) ∧ Rps K F vs ds ∧ R ds d ∧ Post K ow F d Q
section
variable {P : Program} {w : World} {K : PySem.W.Frag} {mg : Str → Option Value} {base : Heap}
theorem okL {γ : Gds} {L : Addr} {x qual : Str} {st : Stmt} {f : Addr} {fd : FuncData} {N ps : List Str} {k : Nat} {R : List D → D → Prop} (Fn : Fun K x qual st f fd) (S : FnScope N ps (defScope st)) (len : ∀ ds d, R ds d → ds.length = ps.length)
    (body : ∀ (cdv : Value) (A : Around) (outer : List Env) (s : Shared) (H B : Hp) (ow : Ow) (ds : List D) (d : D) (Q : VK) (E : XK), γ A.guards → Room k (A.deeper (envOfC qual (defScope st) s.heap.objs.size f cdv)) → (∃ xs, B L = some (.lst xs)) → R ds d → Post K ow B d Q →
      Rn (cxOf CX0 P w K mg base N qual (defScope st) f cdv A outer s H E).nox B (defBody st) { nx := fun _ H' => Q .non H', rt := Q } (env0 N ds) ow) : FnG γ P w K mg base CX0 (k + 1) f fd ps (spL L K R) :=
  okG Fn S (fun vs H Q E ⟨F, ow, ds, d, wo, _, r, hR, _⟩ => by rw [r.length]; exact len ds d hR) fun cdv A outer s H vs Q E hgd hr ⟨F, ow, ds, d, wo, hL, r, hR, k⟩ => ⟨F, ow, ds, wo, r, body cdv A outer s H F ow ds d Q E hgd hr hL hR k⟩
end
section
variable {X : Cx} {B : Hp} {env : List (Option D)} {ow : Ow} {e v1 v2 : Expr} {es rest : List Expr} {d : D} {pos p : Pos} {y : Str} {ys : List Str}
/-- an expression, where the frozen part at the def's entry may be used -/
structure VeB (X : Cx) (B : Hp) (e : Expr) (env : List (Option D)) (ow : Ow) (d : D) : Prop where
  run : ∀ (σ : L2.St) (F H : Hp) (Q : VK), Ex B F → Sl X.K F σ env → Wo X.K ow F H → Post X.K ow F d Q → WpE X e σ H Q
theorem veB_of (h : Ve X e env ow d) : VeB X B e env ow d := .mk fun σ F H Q _ s w k => h σ F H Q s w k
inductive VjB (X : Cx) (B : Hp) (env : List (Option D)) (ow : Ow) : List Expr → List Str → Prop
  | nil : VjB X B env ow [] []
  | cons {e : Expr} {y : Str} {es : List Expr} {ys : List Str} : VeB X B e env ow (.str y) → VjB X B env ow es ys → VjB X B env ow (e :: es) (y :: ys)
theorem vj_runB {σ : L2.St} : ∀ {es : List Expr} {ys : List Str}, VjB X B env ow es ys → ∀ (acc : Str) (F H : Hp) (Q : Str → Hp → Prop), acc.length + lenS ys ≤ 100000 → Ex B F → Sl X.K F σ env → Wo X.K ow F H → (∀ F2 H2, Ex F F2 → Wo X.K ow F2 H2 → Q (catS acc ys) H2) → tJs (es.map fun e => WpE X e) acc σ H Q
  | _, _, .nil, acc, F, H, Q, _, _, s, w, h => h F H (Evl.Ex.refl F) w
  | _, _, .cons (y := y) (ys := ys) h r, acc, F, H, Q, hz, eB, s, w, k0 => h.run σ F H _ eB s w fun F1 H1 v e1 w1 r1 => by
    cases r1
    have z : acc.length + (y.length + lenS ys) ≤ 100000 := hz
    have l : (acc ++ y).length = acc.length + y.length := strLen_append ..
    refine ⟨y, rfl, Evl.sz_of (by omega), vj_runB r (acc ++ y) F1 H1 Q (by omega) (eB.trans e1) (s.mono e1) w1 fun F2 H2 e2 w2 => k0 F2 H2 (e1.trans e2) w2⟩
theorem veB_joined (h : VjB X B env ow (v1 :: v2 :: rest) ys) (hz : lenS ys ≤ 100000) : VeB X B (.JoinedStr (v1 :: v2 :: rest) pos) env ow (.str (catS Str.empty ys)) := .mk fun σ F H Q eB s w k0 =>
  wpe (pe_joined (pj_all _)) (vj_runB h Str.empty F H _ (by have : Str.empty.length = 0 := rfl; omega) eB s w fun F2 H2 e2 w2 => (k0.ex e2).here w2 (.str _))
theorem rn_retB {Dn : Ends} {rs : List Stmt} (h : VeB X B e env ow d) (k : Post X.K ow B d Dn.rt) : Rn X B (.Return (some e) pos :: rs) Dn env ow := rn_one ⟨_, ps_ret pe_can, fun σ F H eB s w => h.run σ F H _ eB s w (k.ex eB)⟩
def intS (l : List Int) : List Str := l.map fun i => ((toString i : String) : Str)
theorem all_ints {prog : Program} {w : World} {h₀ : Heap} {n : Nat} : ∀ {l : List Int} {its : List Value}, Vals (l.map V.int) its → (∀ i ∈ l, i.natAbs.log2 < 1920) → ReprAllK prog w [] h₀ n its (intS l)
  | [], _, .nil, _ => .nil
  | i :: l, _, .cons r rs, h => by
    obtain ⟨t, rfl⟩ := r
    exact .cons (ReprK.of_is (ReprIs.int t (h i (List.mem_cons_self ..))) [] h₀ n) (all_ints rs fun j hj => h j (List.mem_cons_of_mem _ hj))
theorem pe_fmtTL {L : Addr} (hgd : gdL L X.A.guards) (hu : X.A.units + 70 < cLine) : PE X (.FormattedValue e (-1) none pos) (fun σ H Q => WpE X e σ H fun x H1 => ∃ a l, x = .ref a ∧ SqT X.K H1 a (l.map V.int) ∧ (∃ xs, H1 L = some (.lst xs)) ∧ (∀ i ∈ l, i.natAbs.log2 < 1920) ∧ (tupleText (intS l)).length ≤ sizeLine ∧ Q (.str (tupleText (intS l))) H1) := by
  refine ⟨fun pins s σ H Q I h => wpAny_FormattedValue_plain (thn (pe_can.run pins s σ H _ I h) fun v s1 hv => ?_)⟩
  obtain ⟨x, H1, I1, r1, a, l, ex, ht, ⟨xs, hL⟩, hi, hz, q⟩ := hv
  subst ex
  obtain ⟨its, rv, ⟨o, ho, hc, n, hd⟩, _⟩ := I1.tuple ht
  obtain rfl : v = Value.ref a := r1
  have ne : a ≠ L := fun z => by
    subst z
    rcases ht with h | ⟨o2, _, _, hk, _⟩
    · rcases h with h | ⟨_, h⟩
      · rw [hL] at h; cases h
      · rw [hL] at h; cases h
    · have z := (I1.bs a o2 (I1.ok.mod.kin a o2 hk)).2
      rw [hL] at z
      cases z
  obtain ⟨g, hg, hcl⟩ := hgd
  exact wpAny_formatField_slot (fun _ _ => nofun) (by omega) ⟨o, ho, hc⟩ F.slot_tuple_format F.slot_tuple_str F.slot_tuple_repr
    (call_tuple_reprK (as := []) (d := 0) (h₀ := s1.heap) ho hc hd (by simp) (by simpa using all_ints rv hi) (A := X.A.in1.in1) hg (fun b hb => by
      obtain rfl : b = a := by simpa using hb
      exact hcl b ne) (by show X.A.units + 1 + 1 + (0 + 1) < cLine; omega) (fun _ _ e => e) (fun h' u tk hk => ⟨_, _, rfl, .str _, H1, I1.kept (t' := tk) hk, ⟨_, rfl⟩, q⟩) hz)
theorem veB_fT {L : Addr} {l : List Int} (hgd : gdL L X.A.guards) (hu : X.A.units + 70 < cLine) (hB : ∃ xs, B L = some (.lst xs)) (h : Ve X e env ow (.tup (l.map D.int))) (hi : ∀ i ∈ l, i.natAbs.log2 < 1920) (hz : (tupleText (intS l)).length ≤ 100000) : VeB X B (.FormattedValue e (-1) none pos) env ow (.str (tupleText (intS l))) := .mk fun σ F H Q eB s w k0 => wpe (pe_fmtTL hgd hu) (h σ F H _ s w fun F1 H1 v e1 w1 r1 => by
  obtain ⟨xs, hB⟩ := hB
  cases r1 with
  | tup g r2 =>
    have z := r2.intsV
    subst z
    exact ⟨_, l, rfl, Evl.ex_t w1.ex g, ⟨xs, w1.ex _ _ (e1 _ _ (eB _ _ hB))⟩, hi, Evl.sz_of hz, (k0.ex e1).here w1 (.str _)⟩)
end
/-! ### the list -/
section
variable {X : Cx} {ow : Ow} {k : Nat} {C f : Addr} {fd : FuncData} {ps : List Str} {R : List D → D → Prop}
/-- the items' texts -/
inductive Its (C : Addr) (R : List D → D → Prop) : List D → List Str → Prop
  | nil : Its C R [] []
  | cons {fl : List (Str × D)} {t : Str} {ds : List D} {ts : List Str} : R [.ins C fl] (.str t) → Its C R ds ts → Its C R (.ins C fl :: ds) (t :: ts)
theorem Its.len : ∀ {ds : List D} {ts : List Str}, Its C R ds ts → ts.length = ds.length
  | _, _, .nil => rfl
  | _, _, .cons _ r => by rw [List.length_cons, List.length_cons, r.len]
theorem Its.at_ : ∀ {ds : List D} {ts : List Str} {i : Nat} {d : D}, Its C R ds ts → ds[i]? = some d → ∃ fl t, d = .ins C fl ∧ ts[i]? = some t ∧ R [.ins C fl] (.str t)
  | _, _, _, _, .nil, h => by simp at h
  | _, _, 0, _, .cons h _, e => by
    simp at e
    subst e
    exact ⟨_, _, rfl, rfl, h⟩
  | _, _, i + 1, _, .cons _ r, e => by
    simp only [List.getElem?_cons_succ] at e ⊢
    exact r.at_ e
theorem vals_get : ∀ {vs : List V} {us : List Value} {i : Nat} {v : V}, Vals vs us → vs[i]? = some v → ∃ u, us[i]? = some u ∧ RelV v u
  | _, _, _, _, .nil, h => by simp at h
  | _, _, 0, _, .cons h _, e => by
    simp at e
    subst e
    exact ⟨_, rfl, h⟩
  | _, _, i + 1, _, .cons _ r, e => by
    simp only [List.getElem?_cons_succ] at e ⊢
    exact vals_get r e
theorem loop_frames {A : Around} {args : Args} : (A.under (.builtin "list.__repr__.loop" args)).frames = A.frames := by
  first | rfl | simp [Around.under, Code.envs, Code.isFrame, pushEnvs]
theorem loop_handled {A : Around} {args : Args} : (A.under (.builtin "list.__repr__.loop" args)).handled = A.handled := by
  first | rfl | simp [Around.under, Code.isFrame]
theorem loop_depth {A : Around} {args : Args} : (A.under (.builtin "list.__repr__.loop" args)).depth ≤ A.depth + 1 := by
  first | exact Nat.le_refl _ | exact Nat.le_succ _ | simp [Around.under, Code.weight, Code.isCreation, Code.isGuard, Code.isCaller, Code.frames, Code.isFrame, guardIds]
theorem room_loop {A : Around} {args : Args} (r : Room (k + 1) A) : Room k (A.under (.builtin "list.__repr__.loop" args)) :=
  ⟨by rw [loop_handled]; exact r.hd, by have := r.dp; have := loop_depth (A := A) (args := args); omega, by have := r.un; rw [units_under_list_loop]; omega⟩
end
end Vd
set_option Elab.async false
set_option linter.all false
set_option maxRecDepth 100000
set_option maxHeartbeats 4000000
/-! The text of a list of own objects: the walk over the items. -/
namespace Vd
open PySem L2
open PySem.Spec PyProof.Rows
open PySem.Sem (wp)
open PySem.Builtin PySem.Builtin.List
section
variable {X : Cx} {ow : Ow} {k : Nat} {C f : Addr} {fd : FuncData} {ps : List Str} {R : List D → D → Prop} {pins : List (Addr × Obj)} {σ : L2.St}
/-- the row of parts: our own, told by nobody -/
structure Pk (X : Cx) (pins : List (Addr × Obj)) (P : Addr) : Prop where
  ne : P ≠ X.env.locals
  nf : P ∉ X.fs
  sz : X.s_0.heap.objs.size ≤ P
  cl : ∀ x c, X.env.cells.lookup x = some c → c ≠ P
  pn : ∀ p ∈ X.pn ++ pins, p.1 ≠ P
/-- what the size of the whole text says of its parts -/
theorem text_sizes {b : Nat} {ts : List Str} (h : b + (listText ts).length ≤ sizeLine) : ts.length ≤ sizeLine ∧ (∀ t ∈ ts, t.length ≤ sizeLine) ∧ b + piled ts ≤ sizeLine ∧ (listText ts).length ≤ sizeLine := by
  obtain ⟨c1, c2, _⟩ := textFrom_len ts 0 "["
  have l : (listText ts).length = (textFrom 0 "[" ts).length + 1 := strLen_append ..
  have c3 := piled_le_listText ts
  simp only [Nat.lt_irrefl, if_false] at c1
  exact ⟨by omega, fun t ht => Nat.le_trans (c2 t ht) (by omega), by omega, by omega⟩
/-- how many parts are laid -/
theorem laid_size {acc : Array Value} {done : List (Str × Tok)} {ts : List Str} {i : Nat} (h1 : acc.toList = strValues done) (h2 : done.map (·.1) = ts.take i) : acc.size ≤ i := by
  have q := congrArg List.length h1
  have r := congrArg List.length h2
  simp only [Array.length_toList, strValues, List.length_map, List.length_take] at q r
  omega
theorem loop_own {a P : Addr} {vs : List V} {ds : List D} {ts : List Str} {F0 : Hp} {A : Around} {b : Nat} {Rr : Result → Shared → Prop}
    (Fn : ∀ L, FnG (gdL L) X.prog X.w X.K X.mg X.base CX0 k f fd ps (spL L X.K R)) (hb : Binds X.K fd ps []) (hs : PySem.W.findIn X.K (.ref C) "__repr__" = some (some (.ref f))) (hf : PySem.W.isFn X.K (.ref f) = true)
    (hA : A.guards = some []) (hfr : A.frames = some X.stack) (hr : Room (k + 1) A) (hF : F0 a = some (.lst vs)) (hrp : Rps X.K F0 vs ds) (hit : Its C R ds ts) (pk : Pk X pins P) (hsz : b + (listText ts).length ≤ sizeLine) :
    ∀ (j i : Nat) (s : Shared) (H F : Hp) (acc : Array Value) (c : Nat) (done : List (Str × Tok)), ds.length - i = j → i ≤ ds.length → Inv X pins σ H s → Wo X.K ow F H → Ex F0 F → H P = none →
    s.heap.get? P = some ⟨.type "list", none, .seq acc c, #[]⟩ → (acc.toList = strValues done) → done.map (·.1) = ts.take i →
    (∀ H' F' s' u, Inv X pins σ H' s' → Wo X.K ow F' H' → Ex F0 F' → Rr (.ok (.ret (.str (listText ts) u))) s') →
    codeAny (model X.prog X.w) A (.builtin "list.__repr__.loop" ⟨[.ref a, rawInt i, .ref P, rawInt ((b + piled (ts.take i) : Nat) : Int)], []⟩) Rr s := by
  have many := hit.len
  obtain ⟨szn, szt, szp, szl⟩ := text_sizes hsz
  rw [many] at szn
  intro j
  induction j with
  | zero =>
    intro i s H F acc c done hk hi I w eF hHP hP hacc hdone hR
    have hin : i = ds.length := by omega
    obtain ⟨z, its, n, r, e⟩ := (show ObjOk X.prog X.w H s.heap a (.lst vs) from I.hok a _ (w.ex _ _ (eF _ _ hF)))
    have hl : its.length = ds.length := by rw [← r.length, hrp.length]
    refine codeAny_builtin PySem.F.entry_list_repr_loop ?_
    show wpAny (model X.prog X.w) _ («list.__repr__.loop» ⟨[.ref a, .int (i : Nat) 0, .ref P, .int ((b + piled (ts.take i) : Nat) : Int) 0], []⟩) _ _ s
    rw [repr_loop_tree]
    refine wpAny_bind (wpAny_listItems e rfl ?_)
    have hnone : its.toArray[(i : Int).toNat]? = none := by simp [hin, hl]
    simp only [hnone]
    unfold reprEnd
    have whole : ∀ A2 : Around, wpAny (model X.prog X.w) A2 (retStr (textFrom 0 "[" ts ++ "]")) (fun fin s' => match fin with | .done f => Rr (.ok f) s' | .again c' => c'.quiet = true ∧ codeAny (model X.prog X.w) A c' Rr s') (fun e s' => Rr (.error e) s') s :=
      fun _ => wpAny_bind (wpAny_mkStr (wpAny_pure (hR H F _ _ (I.tok _) w eF)) szl)
    refine wpAny_bind (wpAny_listItems hP rfl ?_)
    rw [hacc, repr_fold, hdone, List.take_of_length_le (by omega)]
    exact wpAny_bind (wpAny_pure (whole _))
  | succ j ih =>
    intro i s H F acc c done hk hi I w eF hHP hP hacc hdone hR
    have hlt : i < ds.length := by omega
    obtain ⟨fl, t, hd, ht, hRt⟩ := hit.at_ (i := i) (d := ds[i]) (by simp [hlt])
    obtain ⟨v, hv, rv⟩ := hrp.get (i := i) (x := ds[i]) (by simp [hlt])
    have grow := piled_take_succ ht
    have most : piled (ts.take (i + 1)) ≤ piled ts := piled_take_le ..
    obtain ⟨z, its, n, r, e⟩ := (show ObjOk X.prog X.w H s.heap a (.lst vs) from I.hok a _ (w.ex _ _ (eF _ _ hF)))
    obtain ⟨u, hu, ru⟩ := vals_get r hv
    rw [hd] at rv
    have keep := rv.mono eF
    cases rv with
    | @ins x C2 dx fs l g1 r3 =>
    obtain rfl : u = Value.ref x := ru
    refine codeAny_builtin PySem.F.entry_list_repr_loop ?_
    show wpAny (model X.prog X.w) _ («list.__repr__.loop» ⟨[.ref a, .int (i : Nat) 0, .ref P, .int ((b + piled (ts.take i) : Nat) : Int) 0], []⟩) _ _ s
    rw [repr_loop_tree]
    refine wpAny_bind (wpAny_listItems e rfl ?_)
    have hsome : its.toArray[(i : Int).toNat]? = some (Value.ref x) := by simpa using hu
    simp only [hsome]
    rw [Int.toNat_natCast]
    obtain ⟨ox, od, J⟩ := inst_of I (w.ex _ _ (eF _ _ g1))
    obtain ⟨m, fr⟩ := I.fr
    have hr' := room_loop (args := ⟨[.ref a, .int i 0, .ref P, .int ((b + piled (ts.take i) : Nat) : Int) 0], []⟩) hr
    refine wpAny_bind (wpAny_holding (under_own hr'.units0 (by omega) fr I.ok.mod.kin J hs hf ?_))
    have q : spL a X.K R [.ref x] H (fun v H' => v = .str t ∧ ∃ F', Ex F F' ∧ Wo X.K ow F' H') E0 := ⟨F, ow, _, _, w, ⟨vs, eF _ _ hF⟩, .cons keep .nil, hRt, fun F2 H2 v2 e2 w2 r2 => by
      cases r2
      exact ⟨rfl, F2, e2, w2⟩⟩
    have one : (([Value.ref x] : List Value) ++ []).length = ps.length := by
      rw [← (Fn a).len _ _ _ _ q]
      rfl
    have bnd := hb s [.ref x] I.kIn one
    rw [List.append_nil] at bnd
    have e0 := I.env0
    refine wpAny_call (codeAny_mono ((Fn a).run _ X.stack s H ⟨[.ref x], []⟩ [.ref x] [.ref x] _ E0 ⟨_, guards_under_guard (isGuard_list_loop _) hA, fun c hc => (Clear.nil c).cons (fun q => hc q.symm)⟩ hr' ⟨by rw [loop_frames]; exact hfr, e0.mod, e0.bs, e0.bsz, e0.funs, e0.frf, e0.hok, e0.bare⟩ bnd (.cons rfl .nil) q) fun rr s' hq => ?_)
    match rr, hq with
    | .error er, hq => exact False.elim hq
    | .ok .next, hq => exact False.elim hq
    | .ok .brk, hq => exact False.elim hq
    | .ok .cont, hq => exact False.elim hq
    | .ok (.ret u2), hq =>
      obtain ⟨v2, H2, os, bare, un, hok, ru2, ev, F2, e2, w2⟩ := hq
      subst ev
      obtain ⟨tk, ht2⟩ := ru2
      subst ht2
      have nst : P ∉ frs X.stack := fun hm => (List.mem_cons.mp (I.stkSub P hm)).elim pk.ne pk.nf
      have I2 : Inv X pins σ H2 s' := I.call' os un hok bare (fun b z => absurd z (by simp))
      have hP2 := un.keep P _ hP hHP nst (by simp)
      have hHP2 := un.free P _ hP hHP (by simp)
      refine ⟨t, tk, rfl, ?_⟩
      have tz : t.length ≤ sizeLine := szt t (List.mem_of_getElem? ht)
      refine wpAny_bind (wpAny_mkStr (wpAny_bind ?up) tz)
      show wpAny (model X.prog X.w) _ (updateSeq P _) _ _ _
      have room : acc.size ≤ sizeLine := Nat.le_trans (laid_size hacc hdone) (by omega)
      refine wpAny_updateSeq hP2 rfl (wpAny_pure ⟨PySem.F.quiet_list_repr_loop _, ?_⟩) room (by rw [Array.size_push]; omega)
      rw [show b + piled (ts.take i) + (t.length + 2) = b + piled (ts.take (i + 1)) by omega, ← Int.natCast_succ]
      refine ih (i + 1) _ H2 F2 (acc.push (.str t s'.toks)) _ (done ++ [(t, s'.toks)]) (by omega) hlt ?_ w2 (eF.trans e2) hHP2 (Heap.get?_update_self _ hP2 rfl) (by simp [hacc, strValues]) (by simp [List.take_add_one, ht, hdone]) hR
      exact I2.turned (fun c o hc ho => (Heap.get?_update_other _ _ (fun h : P = c => hc h.symm)).trans ho) hHP2 pk.ne (.inr pk.sz) pk.cl pk.pn
/-- repr([x, ..]) of own objects -/
def rReprL (K : PySem.W.Frag) (C : Addr) (R : List D → D → Prop) : List V → Hp → VK → Prop := fun xs H Q => ∃ a vs F ow ds ts, xs = [.ref a] ∧ F a = some (.lst vs) ∧ Wo K ow F H ∧ Rps K F vs ds ∧ Its C R ds ts ∧ ds ≠ [] ∧ (listText ts).length ≤ sizeLine ∧ Post K ow F (.str (listText ts)) Q
theorem call_reprL (Fn : ∀ L, FnG (gdL L) X.prog X.w X.K X.mg X.base CX0 k f fd ps (spL L X.K R)) (hb : Binds X.K fd ps []) (hs : PySem.W.findIn X.K (.ref C) "__repr__" = some (some (.ref f))) (hf : PySem.W.isFn X.K (.ref f) = true)
    (hgd : X.A.guards = some []) (hr : Room (k + 2) X.A) : CallR X (.builtin "repr") (rReprL X.K C R) := by
  intro pins s σ H xs us Q I rx h
  obtain ⟨a, vs, F, ow, ds, ts, rfl, hF, w, hrp, hit, hne, hsz, q⟩ := h
  obtain rfl := Vals.ref1 rx
  obtain ⟨z, its, n, r, e⟩ := (show ObjOk X.prog X.w H s.heap a (.lst vs) from I.hok a _ (w.ex _ _ hF))
  have hl : its.length = ds.length := by rw [← r.length, hrp.length]
  obtain ⟨y, l, rfl⟩ : ∃ y l, its = y :: l := by
    cases its with
    | nil =>
      exact absurd (List.length_eq_zero_iff.mp hl.symm) hne
    | cons y l => exact ⟨y, l, rfl⟩
  refine call_repr_slot (by have := hr.un; omega) ⟨_, e, rfl⟩ PySem.F.slot_list_repr.toG ?_
  refine wpAny_call (codeAny_call_builtin PySem.F.slot_list_repr.plain PySem.F.entry_list_repr (PySem.F.slot_list_repr.check _ _ _ _ _ _ _ _ ⟨_, e, rfl⟩ (PySem.F.args_list_repr_1 _) ?_))
  refine wpAny_list_repr_head (A := X.A.in1.in1) (g := []) hgd (fun v rest kw hm => nomatch hm) e rfl ?_
  refine wpAny_bind (m := newList []) (wpAny_newObj_type ?_)
  refine wpAny_pure ⟨PySem.F.quiet_list_repr_loop _, ?_⟩
  have hP : H s.heap.objs.size = none := I.hok.fresh (Nat.le_refl _)
  have pk : Pk X pins s.heap.objs.size := by
    refine ⟨(Nat.ne_of_lt I.lt).symm, I.nofs (Nat.le_refl _), I.sz, fun x c hc => ?_, fun p hp => ?_⟩
    · obtain ⟨v, o, ho, _⟩ := I.cell x c hc
      exact Nat.ne_of_lt (Heap.lt_size ho)
    · exact Nat.ne_of_lt (Heap.lt_size (I.pin p hp).1)
  refine loop_own (b := 0) (A := X.A.in1) Fn hb hs hf hgd I.ok.frames hr.in1 hF hrp hit pk (by omega) ds.length 0 _ H F #[] _ [] (by omega) (by omega) (I.kept (t' := s.toks) fun b u hb => Heap.get?_push_of_some _ hb) w (Evl.Ex.refl F) hP (Heap.get?_push_size _ rfl) rfl (by simp) fun H' F' s' u I' w' e' => ?_
  exact ⟨_, _, rfl, .str _, H', I', ⟨u, rfl⟩, q F' H' _ e' w' (.str _)⟩
theorem fo_reprL {ds : List D} {ts : List Str} (Fn : ∀ L, FnG (gdL L) X.prog X.w X.K X.mg X.base CX0 k f fd ps (spL L X.K R)) (hb : Binds X.K fd ps []) (hs : PySem.W.findIn X.K (.ref C) "__repr__" = some (some (.ref f))) (hf : PySem.W.isFn X.K (.ref f) = true)
    (hgd : X.A.guards = some []) (hr : Room (k + 2) X.A) (hit : Its C R ds ts) (hne : ds ≠ []) (hsz : (listText ts).length ≤ sizeLine) : BiOk X ow "repr" [.lst ds] (.str (listText ts)) := ⟨_, call_reprL Fn hb hs hf hgd hr, .mk fun F H xs Q w r k0 => by
  cases r with
  | cons r1 r2 =>
    cases r2
    cases r1 with
    | lst g s1 => exact ⟨_, _, F, ow, ds, ts, rfl, g, w, s1, hit, hne, hsz, k0⟩⟩
end
end Vd
set_option Elab.async false
set_option linter.all false
set_option maxRecDepth 100000
set_option maxHeartbeats 4000000
namespace K2
open PySem L2 Vd
open PySem.Spec PyProof.Rows
/-! the walk over data -/
local macro_rules | `(tactic| walk_at "vis") => `(tactic| first | exact Or.inl rfl | exact Or.inr (Or.inl rfl) | exact Or.inr (Or.inr rfl))
local macro_rules | `(tactic| walk_at "none") => `(tactic| first | assumption)
local macro_rules | `(tactic| walk_at "num") => `(tactic| first | decide | omega)
local macro_rules | `(tactic| walk_at "vr") => `(tactic| first
  | exact bo_add | exact bo_sub | exact bo_mulR (by decide) | exact bo_mulL (by decide) | exact bo_mod (by walk_at "num") | exact bo_div (by walk_at "num") (by walk_at "num") | exact bo_pow (by decide) (by decide) (by decide) | exact bo_cat (by walk_at "num") | exact bo_mulR (by omega) | exact bo_mulL (by omega))
local macro_rules | `(tactic| walk_at "vq") => `(tactic| first
  | exact co_lt | exact co_le | exact co_gt | exact co_ge | exact co_eqI | exact co_neI | exact co_eqS | exact co_neS)
local macro_rules | `(tactic| walk_at "vx") => `(tactic| first
  | exact xo_own (by assumption) rfl | exact xo_lst rfl | exact xo_tup rfl)
local macro_rules | `(tactic| walk_at "vf") => `(tactic| first
  | exact fo_abs | exact fo_lenL | exact fo_lenT | exact fo_lenO (by assumption) | exact fo_divmod (by walk_at "num") (by walk_at "num") | exact fo_max rfl | exact fo_min rfl)
local macro_rules | `(tactic| walk_at "vn") => `(tactic| first
  | exact ve_var (i := 0) rfl rfl (by walk_at "vis") | exact ve_var (i := 1) rfl rfl (by walk_at "vis") | exact ve_var (i := 2) rfl rfl (by walk_at "vis") | exact ve_var (i := 3) rfl rfl (by walk_at "vis") | exact ve_var (i := 4) rfl rfl (by walk_at "vis") | exact ve_var (i := 5) rfl rfl (by walk_at "vis") | exact ve_var (i := 6) rfl rfl (by walk_at "vis") | exact ve_var (i := 7) rfl rfl (by walk_at "vis"))
local macro_rules | `(tactic| walk_at "vd") => `(tactic| first
  | exact ve_int | exact ve_bl | exact ve_non | exact ve_str
  | (refine' ve_bin ?ha ?hb ?hr; (case ha => walk_at "vd"); (case hb => walk_at "vd"); (case hr => walk_at "vr"))
  | (refine' ve_sub ?ha ?hb (fun _ _ => rfl) ?hr; (case ha => walk_at "vd"); (case hb => walk_at "vd"); (case hr => walk_at "vx"))
  | (refine' ve_ty (id := "int") ?ha rfl ?hm boot_int ?hr; (case ha => walk_at "va"); (case hm => walk_at "none"); (case hr => exact to_int))
  | (refine' ve_bi ?ha rfl ?hm ?hv ?hr; (case hv => first | exact boot_abs | exact boot_len | exact boot_divmod | exact boot_max | exact boot_min); (case ha => walk_at "va"); (case hm => walk_at "none"); (case hr => walk_at "vf"))
  | (refine' ve_tup ?ha ?hl; (case ha => walk_at "va"); (case hl => walk_at "num"))
  | (refine' ve_lst ?ha ?hl; (case ha => walk_at "va"); (case hl => walk_at "num"))
  | (refine' ve_comp ?ha ?hb ?hr; (case ha => walk_at "vd"); (case hb => walk_at "vd"); (case hr => walk_at "vq"))
  | walk_at "vn")
local macro_rules | `(tactic| walk_at "va") => `(tactic| first | exact va_nil | (refine' va_cons ?ha ?hb; (case ha => walk_at "vd"); (case hb => walk_at "va")))
local macro_rules | `(tactic| walk_at "vt") => `(tactic| first
  | (refine' vt_comp ?ha ?hb ?hr; (case ha => walk_at "vd"); (case hb => walk_at "vd"); (case hr => walk_at "vq"))
  | (refine' vt_val ?hv; case hv => walk_at "vd"))
/-! ### the text of a set within the text of a list -/
theorem log_show : ∀ {l : List Int}, PyData.showableAll (l.map PyData.int) = true → ∀ i ∈ l, i.natAbs.log2 < 1920
  | [], _, i, h => by cases h
  | j :: l, hs, i, h => by
    simp only [List.map_cons, PyData.showableAll, PyData.showable, Bool.and_eq_true, decide_eq_true_eq] at hs
    rcases List.mem_cons.mp h with e | e
    · rw [e]; exact hs.1
    · exact log_show hs.2 i e
theorem TextFit.logs {ns : List Nat} {a : Nat} {A : List Nat} (h : TextFit ns a A) : (∀ i ∈ A.map toI, i.natAbs.log2 < 1920) ∧ (tupleText (intS (A.map toI))).length ≤ 100000 ∧ (D.tup (A.map natD)).py.shown = tupleText (intS (A.map toI)) := by
  have z := h.At
  have e : (D.tup (A.map natD)).py.shown = tupleText (intS (A.map toI)) := shown_nats A
  unfold D.textOk at z
  simp only [Bool.and_eq_true, decide_eq_true_eq] at z
  obtain ⟨⟨⟨⟨_, h2⟩, _⟩, h4⟩, _⟩ := z
  refine ⟨log_show ?_, by rw [← e]; exact h4, e⟩
  rw [natD_ints] at h2
  simpa only [D.py, pyL_ints, PyData.showable] using h2
section
variable {P : Program} {w : World} {K : PySem.W.Frag} {mg : Str → Option Value} {base : Heap}
theorem ok_reprL {L f C : Addr} {fd : FuncData} (Fn : Fun K "__repr__" "Times.__repr__" sRpr f fd) (c : Cls K C) (n1 : NoAttr K C "_numbers") (n2 : NoAttr K C "_pattern") : FnG (gdL L) P w K mg base CX0 1 f fd ["self"] (spL L K (RRpr C)) := by
  refine okL Fn scRpr (fun ds d ⟨ns, a, A, e, _⟩ => by rw [e]; rfl) fun cdv A0 outer s H B ow ds d Q E hgd hrm hB hR kQ => ?_
  obtain ⟨ns, a, A, rfl, fit, rfl⟩ := hR
  have hu70 : A0.units + 3 + 70 < cLine := by
    have z : A0.units + 3 + 16 * 0 + 200 < cLine := hrm.un
    omega
  obtain ⟨lg, tz, te⟩ := fit.logs
  refine rn_setLc (i := 2) (j := 1) (fun _ => true) (fun d => match d with | .int i => .str (numT i.toNat) | _ => .non) rfl scRpr.nd rfl rfl (sw_true rfl rfl rfl (by decide +kernel)) (vi_tup (ve_num c n1 (ve_var (i := 0) rfl rfl (by walk_at "vis")))) (blkOk_by (N := ["self", "number", "numbers"]) (sc := defScope sRpr) (by decide +kernel)) (by rw [List.length_map]; have := fit.n4; omega) (fun _ _ _ _ _ => pg_name (i := 1) scRpr.nd rfl (.inl rfl)) (fun d ow' _ _ s0 H0 C0 cl fp => vts_nil) ?he ?k
  case he =>
    intro d ow' hd _ _ s0 H0 C0 cl fp
    obtain ⟨n, hn, rfl⟩ := List.mem_map.mp hd
    refine ve_is (ve_joined (.cons (ve_fI (ve_var (d := natD n) (i := 1) rfl rfl (by walk_at "vis")) (log_lt (fit.nb n hn) (by decide))) (.cons ve_str .nil)) (fit.nl n hn)) (by rfl)
  case k =>
    intro B' e1
    have lst : (((ns.map natD).filter (fun _ => true)).map fun d => match d with | .int i => D.str (numT i.toNat) | _ => .non) = (ns.map numT).map D.str := by
      rw [List.filter_eq_self.mpr (fun _ _ => rfl), List.map_map, List.map_map]
      exact List.map_congr_left fun n _ => rfl
    rw [lst]
    have fl := fit.len
    rw [te] at fl
    have hB' : ∃ xs, B' L = some (.lst xs) := hB.imp fun xs h => e1 _ _ h
    unfold setT at kQ
    rw [te] at kQ
    refine rn_retB (veB_joined (.cons (veB_of ve_str) (.cons (veB_of (ve_fS (ve_join ve_str (ve_var (d := .lst ((ns.map numT).map D.str)) (i := 2) rfl rfl (by walk_at "vis")) fit.sum) fit.jl)) (.cons (veB_of ve_str) (.cons (veB_of (ve_fI (ve_sub (ve_pat c n2 (ve_var (i := 0) rfl rfl (by walk_at "vis"))) ve_int (fun _ _ => rfl) (xo_tup (d := natD a) rfl)) (log_lt fit.ab (by decide)))) (.cons (veB_of ve_str) (.cons (veB_fT hgd hu70 hB' (ve_is (ve_sub (ve_pat c n2 (ve_var (i := 0) rfl rfl (by walk_at "vis"))) ve_int (fun _ _ => rfl) (xo_tup (d := .tup (A.map natD)) rfl)) (by rw [natD_ints])) lg tz) (.cons (veB_of ve_str) .nil))))))) fl) (kQ.ex e1)
theorem set_len' {ns A : List Nat} {a : Nat} (h : TextFit ns a A) : (setT ns a A).length ≤ 100000 := by
  unfold setT
  rw [cat_len]
  have z : Str.empty.length = 0 := rfl
  have y := h.len
  omega
theorem rep_ok {C f : Addr} {fd : FuncData} (Fn : ∀ L, FnG (gdL L) P w K mg base CX0 1 f fd ["self"] (spL L K (RRpr C))) (hb : Binds K fd ["self"] []) (hs : PySem.W.findIn K (.ref C) "__repr__" = some (some (.ref f))) (hf : PySem.W.isFn K (.ref f) = true) :
    ∀ (ns A ms Bb : List Nat) (a b : Nat), TextFit ns a A → TextFit ms b Bb → ∃ y : Str, ∀ {ow : Ow} {X : Cx}, X.prog = P → X.w = w → X.K = K → X.mg = mg → X.base = base → X.A.guards = some [] → Room 3 X.A → BiOk X ow "repr" [.lst [.ins C (tmD ns a A), .ins C (tmD ms b Bb)]] (.str y) := fun ns A ms Bb a b h1 h2 => by
  refine ⟨listText [setT ns a A, setT ms b Bb], ?_⟩
  intro ow X e1 e2 e3 e4 e5 hg hr
  subst e1; subst e2; subst e3; subst e4; subst e5
  refine fo_reprL Fn hb hs hf hg hr (.cons ⟨ns, a, A, rfl, h1, rfl⟩ (.cons ⟨ms, b, Bb, rfl, h2, rfl⟩ .nil)) (by simp) ?_
  have z := list_len [setT ns a A, setT ms b Bb]
  have p : piled [setT ns a A, setT ms b Bb] = (setT ns a A).length + 2 + ((setT ms b Bb).length + 2 + 0) := by rw [piled_cons, piled_cons, piled_nil]
  have l1 := set_len' h1
  have l2 := set_len' h2
  rw [sizeLine_eq]
  omega
end
end K2
set_option Elab.async false
set_option linter.all false
set_option maxRecDepth 100000
set_option maxHeartbeats 4000000
namespace K2
open PySem L2 Vd
open PySem.Spec PyProof.Rows
theorem all_mk4 {P : Program} {w : World} {K : PySem.W.Frag} {h : Heap} {mg : Str → Option Value} {fa C T0 D0 fi fI fW fFu fPl fHo fPr fRe fSh fSt fIn fBr fBo fLo fEi fUn fMg fJo fLU fLS fLP fLN fLM fLE fLI fLC fLR fLL pa qa pb qb pe qe xi xj xl xu xv xw : Addr} {odI anI odW anW odFu anFu odPl anPl odHo anHo odPr anPr odRe anRe odSh anSh odSt anSt odIn anIn odBr anBr odBo anBo odLo anLo odEi anEi odUn anUn odMg anMg odJo anJo odLU anLU odLS anLS odLP anLP odLN anLN odLM anLM odLE anLE odLI anLI odLC anLC odLR anLR odLL anLL odi0 ani0 odT0 odpa anpa odpb anpb odpe anpe odmi anmi odmj anmj odml anml odmu anmu odmv anmv odmw anmw : Option Addr} {slI slW slFu slPl slHo slPr slRe slSh slSt slIn slBr slBo slLo slEi slUn slMg slJo slLU slLS slLP slLN slLM slLE slLI slLC slLR slLL sli0 slT0 slpa slpb slpe slmi slmj slml slmu slmv slmw : Array (Option Value)} {ocI dcI pmI cdI ctI kVI ocW dcW pmW cdW ctW kVW ocFu dcFu pmFu cdFu ctFu kVFu ocPl dcPl pmPl cdPl ctPl kVPl ocHo dcHo pmHo cdHo ctHo kVHo ocPr dcPr pmPr cdPr ctPr kVPr ocRe dcRe pmRe cdRe ctRe kVRe ocSh dcSh pmSh cdSh ctSh kVSh ocSt dcSt pmSt cdSt ctSt kVSt ocIn dcIn pmIn cdIn ctIn kVIn ocBr dcBr pmBr cdBr ctBr kVBr ocBo dcBo pmBo cdBo ctBo kVBo ocLo dcLo pmLo cdLo ctLo kVLo ocEi dcEi pmEi cdEi ctEi kVEi ocUn dcUn pmUn cdUn ctUn kVUn ocMg dcMg pmMg cdMg ctMg kVMg ocJo dcJo pmJo cdJo ctJo kVJo ocLU dcLU pmLU cdLU ctLU kVLU ocLS dcLS pmLS cdLS ctLS kVLS ocLP dcLP pmLP cdLP ctLP kVLP ocLN dcLN pmLN cdLN ctLN kVLN ocLM dcLM pmLM cdLM ctLM kVLM ocLE dcLE pmLE cdLE ctLE kVLE ocLI dcLI pmLI cdLI ctLI kVLI ocLC dcLC pmLC cdLC ctLC kVLC ocLR dcLR pmLR cdLR ctLR kVLR ocLL dcLL pmLL cdLL ctLL kVLL oci0 dci0 pmi0 cdi0 cti0 ocpa dcpa pmpa cdpa ctpa kVpa ocpb dcpb pmpb cdpb ctpb kVpb ocpe dcpe pmpe cdpe ctpe kVpe ocmi dcmi pmmi cdmi ctmi kVmi ocmj dcmj pmmj cdmj ctmj kVmj ocml dcml pmml cdml ctml kVml ocmu dcmu pmmu cdmu ctmu kVmu ocmv dcmv pmmv cdmv ctmv kVmv ocmw dcmw pmmw cdmw ctmw kVmw : Value} {rea reb ree : List Value} {tp t1 t2 : Tok} {nT0 : Nat} (X : K.In h) (G : h.Ns mainGlobals mg) (hfa : mg "law" = some (.ref fa))
    (aI : PySem.W.nsIn K mainGlobals "is_integer" = some (some (.ref fI)))
    (lI : K.lookup fI = some ⟨ocI, odI, .func (PySem.W.fnOf "is_integer" "is_integer" (defArgs sIsI) (defBody sIsI) (defScope sIsI) .none kVI dcI pmI anI cdI ctI), slI⟩)
    (cI : PySem.W.codeIn K cdI "is_integer" = true)
    (kI : PySem.W.keepIn K (.ref fI) = true)
    (aW : PySem.W.nsIn K mainGlobals "is_within" = some (some (.ref fW)))
    (lW : K.lookup fW = some ⟨ocW, odW, .func (PySem.W.fnOf "is_within" "is_within" (defArgs sIsW) (defBody sIsW) (defScope sIsW) .none kVW dcW pmW anW cdW ctW), slW⟩)
    (cW : PySem.W.codeIn K cdW "is_within" = true)
    (kW : PySem.W.keepIn K (.ref fW) = true)
    (aFu : PySem.W.nsIn K mainGlobals "first_unfit" = some (some (.ref fFu)))
    (lFu : K.lookup fFu = some ⟨ocFu, odFu, .func (PySem.W.fnOf "first_unfit" "first_unfit" (defArgs sFu) (defBody sFu) (defScope sFu) .none kVFu dcFu pmFu anFu cdFu ctFu), slFu⟩)
    (cFu : PySem.W.codeIn K cdFu "first_unfit" = true)
    (kFu : PySem.W.keepIn K (.ref fFu) = true)
    (aPl : PySem.W.nsIn K mainGlobals "place" = some (some (.ref fPl)))
    (lPl : K.lookup fPl = some ⟨ocPl, odPl, .func (PySem.W.fnOf "place" "place" (defArgs sPla) (defBody sPla) (defScope sPla) .none kVPl dcPl pmPl anPl cdPl ctPl), slPl⟩)
    (cPl : PySem.W.codeIn K cdPl "place" = true)
    (kPl : PySem.W.keepIn K (.ref fPl) = true)
    (aHo : PySem.W.nsIn K mainGlobals "holds" = some (some (.ref fHo)))
    (lHo : K.lookup fHo = some ⟨ocHo, odHo, .func (PySem.W.fnOf "holds" "holds" (defArgs sHol) (defBody sHol) (defScope sHol) .none kVHo dcHo pmHo anHo cdHo ctHo), slHo⟩)
    (cHo : PySem.W.codeIn K cdHo "holds" = true)
    (kHo : PySem.W.keepIn K (.ref fHo) = true)
    (aPr : PySem.W.nsIn K mainGlobals "primes_of" = some (some (.ref fPr)))
    (lPr : K.lookup fPr = some ⟨ocPr, odPr, .func (PySem.W.fnOf "primes_of" "primes_of" (defArgs sPri) (defBody sPri) (defScope sPri) .none kVPr dcPr pmPr anPr cdPr ctPr), slPr⟩)
    (cPr : PySem.W.codeIn K cdPr "primes_of" = true)
    (kPr : PySem.W.keepIn K (.ref fPr) = true)
    (aRe : PySem.W.nsIn K mainGlobals "repeats" = some (some (.ref fRe)))
    (lRe : K.lookup fRe = some ⟨ocRe, odRe, .func (PySem.W.fnOf "repeats" "repeats" (defArgs sRep) (defBody sRep) (defScope sRep) .none kVRe dcRe pmRe anRe cdRe ctRe), slRe⟩)
    (cRe : PySem.W.codeIn K cdRe "repeats" = true)
    (kRe : PySem.W.keepIn K (.ref fRe) = true)
    (aSh : PySem.W.nsIn K mainGlobals "shortest" = some (some (.ref fSh)))
    (lSh : K.lookup fSh = some ⟨ocSh, odSh, .func (PySem.W.fnOf "shortest" "shortest" (defArgs sSho) (defBody sSho) (defScope sSho) .none kVSh dcSh pmSh anSh cdSh ctSh), slSh⟩)
    (cSh : PySem.W.codeIn K cdSh "shortest" = true)
    (kSh : PySem.W.keepIn K (.ref fSh) = true)
    (aSt : PySem.W.nsIn K mainGlobals "stretched" = some (some (.ref fSt)))
    (lSt : K.lookup fSt = some ⟨ocSt, odSt, .func (PySem.W.fnOf "stretched" "stretched" (defArgs sStr) (defBody sStr) (defScope sStr) .none kVSt dcSt pmSt anSt cdSt ctSt), slSt⟩)
    (cSt : PySem.W.codeIn K cdSt "stretched" = true)
    (kSt : PySem.W.keepIn K (.ref fSt) = true)
    (aIn : PySem.W.nsIn K mainGlobals "inverse" = some (some (.ref fIn)))
    (lIn : K.lookup fIn = some ⟨ocIn, odIn, .func (PySem.W.fnOf "inverse" "inverse" (defArgs sInv) (defBody sInv) (defScope sInv) .none kVIn dcIn pmIn anIn cdIn ctIn), slIn⟩)
    (cIn : PySem.W.codeIn K cdIn "inverse" = true)
    (kIn : PySem.W.keepIn K (.ref fIn) = true)
    (aBr : PySem.W.nsIn K mainGlobals "by_remainder" = some (some (.ref fBr)))
    (lBr : K.lookup fBr = some ⟨ocBr, odBr, .func (PySem.W.fnOf "by_remainder" "by_remainder" (defArgs sBr) (defBody sBr) (defScope sBr) .none kVBr dcBr pmBr anBr cdBr ctBr), slBr⟩)
    (cBr : PySem.W.codeIn K cdBr "by_remainder" = true)
    (kBr : PySem.W.keepIn K (.ref fBr) = true)
    (aBo : PySem.W.nsIn K mainGlobals "in_both" = some (some (.ref fBo)))
    (lBo : K.lookup fBo = some ⟨ocBo, odBo, .func (PySem.W.fnOf "in_both" "in_both" (defArgs sBo) (defBody sBo) (defScope sBo) .none kVBo dcBo pmBo anBo cdBo ctBo), slBo⟩)
    (cBo : PySem.W.codeIn K cdBo "in_both" = true)
    (kBo : PySem.W.keepIn K (.ref fBo) = true)
    (aLo : PySem.W.nsIn K mainGlobals "left_over" = some (some (.ref fLo)))
    (lLo : K.lookup fLo = some ⟨ocLo, odLo, .func (PySem.W.fnOf "left_over" "left_over" (defArgs sLo) (defBody sLo) (defScope sLo) .none kVLo dcLo pmLo anLo cdLo ctLo), slLo⟩)
    (cLo : PySem.W.codeIn K cdLo "left_over" = true)
    (kLo : PySem.W.keepIn K (.ref fLo) = true)
    (aEi : PySem.W.nsIn K mainGlobals "in_either" = some (some (.ref fEi)))
    (lEi : K.lookup fEi = some ⟨ocEi, odEi, .func (PySem.W.fnOf "in_either" "in_either" (defArgs sEi) (defBody sEi) (defScope sEi) .none kVEi dcEi pmEi anEi cdEi ctEi), slEi⟩)
    (cEi : PySem.W.codeIn K cdEi "in_either" = true)
    (kEi : PySem.W.keepIn K (.ref fEi) = true)
    (aUn : PySem.W.nsIn K mainGlobals "unchecked" = some (some (.ref fUn)))
    (lUn : K.lookup fUn = some ⟨ocUn, odUn, .func (PySem.W.fnOf "unchecked" "unchecked" (defArgs sUn) (defBody sUn) (defScope sUn) .none kVUn dcUn pmUn anUn cdUn ctUn), slUn⟩)
    (cUn : PySem.W.codeIn K cdUn "unchecked" = true)
    (kUn : PySem.W.keepIn K (.ref fUn) = true)
    (aMg : PySem.W.nsIn K mainGlobals "merged" = some (some (.ref fMg)))
    (lMg : K.lookup fMg = some ⟨ocMg, odMg, .func (PySem.W.fnOf "merged" "merged" (defArgs sMrg) (defBody sMrg) (defScope sMrg) .none kVMg dcMg pmMg anMg cdMg ctMg), slMg⟩)
    (cMg : PySem.W.codeIn K cdMg "merged" = true)
    (kMg : PySem.W.keepIn K (.ref fMg) = true)
    (aJo : PySem.W.nsIn K mainGlobals "joined" = some (some (.ref fJo)))
    (lJo : K.lookup fJo = some ⟨ocJo, odJo, .func (PySem.W.fnOf "joined" "joined" (defArgs sJo) (defBody sJo) (defScope sJo) .none kVJo dcJo pmJo anJo cdJo ctJo), slJo⟩)
    (cJo : PySem.W.codeIn K cdJo "joined" = true)
    (kJo : PySem.W.keepIn K (.ref fJo) = true)
    (aLU : PySem.W.nsIn K mainGlobals "_law_cup" = some (some (.ref fLU)))
    (lLU : K.lookup fLU = some ⟨ocLU, odLU, .func (PySem.W.fnOf "_law_cup" "_law_cup" (defArgs sCup) (defBody sCup) (defScope sCup) .none kVLU dcLU pmLU anLU cdLU ctLU), slLU⟩)
    (cLU : PySem.W.codeIn K cdLU "_law_cup" = true)
    (kLU : PySem.W.keepIn K (.ref fLU) = true)
    (aLS : PySem.W.nsIn K mainGlobals "_law_sip" = some (some (.ref fLS)))
    (lLS : K.lookup fLS = some ⟨ocLS, odLS, .func (PySem.W.fnOf "_law_sip" "_law_sip" (defArgs sSip) (defBody sSip) (defScope sSip) .none kVLS dcLS pmLS anLS cdLS ctLS), slLS⟩)
    (cLS : PySem.W.codeIn K cdLS "_law_sip" = true)
    (kLS : PySem.W.keepIn K (.ref fLS) = true)
    (aLP : PySem.W.nsIn K mainGlobals "_law_pick" = some (some (.ref fLP)))
    (lLP : K.lookup fLP = some ⟨ocLP, odLP, .func (PySem.W.fnOf "_law_pick" "_law_pick" (defArgs sPick) (defBody sPick) (defScope sPick) .none kVLP dcLP pmLP anLP cdLP ctLP), slLP⟩)
    (cLP : PySem.W.codeIn K cdLP "_law_pick" = true)
    (kLP : PySem.W.keepIn K (.ref fLP) = true)
    (aLN : PySem.W.nsIn K mainGlobals "_law_numbers" = some (some (.ref fLN)))
    (lLN : K.lookup fLN = some ⟨ocLN, odLN, .func (PySem.W.fnOf "_law_numbers" "_law_numbers" (defArgs sNum) (defBody sNum) (defScope sNum) .none kVLN dcLN pmLN anLN cdLN ctLN), slLN⟩)
    (cLN : PySem.W.codeIn K cdLN "_law_numbers" = true)
    (kLN : PySem.W.keepIn K (.ref fLN) = true)
    (aLM : PySem.W.nsIn K mainGlobals "_law_marks" = some (some (.ref fLM)))
    (lLM : K.lookup fLM = some ⟨ocLM, odLM, .func (PySem.W.fnOf "_law_marks" "_law_marks" (defArgs sMrk) (defBody sMrk) (defScope sMrk) .none kVLM dcLM pmLM anLM cdLM ctLM), slLM⟩)
    (cLM : PySem.W.codeIn K cdLM "_law_marks" = true)
    (kLM : PySem.W.keepIn K (.ref fLM) = true)
    (aLE : PySem.W.nsIn K mainGlobals "_law_set" = some (some (.ref fLE)))
    (lLE : K.lookup fLE = some ⟨ocLE, odLE, .func (PySem.W.fnOf "_law_set" "_law_set" (defArgs sSet) (defBody sSet) (defScope sSet) .none kVLE dcLE pmLE anLE cdLE ctLE), slLE⟩)
    (cLE : PySem.W.codeIn K cdLE "_law_set" = true)
    (kLE : PySem.W.keepIn K (.ref fLE) = true)
    (aLI : PySem.W.nsIn K mainGlobals "_law_in" = some (some (.ref fLI)))
    (lLI : K.lookup fLI = some ⟨ocLI, odLI, .func (PySem.W.fnOf "_law_in" "_law_in" (defArgs sIn) (defBody sIn) (defScope sIn) .none kVLI dcLI pmLI anLI cdLI ctLI), slLI⟩)
    (cLI : PySem.W.codeIn K cdLI "_law_in" = true)
    (kLI : PySem.W.keepIn K (.ref fLI) = true)
    (aLC : PySem.W.nsIn K mainGlobals "_law_places" = some (some (.ref fLC)))
    (lLC : K.lookup fLC = some ⟨ocLC, odLC, .func (PySem.W.fnOf "_law_places" "_law_places" (defArgs sPlc) (defBody sPlc) (defScope sPlc) .none kVLC dcLC pmLC anLC cdLC ctLC), slLC⟩)
    (cLC : PySem.W.codeIn K cdLC "_law_places" = true)
    (kLC : PySem.W.keepIn K (.ref fLC) = true)
    (aLR : PySem.W.nsIn K mainGlobals "_law_right" = some (some (.ref fLR)))
    (lLR : K.lookup fLR = some ⟨ocLR, odLR, .func (PySem.W.fnOf "_law_right" "_law_right" (defArgs sR4) (defBody sR4) (defScope sR4) .none kVLR dcLR pmLR anLR cdLR ctLR), slLR⟩)
    (cLR : PySem.W.codeIn K cdLR "_law_right" = true)
    (kLR : PySem.W.keepIn K (.ref fLR) = true)
    (aLL : PySem.W.nsIn K mainGlobals "law" = some (some (.ref fLL)))
    (lLL : K.lookup fLL = some ⟨ocLL, odLL, .func (PySem.W.fnOf "law" "law" (defArgs sL4) (defBody sL4) (defScope sL4) .none kVLL dcLL pmLL anLL cdLL ctLL), slLL⟩)
    (cLL : PySem.W.codeIn K cdLL "law" = true)
    (kLL : PySem.W.keepIn K (.ref fLL) = true)
    (aT : PySem.W.nsIn K mainGlobals "Times" = some (some (.ref C)))
    (aG : PySem.W.nsIn K mainGlobals "gcd" = some (some (.builtin "math.gcd")))
    (aL : PySem.W.nsIn K mainGlobals "lcm" = some (some (.builtin "math.lcm")))
    (cpg : PySem.W.plainGet K C Str.empty = true)
    (chd : PySem.W.hasDictIn K C = true)
    (cpo : PySem.W.plainOver K C = true)
    (csa : PySem.W.findIn K (.ref C) "__setattr__" = some (some (.builtin "object.__setattr__")))
    (cha : PySem.W.findIn K (.ref C) "__class__" = some (some (.builtin "object.__class__")))
    (chn : PySem.W.specialIn K (.builtin "object.__class__") "__get__" = some (some (.builtin "getset_descriptor.__get__")))
    (ctk : PySem.W.takesIn K (.builtin "object.__class__") = some true)
    (cmo : PySem.W.mroIn K C (.type "object") = some true)
    (n1 : PySem.W.findIn K (.ref C) "_numbers" = some none)
    (n2 : PySem.W.findIn K (.ref C) "_pattern" = some none)
    (iso : PySem.W.kitOne K (.ref C) (.ref C) = some true)
    (isn : ((["NoneType", "bool", "int", "str", "list", "tuple", "dict"] : List String).all fun t => PySem.W.kitOne K (.type t) (.ref C) == some false) = true)
    (nfc : PySem.W.notFirst K C (.ref C) = true)
    (sfc : PySem.W.selfFirst K C = true)
    (ine : PySem.W.findIn K (.ref C) "__ne__" = some (some (.builtin "object.__ne__")))
    (isu : PySem.W.subIn K (.ref C) (.type "object") = some true)
    (mmk : PySem.W.makesIn K C = true)
    (mkp : PySem.W.keepIn K (.ref C) = true)
    (ai : PySem.W.findIn K (.ref C) "__init__" = some (some (.ref fi)))
    (li0 : K.lookup fi = some ⟨oci0, odi0, .func (PySem.W.fnOf "__init__" "Times.__init__" (defArgs sIni) (defBody sIni) (defScope sIni) .none (.ref D0) dci0 pmi0 ani0 cdi0 cti0), sli0⟩)
    (ci0 : PySem.W.codeIn K cdi0 "Times.__init__" = true)
    (fnI0 : PySem.W.isFn K (.ref fi) = true)
    (dp : PySem.W.nsIn K D0 "period" = some (some (.int 1 tp)))
    (dm : PySem.W.nsIn K D0 "marks" = some (some (.ref T0)))
    (lT0 : K.lookup T0 = some ⟨.type "tuple", odT0, .seq #[] nT0, slT0⟩)
    (ata : PySem.W.findIn K (.ref C) "period" = some (some (.ref pa)))
    (gta : PySem.W.specialIn K (.ref pa) "__get__" = some (some (.builtin "property.__get__")))
    (tka : PySem.W.takesIn K (.ref pa) = some true)
    (rca : PySem.W.recIn K pa "property" = some (.ref qa :: rea))
    (lpa : K.lookup qa = some ⟨ocpa, odpa, .func (PySem.W.fnOf "period" "Times.period" (defArgs sPer) (defBody sPer) (defScope sPer) .none kVpa dcpa pmpa anpa cdpa ctpa), slpa⟩)
    (cpa : PySem.W.codeIn K cdpa "Times.period" = true)
    (kpa : PySem.W.keepIn K (.ref qa) = true)
    (atb : PySem.W.findIn K (.ref C) "marks" = some (some (.ref pb)))
    (gtb : PySem.W.specialIn K (.ref pb) "__get__" = some (some (.builtin "property.__get__")))
    (tkb : PySem.W.takesIn K (.ref pb) = some true)
    (rcb : PySem.W.recIn K pb "property" = some (.ref qb :: reb))
    (lpb : K.lookup qb = some ⟨ocpb, odpb, .func (PySem.W.fnOf "marks" "Times.marks" (defArgs sMks) (defBody sMks) (defScope sMks) .none kVpb dcpb pmpb anpb cdpb ctpb), slpb⟩)
    (cpb : PySem.W.codeIn K cdpb "Times.marks" = true)
    (kpb : PySem.W.keepIn K (.ref qb) = true)
    (ate : PySem.W.findIn K (.ref C) "endless" = some (some (.ref pe)))
    (gte : PySem.W.specialIn K (.ref pe) "__get__" = some (some (.builtin "property.__get__")))
    (tke : PySem.W.takesIn K (.ref pe) = some true)
    (rce : PySem.W.recIn K pe "property" = some (.ref qe :: ree))
    (lpe : K.lookup qe = some ⟨ocpe, odpe, .func (PySem.W.fnOf "endless" "Times.endless" (defArgs sEnd) (defBody sEnd) (defScope sEnd) .none kVpe dcpe pmpe anpe cdpe ctpe), slpe⟩)
    (cpe : PySem.W.codeIn K cdpe "Times.endless" = true)
    (kpe : PySem.W.keepIn K (.ref qe) = true)
    (ati : PySem.W.findIn K (.ref C) "__contains__" = some (some (.ref xi)))
    (fni : PySem.W.isFn K (.ref xi) = true)
    (lmi : K.lookup xi = some ⟨ocmi, odmi, .func (PySem.W.fnOf "__contains__" "Times.__contains__" (defArgs sCon) (defBody sCon) (defScope sCon) .none kVmi dcmi pmmi anmi cdmi ctmi), slmi⟩)
    (cmi : PySem.W.codeIn K cdmi "Times.__contains__" = true)
    (kmi : PySem.W.keepIn K (.ref xi) = true)
    (atj : PySem.W.findIn K (.ref C) "__eq__" = some (some (.ref xj)))
    (fnj : PySem.W.isFn K (.ref xj) = true)
    (lmj : K.lookup xj = some ⟨ocmj, odmj, .func (PySem.W.fnOf "__eq__" "Times.__eq__" (defArgs sEq) (defBody sEq) (defScope sEq) .none kVmj dcmj pmmj anmj cdmj ctmj), slmj⟩)
    (cmj : PySem.W.codeIn K cdmj "Times.__eq__" = true)
    (kmj : PySem.W.keepIn K (.ref xj) = true)
    (atl : PySem.W.findIn K (.ref C) "__repr__" = some (some (.ref xl)))
    (fnl : PySem.W.isFn K (.ref xl) = true)
    (lml : K.lookup xl = some ⟨ocml, odml, .func (PySem.W.fnOf "__repr__" "Times.__repr__" (defArgs sRpr) (defBody sRpr) (defScope sRpr) .none kVml dcml pmml anml cdml ctml), slml⟩)
    (cml : PySem.W.codeIn K cdml "Times.__repr__" = true)
    (kml : PySem.W.keepIn K (.ref xl) = true)
    (atu : PySem.W.findIn K (.ref C) "__and__" = some (some (.ref xu)))
    (fnu : PySem.W.isFn K (.ref xu) = true)
    (lmu : K.lookup xu = some ⟨ocmu, odmu, .func (PySem.W.fnOf "__and__" "Times.__and__" (defArgs sAnd) (defBody sAnd) (defScope sAnd) .none kVmu dcmu pmmu anmu cdmu ctmu), slmu⟩)
    (cmu : PySem.W.codeIn K cdmu "Times.__and__" = true)
    (kmu : PySem.W.keepIn K (.ref xu) = true)
    (atv : PySem.W.findIn K (.ref C) "__or__" = some (some (.ref xv)))
    (fnv : PySem.W.isFn K (.ref xv) = true)
    (lmv : K.lookup xv = some ⟨ocmv, odmv, .func (PySem.W.fnOf "__or__" "Times.__or__" (defArgs sOr) (defBody sOr) (defScope sOr) .none kVmv dcmv pmmv anmv cdmv ctmv), slmv⟩)
    (cmv : PySem.W.codeIn K cdmv "Times.__or__" = true)
    (kmv : PySem.W.keepIn K (.ref xv) = true)
    (atw : PySem.W.findIn K (.ref C) "__sub__" = some (some (.ref xw)))
    (fnw : PySem.W.isFn K (.ref xw) = true)
    (lmw : K.lookup xw = some ⟨ocmw, odmw, .func (PySem.W.fnOf "__sub__" "Times.__sub__" (defArgs sSub) (defBody sSub) (defScope sSub) .none kVmw dcmw pmmw anmw cdmw ctmw), slmw⟩)
    (cmw : PySem.W.codeIn K cdmw "Times.__sub__" = true)
    (kmw : PySem.W.keepIn K (.ref xw) = true)
    (g1 : PySem.W.nsIn K mainGlobals "GREATEST" = some (some (.int 1000000000000000000000000000000 t1)))
    (g2 : PySem.W.nsIn K mainGlobals "MOST_PERIOD" = some (some (.int 1000 t2)))
    (z_int : PySem.W.nsIn K mainGlobals "int" = some none)
    (z_abs : PySem.W.nsIn K mainGlobals "abs" = some none)
    (z_len : PySem.W.nsIn K mainGlobals "len" = some none)
    (z_divmod : PySem.W.nsIn K mainGlobals "divmod" = some none)
    (z_isinstance : PySem.W.nsIn K mainGlobals "isinstance" = some none)
    (z_range : PySem.W.nsIn K mainGlobals "range" = some none)
    (z_bool : PySem.W.nsIn K mainGlobals "bool" = some none)
    (z_enumerate : PySem.W.nsIn K mainGlobals "enumerate" = some none)
    (z_list : PySem.W.nsIn K mainGlobals "list" = some none)
    (z_tuple : PySem.W.nsIn K mainGlobals "tuple" = some none)
    (z_str : PySem.W.nsIn K mainGlobals "str" = some none)
    (z_repr : PySem.W.nsIn K mainGlobals "repr" = some none)
    (z_max : PySem.W.nsIn K mainGlobals "max" = some none)
    (z_min : PySem.W.nsIn K mainGlobals "min" = some none)
    (z_all : PySem.W.nsIn K mainGlobals "all" = some none)
    (z_sorted : PySem.W.nsIn K mainGlobals "sorted" = some none)
    (z_set : PySem.W.nsIn K mainGlobals "set" = some none)
    (z_zip : PySem.W.nsIn K mainGlobals "zip" = some none) :
    ∃ fd : FuncData, (∀ (s : Shared) (v : Value), BindsTo s fd ⟨[v], []⟩ [("script", v)]) ∧ ∀ base : Heap, K.In base → base.Ns mainGlobals mg → FnG gd0 P w K mg base CX0 11 fa fd ["script"] (spLaw K) := by
  have e := hfa.symm.trans (PySem.W.mg_of X G aLL)
  cases e
  have FI := fun_mk (st := sIsI) lI cI kI
  have bI := FI.binds (ps := ["value"]) fun _ _ _ _ _ _ us hl => match us, hl with | [_], _ => rfl
  have mI := PySem.W.mg_of X G aI
  have FW := fun_mk (st := sIsW) lW cW kW
  have bW := FW.binds (ps := ["value", "least", "most"]) fun _ _ _ _ _ _ us hl => match us, hl with | [_, _, _], _ => rfl
  have mW := PySem.W.mg_of X G aW
  have FFu := fun_mk (st := sFu) lFu cFu kFu
  have bFu := FFu.binds (ps := ["row", "most"]) fun _ _ _ _ _ _ us hl => match us, hl with | [_, _], _ => rfl
  have mFu := PySem.W.mg_of X G aFu
  have FPl := fun_mk (st := sPla) lPl cPl kPl
  have bPl := FPl.binds (ps := ["row", "value"]) fun _ _ _ _ _ _ us hl => match us, hl with | [_, _], _ => rfl
  have mPl := PySem.W.mg_of X G aPl
  have FHo := fun_mk (st := sHol) lHo cHo kHo
  have bHo := FHo.binds (ps := ["row", "value"]) fun _ _ _ _ _ _ us hl => match us, hl with | [_, _], _ => rfl
  have mHo := PySem.W.mg_of X G aHo
  have FPr := fun_mk (st := sPri) lPr cPr kPr
  have bPr := FPr.binds (ps := ["number"]) fun _ _ _ _ _ _ us hl => match us, hl with | [_], _ => rfl
  have mPr := PySem.W.mg_of X G aPr
  have FRe := fun_mk (st := sRep) lRe cRe kRe
  have bRe := FRe.binds (ps := ["period", "marks", "parts"]) fun _ _ _ _ _ _ us hl => match us, hl with | [_, _, _], _ => rfl
  have mRe := PySem.W.mg_of X G aRe
  have FSh := fun_mk (st := sSho) lSh cSh kSh
  have bSh := FSh.binds (ps := ["period", "marks"]) fun _ _ _ _ _ _ us hl => match us, hl with | [_, _], _ => rfl
  have mSh := PySem.W.mg_of X G aSh
  have FSt := fun_mk (st := sStr) lSt cSt kSt
  have bSt := FSt.binds (ps := ["period", "marks", "length"]) fun _ _ _ _ _ _ us hl => match us, hl with | [_, _, _], _ => rfl
  have mSt := PySem.W.mg_of X G aSt
  have FIn := fun_mk (st := sInv) lIn cIn kIn
  have bIn := FIn.binds (ps := ["number", "modulus"]) fun _ _ _ _ _ _ us hl => match us, hl with | [_, _], _ => rfl
  have mIn := PySem.W.mg_of X G aIn
  have FBr := fun_mk (st := sBr) lBr cBr kBr
  have bBr := FBr.binds (ps := ["marks", "shared"]) fun _ _ _ _ _ _ us hl => match us, hl with | [_, _], _ => rfl
  have mBr := PySem.W.mg_of X G aBr
  have FBo := fun_mk (st := sBo) lBo cBo kBo
  have bBo := FBo.binds (ps := ["one", "other"]) fun _ _ _ _ _ _ us hl => match us, hl with | [_, _], _ => rfl
  have mBo := PySem.W.mg_of X G aBo
  have FLo := fun_mk (st := sLo) lLo cLo kLo
  have bLo := FLo.binds (ps := ["one", "other"]) fun _ _ _ _ _ _ us hl => match us, hl with | [_, _], _ => rfl
  have mLo := PySem.W.mg_of X G aLo
  have FEi := fun_mk (st := sEi) lEi cEi kEi
  have bEi := FEi.binds (ps := ["one", "other"]) fun _ _ _ _ _ _ us hl => match us, hl with | [_, _], _ => rfl
  have mEi := PySem.W.mg_of X G aEi
  have FUn := fun_mk (st := sUn) lUn cUn kUn
  have bUn := FUn.binds (ps := ["numbers", "period", "marks"]) fun _ _ _ _ _ _ us hl => match us, hl with | [_, _, _], _ => rfl
  have mUn := PySem.W.mg_of X G aUn
  have FMg := fun_mk (st := sMrg) lMg cMg kMg
  have bMg := FMg.binds (ps := ["numbers", "others"]) fun _ _ _ _ _ _ us hl => match us, hl with | [_, _], _ => rfl
  have mMg := PySem.W.mg_of X G aMg
  have FJo := fun_mk (st := sJo) lJo cJo kJo
  have bJo := FJo.binds (ps := ["pattern", "numbers", "held"]) fun _ _ _ _ _ _ us hl => match us, hl with | [_, _, _], _ => rfl
  have mJo := PySem.W.mg_of X G aJo
  have FLU := fun_mk (st := sCup) lLU cLU kLU
  have bLU := FLU.binds (ps := ["script", "spot"]) fun _ _ _ _ _ _ us hl => match us, hl with | [_, _], _ => rfl
  have mLU := PySem.W.mg_of X G aLU
  have FLS := fun_mk (st := sSip) lLS cLS kLS
  have bLS := FLS.binds (ps := ["cup", "many"]) fun _ _ _ _ _ _ us hl => match us, hl with | [_, _], _ => rfl
  have mLS := PySem.W.mg_of X G aLS
  have FLP := fun_mk (st := sPick) lLP cLP kLP
  have bLP := FLP.binds (ps := ["cup", "things"]) fun _ _ _ _ _ _ us hl => match us, hl with | [_, _], _ => rfl
  have mLP := PySem.W.mg_of X G aLP
  have FLN := fun_mk (st := sNum) lLN cLN kLN
  have bLN := FLN.binds (ps := ["cup"]) fun _ _ _ _ _ _ us hl => match us, hl with | [_], _ => rfl
  have mLN := PySem.W.mg_of X G aLN
  have FLM := fun_mk (st := sMrk) lLM cLM kLM
  have bLM := FLM.binds (ps := ["cup"]) fun _ _ _ _ _ _ us hl => match us, hl with | [_], _ => rfl
  have mLM := PySem.W.mg_of X G aLM
  have FLE := fun_mk (st := sSet) lLE cLE kLE
  have bLE := FLE.binds (ps := ["s", "size", "some"]) fun _ _ _ _ _ _ us hl => match us, hl with | [_, _, _], _ => rfl
  have mLE := PySem.W.mg_of X G aLE
  have FLI := fun_mk (st := sIn) lLI cLI kLI
  have bLI := FLI.binds (ps := ["s", "size", "some", "at"]) fun _ _ _ _ _ _ us hl => match us, hl with | [_, _, _, _], _ => rfl
  have mLI := PySem.W.mg_of X G aLI
  have FLC := fun_mk (st := sPlc) lLC cLC kLC
  have bLC := FLC.binds (ps := ["s", "size"]) fun _ _ _ _ _ _ us hl => match us, hl with | [_, _], _ => rfl
  have mLC := PySem.W.mg_of X G aLC
  have FLR := fun_mk (st := sR4) lLR cLR kLR
  have bLR := FLR.binds (ps := ["cup"]) fun _ _ _ _ _ _ us hl => match us, hl with | [_], _ => rfl
  have mLR := PySem.W.mg_of X G aLR
  have FLL := fun_mk (st := sL4) lLL cLL kLL
  have bLL := FLL.binds (ps := ["script"]) fun _ _ _ _ _ _ us hl => match us, hl with | [_], _ => rfl
  have mLL := PySem.W.mg_of X G aLL
  have Fpa := fun_mk (st := sPer) lpa cpa kpa
  have bpa := Fpa.binds (ps := ["self"]) fun _ _ _ _ _ _ us hl => match us, hl with | [_], _ => rfl
  have Pa : PropOf K C "period" pa qa := ⟨ata, gta, tka, _, rca⟩
  have Fpb := fun_mk (st := sMks) lpb cpb kpb
  have bpb := Fpb.binds (ps := ["self"]) fun _ _ _ _ _ _ us hl => match us, hl with | [_], _ => rfl
  have Pb : PropOf K C "marks" pb qb := ⟨atb, gtb, tkb, _, rcb⟩
  have Fpe := fun_mk (st := sEnd) lpe cpe kpe
  have bpe := Fpe.binds (ps := ["self"]) fun _ _ _ _ _ _ us hl => match us, hl with | [_], _ => rfl
  have Pe : PropOf K C "endless" pe qe := ⟨ate, gte, tke, _, rce⟩
  have Fmi := fun_mk (st := sCon) lmi cmi kmi
  have bmi := Fmi.binds (ps := ["self", "number"]) fun _ _ _ _ _ _ us hl => match us, hl with | [_, _], _ => rfl
  have Fmj := fun_mk (st := sEq) lmj cmj kmj
  have bmj := Fmj.binds (ps := ["self", "other"]) fun _ _ _ _ _ _ us hl => match us, hl with | [_, _], _ => rfl
  have Fml := fun_mk (st := sRpr) lml cml kml
  have bml := Fml.binds (ps := ["self"]) fun _ _ _ _ _ _ us hl => match us, hl with | [_], _ => rfl
  have Fmu := fun_mk (st := sAnd) lmu cmu kmu
  have bmu := Fmu.binds (ps := ["self", "other"]) fun _ _ _ _ _ _ us hl => match us, hl with | [_, _], _ => rfl
  have Fmv := fun_mk (st := sOr) lmv cmv kmv
  have bmv := Fmv.binds (ps := ["self", "other"]) fun _ _ _ _ _ _ us hl => match us, hl with | [_, _], _ => rfl
  have Fmw := fun_mk (st := sSub) lmw cmw kmw
  have bmw := Fmw.binds (ps := ["self", "other"]) fun _ _ _ _ _ _ us hl => match us, hl with | [_, _], _ => rfl
  have y_int := PySem.W.mg_none_of X G z_int
  have y_abs := PySem.W.mg_none_of X G z_abs
  have y_len := PySem.W.mg_none_of X G z_len
  have y_divmod := PySem.W.mg_none_of X G z_divmod
  have y_isinstance := PySem.W.mg_none_of X G z_isinstance
  have y_range := PySem.W.mg_none_of X G z_range
  have y_bool := PySem.W.mg_none_of X G z_bool
  have y_enumerate := PySem.W.mg_none_of X G z_enumerate
  have y_list := PySem.W.mg_none_of X G z_list
  have y_tuple := PySem.W.mg_none_of X G z_tuple
  have y_str := PySem.W.mg_none_of X G z_str
  have y_repr := PySem.W.mg_none_of X G z_repr
  have y_max := PySem.W.mg_none_of X G z_max
  have y_min := PySem.W.mg_none_of X G z_min
  have y_all := PySem.W.mg_none_of X G z_all
  have y_sorted := PySem.W.mg_none_of X G z_sorted
  have y_set := PySem.W.mg_none_of X G z_set
  have y_zip := PySem.W.mg_none_of X G z_zip
  have cl : Cls K C := ⟨cpg, chd, cpo, csa⟩
  have ck : ClsK K C := ⟨cl, cha, chn, ctk, cmo⟩
  have ic : IsC K C := ⟨iso, fun t ht => by
    have z := List.all_eq_true.mp isn t ht
    simpa using z⟩
  have gl := PySem.W.mg_of X G aT
  have gG := PySem.W.mg_of X G aG
  have gL := PySem.W.mg_of X G aL
  have mk0 : Mk K C fi := ⟨mmk, ai, fnI0, mkp⟩
  have dfl : Dfl K D0 T0 tp := ⟨dp, dm, fun F => .inr ⟨_, _, _, lT0, rfl, rfl, by decide, .nil⟩⟩
  refine ⟨PySem.W.fnOf "law" "law" (defArgs sL4) (defBody sL4) (defScope sL4) .none kVLL dcLL pmLL anLL cdLL ctLL, fun s v => .of_eq rfl, fun base _ _ => ?_⟩
  have oI : FnG gd0 P w K mg base CX0 1 _ _ ["value"] (spR K RIsI) := ok_isI FI y_isinstance y_int y_bool
  have oW : FnG gd0 P w K mg base CX0 2 _ _ ["value", "least", "most"] (spR K RIsW) := ok_isW FW oI mI kI bI
  have oFu : FnG gd0 P w K mg base CX0 3 _ _ ["row", "most"] (spR K RFu) := ok_unfit FFu oW mW kW bW y_enumerate
  have oPl : FnG gd0 P w K mg base CX0 1 _ _ ["row", "value"] (spR K RPla) := ok_place FPl y_len
  have oHo : FnG gd0 P w K mg base CX0 2 _ _ ["row", "value"] (spR K RHol) := ok_holds FHo oPl mPl kPl bPl y_len
  have oPr : FnG gd0 P w K mg base CX0 1 _ _ ["number"] (spE K GPri RPri) := ok_primes FPr
  have oRe : FnG gd0 P w K mg base CX0 1 _ _ ["period", "marks", "parts"] (spR K RRep) := ok_repeats FRe y_len y_list
  have oSh : FnG gd0 P w K mg base CX0 2 _ _ ["period", "marks"] (spR K RSho) := ok_shortest FSh oPr mPr kPr bPr oRe mRe kRe bRe y_len
  have ini : IniEnv gd0 P w K mg base C := ⟨⟨_, _, oFu, mFu, kFu, bFu⟩, ⟨_, _, oW, mW, kW, bW⟩, ⟨_, _, oSh, mSh, kSh, bSh⟩, cl, n1, n2, ⟨_, PySem.W.mg_of X G g1⟩, ⟨_, PySem.W.mg_of X G g2⟩, y_isinstance, y_tuple, y_int⟩
  have iPM := ini_PM ini li0 ci0
  have iMP := ini_MP ini li0 ci0
  have i0 := ini_0 ini dfl li0 ci0
  have oSt : FnG gd0 P w K mg base CX0 1 _ _ ["period", "marks", "length"] (spR K RStr) := ok_stretched FSt y_len y_range
  have oIn : FnG gd0 P w K mg base CX0 1 _ _ ["number", "modulus"] (spR K RInv) := ok_inverse FIn
  have oBr : FnG gd0 P w K mg base CX0 1 _ _ ["marks", "shared"] (spE K GBr RBr) := ok_byrem FBr y_sorted y_enumerate y_len y_zip y_tuple
  have oBo : FnG gd0 P w K mg base CX0 3 _ _ ["one", "other"] (spR K RBo) := ok_both FBo oIn mIn kIn bIn (oBr.mono (by decide)) mBr kBr bBr gG gL y_tuple y_sorted
  have oLo : FnG gd0 P w K mg base CX0 2 _ _ ["one", "other"] (spR K RLo) := ok_left FLo oSt mSt kSt bSt gL y_tuple
  have oEi : FnG gd0 P w K mg base CX0 3 _ _ ["one", "other"] (spR K REi) := ok_either FEi oSt mSt kSt bSt oLo mLo kLo bLo y_len y_tuple y_sorted y_list
  have oUn : FnG gd0 P w K mg base CX0 6 _ _ ["numbers", "period", "marks"] (spR K (RUn C)) := ok_unchecked FUn cl n1 n2 mk0 i0 gl oSh mSh kSh bSh
  have oMg : FnG gd0 P w K mg base CX0 1 _ _ ["numbers", "others"] (spR K RMrg) := ok_merged FMg y_tuple y_sorted y_set
  have oJo : FnG gd0 P w K mg base CX0 7 _ _ ["pattern", "numbers", "held"] (spR K (RJo C)) := ok_joined FJo oUn mUn kUn bUn oHo mHo kHo bHo y_tuple
  have oCo : FnG gd0 P w K mg base CX0 3 _ _ ["self", "number"] (spR K (RCon C)) := ok_contains Fmi cl n1 n2 oI mI kI bI oHo mHo kHo bHo
  have O : OpE gd0 P w K mg base C := ⟨cl, n1, n2, ⟨_, _, oMg, mMg, kMg, bMg⟩, ⟨_, _, oJo, mJo, kJo, bJo⟩, ⟨_, _, ati, fni, oCo, bmi⟩⟩
  have oLS : FnG gd0 P w K mg base CX0 1 _ _ ["cup", "many"] (spC K GSip RSip) := ok_sip FLS y_int y_divmod
  have oLP : FnG gd0 P w K mg base CX0 2 _ _ ["cup", "things"] (spC K GPick RPick) := ok_pick FLP oLS mLS kLS bLS y_len
  have Q : Q4 P w K mg base C := ⟨ck, gl, nfc, ⟨_, _, ok_lnumbers FLN oLS mLS kLS bLS oLP mLP kLP bLP y_range, mLN, kLN, bLN⟩, ⟨_, _, ok_lmarks FLM oLS mLS kLS bLS oLP mLP kLP bLP y_range y_tuple, mLM, kLM, bLM⟩, ⟨_, _, ok_lset FLE mk0 ⟨iPM, iMP⟩ gl y_len, mLE, kLE, bLE⟩, ⟨_, _, ok_lin FLI y_int, mLI, kLI, bLI⟩, ⟨_, _, ok_lplaces FLC y_range y_list, mLC, kLC, bLC⟩,
    ⟨_, _, ⟨sfc, atu, fnu⟩, ok_And Fmu O oBo mBo kBo bBo, bmu⟩, ⟨_, _, ⟨sfc, atv, fnv⟩, ok_Or Fmv O oEi mEi kEi bEi, bmv⟩, ⟨_, _, ⟨sfc, atw, fnw⟩, ok_Sub Fmw O (oLo.mono (by decide)) mLo kLo bLo, bmw⟩, ⟨_, _, ⟨ine, isu, atj, fnj⟩, ok_eq Fmj ck n1 n2 ic gl y_isinstance, bmj⟩, ⟨_, _, ati, fni, oCo, bmi⟩,
    ⟨_, _, _, Pa, ok_period Fpa cl n1 n2, bpa⟩, ⟨_, _, _, Pb, ok_marks Fpb cl n1 n2, bpb⟩, ⟨_, _, _, Pe, ok_endless Fpe cl n1 n2 y_len, bpe⟩, ⟨_, mk0, i0⟩, y_range, y_int, y_repr, rep_ok (fun L => ok_reprL Fml cl n1 n2) bml atl fnl⟩
  have hfit : ∀ {ns A : List Nat} {a : Nat}, ns.length ≤ 4 → (∀ x ∈ ns, x ≤ 1000000000000000000000) → Per.Pat a A → a ≤ 30 → TextFit ns a A := fun {ns A a} h1 h2 h3 h4 => fit_of h1 (fun x hx => Nat.lt_of_le_of_lt (h2 x hx) (by decide)) (by omega) (fun x hx => by have := h3.lt x hx; omega) (by have := asc_le h3.asc h3.lt; omega)
  have oLR := ok_right4 FLR Q hfit
  exact ok_law4 FLL (ok_cup FLU y_int y_abs y_len) mLU kLU bLU oLR mLR kLR bLR Q ⟨_, _, atl, fnl, ok_repr Fml cl n1 n2, bml⟩ ⟨_, mk0, i0, iPM⟩ y_all y_range y_max y_min y_len
theorem walk {l : PySem.W.OpenLaw} {q : Program} {loose : List Str} {XP : (Str → Option Value) → Heap → Prop} {YP : World → Heap → Prop} {d : DefRec} {K : Params → PySem.W.Frag} (hn : l.most = some 63) (hdf : d.params.defaults = [])
    (hY : ∀ (w : World) (h : Heap), YP w h → (K w.params).In h)
    (F : ∀ (w : World) (mg : Str → Option Value) (fa : Addr) (h : Heap), (K w.params).In h → h.Ns mainGlobals mg → mg d.name = some (.ref fa) →
      ∃ fd : FuncData, (∀ (s : Shared) (u : Value), BindsTo s fd ⟨[u], []⟩ [("script", u)]) ∧ ∀ base : Heap, (K w.params).In base → base.Ns mainGlobals mg → FnG gd0 l.prog w (K w.params) mg base CX0 11 fa fd ["script"] (spLaw (K w.params))) :
    PySem.W.WalkO q loose XP YP l.row.toRowW d [] (fun f vs => PySem.call f vs) :=
  walkG hn hdf ⟨rfl, by decide, by decide⟩ hY F
end K2
set_option Elab.async false
set_option linter.all false
set_option maxRecDepth 100000
set_option maxHeartbeats 4000000
open PySem PySem.W PyProof.Rows
set_option maxRecDepth 100000 in
set_option maxHeartbeats 0 in
theorem PySem.Challenge.cw_evertreads_k04_whole_sets_of_times_joine_holds : PySem.Challenge.rw_evertreads_k04_whole_sets_of_times_joine.Holds := by
  w_on; o_law; k_head; (case hw => w_witness2)
  k_fill
  refine K2.walk (l := PySem.Challenge.rw_evertreads_k04_whole_sets_of_times_joine) rfl rfl (fun w h Y => PySem.W.kIn_of Y) ?F
  case F =>
    intro w mg fa h KX G hmg
    refine' K2.all_mk4 KX G hmg ?aI ?lI ?cI ?kI ?aW ?lW ?cW ?kW ?aFu ?lFu ?cFu ?kFu ?aPl ?lPl ?cPl ?kPl ?aHo ?lHo ?cHo ?kHo ?aPr ?lPr ?cPr ?kPr ?aRe ?lRe ?cRe ?kRe ?aSh ?lSh ?cSh ?kSh ?aSt ?lSt ?cSt ?kSt ?aIn ?lIn ?cIn ?kIn ?aBr ?lBr ?cBr ?kBr ?aBo ?lBo ?cBo ?kBo ?aLo ?lLo ?cLo ?kLo ?aEi ?lEi ?cEi ?kEi ?aUn ?lUn ?cUn ?kUn ?aMg ?lMg ?cMg ?kMg ?aJo ?lJo ?cJo ?kJo ?aLU ?lLU ?cLU ?kLU ?aLS ?lLS ?cLS ?kLS ?aLP ?lLP ?cLP ?kLP ?aLN ?lLN ?cLN ?kLN ?aLM ?lLM ?cLM ?kLM ?aLE ?lLE ?cLE ?kLE ?aLI ?lLI ?cLI ?kLI ?aLC ?lLC ?cLC ?kLC ?aLR ?lLR ?cLR ?kLR ?aLL ?lLL ?cLL ?kLL ?aT ?aG ?aL ?cpg ?chd ?cpo ?csa ?cha ?chn ?ctk ?cmo ?n1 ?n2 ?iso ?isn ?nfc ?sfc ?ine ?isu ?mmk ?mkp ?ai ?li0 ?ci0 ?fnI0 ?dp ?dm ?lT0 ?ata ?gta ?tka ?rca ?lpa ?cpa ?kpa ?atb ?gtb ?tkb ?rcb ?lpb ?cpb ?kpb ?ate ?gte ?tke ?rce ?lpe ?cpe ?kpe ?ati ?fni ?lmi ?cmi ?kmi ?atj ?fnj ?lmj ?cmj ?kmj ?atl ?fnl ?lml ?cml ?kml ?atu ?fnu ?lmu ?cmu ?kmu ?atv ?fnv ?lmv ?cmv ?kmv ?atw ?fnw ?lmw ?cmw ?kmw ?g1 ?g2 ?z_int ?z_abs ?z_len ?z_divmod ?z_isinstance ?z_range ?z_bool ?z_enumerate ?z_list ?z_tuple ?z_str ?z_repr ?z_max ?z_min ?z_all ?z_sorted ?z_set ?z_zip
    (case aI => k_is)
    (case lI => k_is)
    (case cI => k_is)
    (case kI => k_is)
    (case aW => k_is)
    (case lW => k_is)
    (case cW => k_is)
    (case kW => k_is)
    (case aFu => k_is)
    (case lFu => k_is)
    (case cFu => k_is)
    (case kFu => k_is)
    (case aPl => k_is)
    (case lPl => k_is)
    (case cPl => k_is)
    (case kPl => k_is)
    (case aHo => k_is)
    (case lHo => k_is)
    (case cHo => k_is)
    (case kHo => k_is)
    (case aPr => k_is)
    (case lPr => k_is)
    (case cPr => k_is)
    (case kPr => k_is)
    (case aRe => k_is)
    (case lRe => k_is)
    (case cRe => k_is)
    (case kRe => k_is)
    (case aSh => k_is)
    (case lSh => k_is)
    (case cSh => k_is)
    (case kSh => k_is)
    (case aSt => k_is)
    (case lSt => k_is)
    (case cSt => k_is)
    (case kSt => k_is)
    (case aIn => k_is)
    (case lIn => k_is)
    (case cIn => k_is)
    (case kIn => k_is)
    (case aBr => k_is)
    (case lBr => k_is)
    (case cBr => k_is)
    (case kBr => k_is)
    (case aBo => k_is)
    (case lBo => k_is)
    (case cBo => k_is)
    (case kBo => k_is)
    (case aLo => k_is)
    (case lLo => k_is)
    (case cLo => k_is)
    (case kLo => k_is)
    (case aEi => k_is)
    (case lEi => k_is)
    (case cEi => k_is)
    (case kEi => k_is)
    (case aUn => k_is)
    (case lUn => k_is)
    (case cUn => k_is)
    (case kUn => k_is)
    (case aMg => k_is)
    (case lMg => k_is)
    (case cMg => k_is)
    (case kMg => k_is)
    (case aJo => k_is)
    (case lJo => k_is)
    (case cJo => k_is)
    (case kJo => k_is)
    (case aLU => k_is)
    (case lLU => k_is)
    (case cLU => k_is)
    (case kLU => k_is)
    (case aLS => k_is)
    (case lLS => k_is)
    (case cLS => k_is)
    (case kLS => k_is)
    (case aLP => k_is)
    (case lLP => k_is)
    (case cLP => k_is)
    (case kLP => k_is)
    (case aLN => k_is)
    (case lLN => k_is)
    (case cLN => k_is)
    (case kLN => k_is)
    (case aLM => k_is)
    (case lLM => k_is)
    (case cLM => k_is)
    (case kLM => k_is)
    (case aLE => k_is)
    (case lLE => k_is)
    (case cLE => k_is)
    (case kLE => k_is)
    (case aLI => k_is)
    (case lLI => k_is)
    (case cLI => k_is)
    (case kLI => k_is)
    (case aLC => k_is)
    (case lLC => k_is)
    (case cLC => k_is)
    (case kLC => k_is)
    (case aLR => k_is)
    (case lLR => k_is)
    (case cLR => k_is)
    (case kLR => k_is)
    (case aLL => k_is)
    (case lLL => k_is)
    (case cLL => k_is)
    (case kLL => k_is)
    (case aT => k_is)
    (case aG => k_is)
    (case aL => k_is)
    (case cpg => kernel_rfl)
    (case chd => kernel_rfl)
    (case cpo => kernel_rfl)
    (case csa => k_is)
    (case cha => k_is)
    (case chn => k_is)
    (case ctk => k_is)
    (case cmo => k_is)
    (case n1 => k_is)
    (case n2 => k_is)
    (case iso => kernel_rfl)
    (case isn => kernel_rfl)
    (case nfc => kernel_rfl)
    (case sfc => kernel_rfl)
    (case ine => k_is)
    (case isu => k_is)
    (case mmk => kernel_rfl)
    (case mkp => k_is)
    (case ai => k_is)
    (case li0 => k_is)
    (case ci0 => k_is)
    (case fnI0 => k_is)
    (case dp => k_is)
    (case dm => k_is)
    (case lT0 => k_is)
    (case ata => k_is)
    (case gta => k_is)
    (case tka => k_is)
    (case rca => k_is)
    (case lpa => k_is)
    (case cpa => k_is)
    (case kpa => k_is)
    (case atb => k_is)
    (case gtb => k_is)
    (case tkb => k_is)
    (case rcb => k_is)
    (case lpb => k_is)
    (case cpb => k_is)
    (case kpb => k_is)
    (case ate => k_is)
    (case gte => k_is)
    (case tke => k_is)
    (case rce => k_is)
    (case lpe => k_is)
    (case cpe => k_is)
    (case kpe => k_is)
    (case ati => k_is)
    (case fni => k_is)
    (case lmi => k_is)
    (case cmi => k_is)
    (case kmi => k_is)
    (case atj => k_is)
    (case fnj => k_is)
    (case lmj => k_is)
    (case cmj => k_is)
    (case kmj => k_is)
    (case atl => k_is)
    (case fnl => k_is)
    (case lml => k_is)
    (case cml => k_is)
    (case kml => k_is)
    (case atu => k_is)
    (case fnu => k_is)
    (case lmu => k_is)
    (case cmu => k_is)
    (case kmu => k_is)
    (case atv => k_is)
    (case fnv => k_is)
    (case lmv => k_is)
    (case cmv => k_is)
    (case kmv => k_is)
    (case atw => k_is)
    (case fnw => k_is)
    (case lmw => k_is)
    (case cmw => k_is)
    (case kmw => k_is)
    (case g1 => k_is)
    (case g2 => k_is)
    (case z_int => k_is)
    (case z_abs => k_is)
    (case z_len => k_is)
    (case z_divmod => k_is)
    (case z_isinstance => k_is)
    (case z_range => k_is)
    (case z_bool => k_is)
    (case z_enumerate => k_is)
    (case z_list => k_is)
    (case z_tuple => k_is)
    (case z_str => k_is)
    (case z_repr => k_is)
    (case z_max => k_is)
    (case z_min => k_is)
    (case z_all => k_is)
    (case z_sorted => k_is)
    (case z_set => k_is)
    (case z_zip => k_is)
