import PyProof.Rows.All
import Wide.All
import OpenK.AllK
import Wide.FinOn
import HandS.ForMost
import HandS.Exc
import HandS.ExcOwn
import HandS.TryOnly
import HandS.TryMany
import HandS.WordsExc
import HandS.EndBits
import HandS.Wide
import HandS.TupAny
import HandS.TupMul
import KE.Datum
import KE.DatumMore
import HandS.IsInst
import HandS.More
import HandS.Iter
import HandS.FStr
import HandS.ExcCtx
import HandS.RaiseMore
import HandS.HotCalls
import HandS.Comp
import HandS.ExcIs
import HandS.Text
import KE.GoesMore
import KE.KTupSum
import HandS.StrMore
import HandS.Flow
import KE.DataMinMax
import PyProof.CollectIter
import PyProof.MakeMany
import KE.GoesEnumKw
import HandS.SortKw
import PyProof.Rows.CallKwBuiltin
import PyProof.StrLawsChain
import PyProof.StrLawsTight
import PyProof.Rows.StrItems
import PyProof.Rows.StrSplitCount
import KE.KIntText
import KE.IntTextLaws
import KE.OsScanText
import KE.IntTextText
import PySem.Challenge.RW_pipelinecut_k06_texts_read
set_option Elab.async false
set_option linter.all false
set_option maxRecDepth 100000
set_option maxHeartbeats 1000000
namespace PD
open PySem PySem.Spec PyProof.Rows L2
abbrev Sg := L2.St

/-! ### values of the mirror -/
inductive MV where
  | sh (d : PyData) | cell (n : Nat) | tp (xs : List MV) | scr (ns : List Int)
abbrev Mu := List (List MV)
abbrev Sl := List (Option MV)
inductive Res (α : Type) where
  | ok (a : α) | exc (c : Nat)
abbrev M (α : Type) := Mu → Option (Res α × Mu)
def M.ret {α : Type} (a : α) : M α := fun μ => some (.ok a, μ)
def M.opt {α : Type} (a : Option α) : M α := fun μ => a.map fun x => (.ok x, μ)
def M.bind {α β : Type} (x : M α) (f : α → M β) : M β := fun μ =>
  match x μ with
  | none => none
  | some (.exc c, μ') => some (.exc c, μ')
  | some (.ok a, μ') => f a μ'
theorem M.bind_some {α β : Type} {x : M α} {f : α → M β} {μ μ' : Mu} {r : Res β} (h : M.bind x f μ = some (r, μ')) :
    (∃ c, x μ = some (.exc c, μ') ∧ r = .exc c) ∨ ∃ a μ1, x μ = some (.ok a, μ1) ∧ f a μ1 = some (r, μ') := by
  unfold M.bind at h
  split at h
  · cases h
  · rename_i c μ1 e
    cases h
    exact .inl ⟨c, e, rfl⟩
  · rename_i a μ1 e
    exact .inr ⟨a, μ1, e, h⟩

/-! ### points of the run, what stands for what -/
structure Pt where
  H : Hp
  Hs : Hp
  ρ : List Addr
def Sub (H H' : Hp) : Prop := ∀ a o, H a = some o → H' a = some o
theorem Sub.refl (H : Hp) : Sub H H := fun _ _ h => h
theorem Sub.trans {A B C : Hp} (a : Sub A B) (b : Sub B C) : Sub A C := fun x o h => b x o (a x o h)
theorem Sub.new {H : Hp} {l : Addr} {o : HO} (h : H l = none) : Sub H (upd H l o) := fun a u e => by
  rw [upd_ne (ne_of_none e h)]
  exact e
theorem Sub.up {A B : Hp} {l : Addr} {o : HO} (s : Sub A B) : Sub (upd A l o) (upd B l o) := fun a u e => by
  by_cases h : a = l
  · subst h
    rw [upd_same] at e ⊢
    exact e
  · rw [upd_ne h] at e ⊢
    exact s a u e
theorem Sub.free {A B : Hp} {l : Addr} (s : Sub A B) (h : B l = none) : A l = none := by
  cases e : A l with
  | none => rfl
  | some o =>
    rw [s l o e] at h
    cases h

mutual
inductive Dq (H : Hp) : V → PyData → Prop
  | non : Dq H .non .none
  | bl (b : Bool) : Dq H (.bl b) (.bool b)
  | int (i : Int) : Dq H (.int i) (.int i)
  | str (x : Str) : Dq H (.str x) (.str x)
  | lst {a : Addr} {vs : List V} {ds : List PyData} : H a = some (.lst vs) → DqAll H vs ds → Dq H (.ref a) (.list ds)
  | tup {a : Addr} {vs : List V} {ds : List PyData} : H a = some (.tup vs) → DqAll H vs ds → Dq H (.ref a) (.tuple ds)
inductive DqAll (H : Hp) : List V → List PyData → Prop
  | nil : DqAll H [] []
  | cons {v : V} {vs : List V} {d : PyData} {ds : List PyData} : Dq H v d → DqAll H vs ds → DqAll H (v :: vs) (d :: ds)
end
mutual
theorem Dq.mono {H H' : Hp} (e : Sub H H') : ∀ {v : V} {d : PyData}, Dq H v d → Dq H' v d
  | _, _, .non => .non
  | _, _, .bl b => .bl b
  | _, _, .int i => .int i
  | _, _, .str x => .str x
  | _, _, .lst h r => .lst (e _ _ h) (DqAll.mono e r)
  | _, _, .tup h r => .tup (e _ _ h) (DqAll.mono e r)
theorem DqAll.mono {H H' : Hp} (e : Sub H H') : ∀ {vs : List V} {ds : List PyData}, DqAll H vs ds → DqAll H' vs ds
  | _, _, .nil => .nil
  | _, _, .cons h r => .cons (Dq.mono e h) (DqAll.mono e r)
end
mutual
theorem Dq.dp {K : PySem.W.Frag} {H : Hp} : ∀ {v : V} {d : PyData}, Dq H v d → Dp K H v d
  | _, _, .non => .non
  | _, _, .bl b => .bl b
  | _, _, .int i => .int i
  | _, _, .str x => .str x
  | _, _, .lst h r => .lst (SqL.of h) (DqAll.dp r)
  | _, _, .tup h r => .tup (SqT.of h) (DqAll.dp r)
theorem DqAll.dp {K : PySem.W.Frag} {H : Hp} : ∀ {vs : List V} {ds : List PyData}, DqAll H vs ds → DpAll K H vs ds
  | _, _, .nil => .nil
  | _, _, .cons h r => .cons (Dq.dp h) (DqAll.dp r)
end

mutual
inductive Rp (K : PySem.W.Frag) (p : Pt) : V → MV → Prop
  | sh {v : V} {d : PyData} : Dq p.Hs v d → Rp K p v (.sh d)
  | cell {n : Nat} {a : Addr} : p.ρ[n]? = some a → Rp K p (.ref a) (.cell n)
  | tp {a : Addr} {vs : List V} {xs : List MV} : p.Hs a = some (.tup vs) → RpAll K p vs xs → Rp K p (.ref a) (.tp xs)
  | scr {a : Addr} {ns : List Int} : SqL K p.Hs a (ns.map V.int) → Rp K p (.ref a) (.scr ns)
inductive RpAll (K : PySem.W.Frag) (p : Pt) : List V → List MV → Prop
  | nil : RpAll K p [] []
  | cons {v : V} {vs : List V} {x : MV} {xs : List MV} : Rp K p v x → RpAll K p vs xs → RpAll K p (v :: vs) (x :: xs)
end

structure Wd (K : PySem.W.Frag) (p : Pt) (μ : Mu) : Prop where
  ex : Sub p.Hs p.H
  nd : p.ρ.Nodup
  out : ∀ a ∈ p.ρ, p.Hs a = none
  len : p.ρ.length = μ.length
  cel : ∀ (n : Nat) (xs : List MV), μ[n]? = some xs → ∃ a vs, p.ρ[n]? = some a ∧ p.H a = some (.lst vs) ∧ RpAll K p vs xs
structure Gr (p q : Pt) : Prop where
  fr : ∀ a o, p.H a = some o → a ∉ p.ρ → q.H a = some o
  hx : Sub p.Hs q.Hs
  ho : ∀ a xs, p.H a = some (.lst xs) → p.Hs a = none → q.Hs a = none
  pre : ∃ t, q.ρ = p.ρ ++ t
  nw : ∀ a ∈ q.ρ, a ∈ p.ρ ∨ p.H a = none
theorem Gr.refl (p : Pt) : Gr p p := ⟨fun _ _ h _ => h, Sub.refl _, fun _ _ _ h => h, ⟨[], by simp⟩, fun _ h => .inl h⟩
theorem Gr.at {p q : Pt} (g : Gr p q) {n : Nat} {a : Addr} (h : p.ρ[n]? = some a) : q.ρ[n]? = some a := by
  obtain ⟨t, e⟩ := g.pre
  rw [e]
  obtain ⟨h1, h2⟩ := List.getElem?_eq_some_iff.mp h
  rw [List.getElem?_append_left h1]
  exact h
theorem Gr.mem {p q : Pt} (g : Gr p q) {a : Addr} (h : a ∈ p.ρ) : a ∈ q.ρ := by
  obtain ⟨t, e⟩ := g.pre
  rw [e]
  exact List.mem_append_left _ h
theorem sq_mono {K : PySem.W.Frag} {H H' : Hp} {a : Addr} {xs : List V} (e : Sub H H') (h : SqL K H a xs) : SqL K H' a xs := by
  rcases h with (h | ⟨o, h⟩) | h
  · exact .inl (.inl (e _ _ h))
  · exact .inl (.inr ⟨o, e _ _ h⟩)
  · exact .inr h
mutual
theorem Rp.mono {K : PySem.W.Frag} {p q : Pt} (g : Gr p q) : ∀ {v : V} {x : MV}, Rp K p v x → Rp K q v x
  | _, _, .sh h => .sh (h.mono g.hx)
  | _, _, .cell h => .cell (g.at h)
  | _, _, .tp h r => .tp (g.hx _ _ h) (RpAll.mono g r)
  | _, _, .scr h => .scr (sq_mono g.hx h)
theorem RpAll.mono {K : PySem.W.Frag} {p q : Pt} (g : Gr p q) : ∀ {vs : List V} {xs : List MV}, RpAll K p vs xs → RpAll K q vs xs
  | _, _, .nil => .nil
  | _, _, .cons h r => .cons (Rp.mono g h) (RpAll.mono g r)
end
theorem Wd.lst {K : PySem.W.Frag} {p : Pt} {μ : Mu} (w : Wd K p μ) {a : Addr} (h : a ∈ p.ρ) : ∃ vs, p.H a = some (.lst vs) := by
  obtain ⟨n, hn⟩ := List.getElem?_of_mem h
  have hl : n < μ.length := by
    rw [← w.len]
    exact (List.getElem?_eq_some_iff.mp hn).1
  obtain ⟨b, vs, e, hb, _⟩ := w.cel n _ (List.getElem?_eq_getElem hl)
  rw [hn] at e
  cases e
  exact ⟨vs, hb⟩
theorem Gr.trans {K : PySem.W.Frag} {p q r : Pt} {ν : Mu} (wq : Wd K q ν) (a : Gr p q) (b : Gr q r) : Gr p r where
  fr := fun x o h n => b.fr x o (a.fr x o h n) fun hm => by
    rcases a.nw x hm with z | z
    · exact n z
    · rw [h] at z
      cases z
  hx := a.hx.trans b.hx
  ho := fun x xs h n => by
    by_cases hm : x ∈ p.ρ
    · obtain ⟨ys, hl⟩ := wq.lst (a.mem hm)
      exact b.ho x ys hl (a.ho x xs h n)
    · exact b.ho x xs (a.fr x _ h hm) (a.ho x xs h n)
  pre := by
    obtain ⟨t, e⟩ := a.pre
    obtain ⟨u, e'⟩ := b.pre
    exact ⟨t ++ u, by rw [e', e, List.append_assoc]⟩
  nw := fun x hm => by
    rcases b.nw x hm with z | z
    · exact a.nw x z
    · by_cases hp : x ∈ p.ρ
      · exact .inl hp
      · right
        cases e : p.H x with
        | none => rfl
        | some o =>
          rw [a.fr x o e hp] at z
          cases z

/-! ### slots -/
structure Sls (K : PySem.W.Frag) (p : Pt) (σ : Sg) (δ : Sl) : Prop where
  len : σ.length = δ.length
  get : ∀ (i : Nat) (x : MV), δ[i]? = some (some x) → ∃ v, σ[i]? = some (some v) ∧ Rp K p v x
theorem Sls.mono {K : PySem.W.Frag} {p q : Pt} {σ : Sg} {δ : Sl} (g : Gr p q) (s : Sls K p σ δ) : Sls K q σ δ :=
  ⟨s.len, fun i x h => let ⟨v, e, r⟩ := s.get i x h; ⟨v, e, r.mono g⟩⟩
theorem Sls.set {K : PySem.W.Frag} {p : Pt} {σ : Sg} {δ : Sl} {v : V} {x : MV} (s : Sls K p σ δ) (r : Rp K p v x) (i : Nat) : Sls K p (σ.set i (some v)) (δ.set i (some x)) := by
  refine ⟨by rw [List.length_set, List.length_set, s.len], fun j y h => ?_⟩
  by_cases hj : i = j
  · subst hj
    by_cases hi : i < δ.length
    · rw [List.getElem?_set_self hi] at h
      cases h
      exact ⟨v, List.getElem?_set_self (by rw [s.len]; exact hi), r⟩
    · rw [List.getElem?_eq_none (by simpa using hi)] at h
      cases h
  · rw [List.getElem?_set_ne hj] at h
    obtain ⟨w, e, q⟩ := s.get j y h
    exact ⟨w, by rw [List.getElem?_set_ne hj]; exact e, q⟩
theorem Sls.forget {K : PySem.W.Frag} {p : Pt} {σ : Sg} {δ : Sl} (s : Sls K p σ δ) (i : Nat) : Sls K p σ (δ.set i none) := by
  refine ⟨by rw [List.length_set, s.len], fun j y h => ?_⟩
  by_cases hj : i = j
  · subst hj
    by_cases hi : i < δ.length
    · rw [List.getElem?_set_self hi] at h
      cases h
    · rw [List.getElem?_eq_none (by simpa using hi)] at h
      cases h
  · rw [List.getElem?_set_ne hj] at h
    exact s.get j y h
theorem Sls.clear {K : PySem.W.Frag} {p : Pt} {σ : Sg} {δ : Sl} (s : Sls K p σ δ) (i : Nat) : Sls K p (σ.set i none) (δ.set i none) := by
  refine ⟨by rw [List.length_set, List.length_set, s.len], fun j y h => ?_⟩
  by_cases hj : i = j
  · subst hj
    by_cases hi : i < δ.length
    · rw [List.getElem?_set_self hi] at h
      cases h
    · rw [List.getElem?_eq_none (by simpa using hi)] at h
      cases h
  · rw [List.getElem?_set_ne hj] at h
    obtain ⟨w, e, q⟩ := s.get j y h
    exact ⟨w, by rw [List.getElem?_set_ne hj]; exact e, q⟩
/-- slots forgotten -/
def wipeS (δ : Sl) : List Nat → Sl
  | [] => δ
  | v :: vs => (wipeS δ vs).set v none
theorem Sls.forgets {K : PySem.W.Frag} {p : Pt} {σ : Sg} {δ : Sl} (s : Sls K p σ δ) : ∀ vs : List Nat, Sls K p σ (wipeS δ vs)
  | [] => s
  | v :: vs => (Sls.forgets s vs).forget v
theorem Sls.wiped {K : PySem.W.Frag} {p : Pt} {σ : Sg} {δ : Sl} (s : Sls K p σ δ) : ∀ vs : List Nat, Sls K p (wipe σ vs) (wipeS δ vs)
  | [] => s
  | v :: vs => (Sls.wiped s vs).clear v

/-! ### what a reading does -/
section
variable {K : PySem.W.Frag} {cl : Nat → Value} {W : WX} {σ : Sg}
def End {α β : Type} (K : PySem.W.Frag) (cl : Nat → Value) (W : WX) (σ : Sg) (R : Pt → α → β → Prop) (Q : α → Hp → Prop) (q : Pt) : Res β → Prop
  | .ok b => ∀ a, R q a b → Q a q.H
  | .exc c => W (cl c) none σ q.H
def Does {α β : Type} (K : PySem.W.Frag) (cl : Nat → Value) (W : WX) (σ : Sg) (R : Pt → α → β → Prop) (t : Hp → (α → Hp → Prop) → Prop) (m : M β) (p : Pt) : Prop :=
  ∀ μ, Wd K p μ → ∀ r μ', m μ = some (r, μ') → ∀ Q : α → Hp → Prop, (∀ q, Gr p q → Wd K q μ' → End K cl W σ R Q q r) → t p.H Q
theorem Does.bind {α β γ δ : Type} {R : Pt → α → β → Prop} {R' : Pt → γ → δ → Prop} {t : Hp → (α → Hp → Prop) → Prop} {m : M β} {p : Pt} {k : α → Hp → (γ → Hp → Prop) → Prop} {f : β → M δ}
    (h : Does K cl W σ R t m p) (hk : ∀ q, Gr p q → ∀ a b, R q a b → Does K cl W σ R' (k a) (f b) q) : Does K cl W σ R' (fun H Q => t H fun a H1 => k a H1 Q) (M.bind m f) p := by
  intro μ w r μ' e Q hq
  rcases M.bind_some e with ⟨c, e1, rfl⟩ | ⟨b, μ1, e1, e2⟩
  · exact h μ w _ _ e1 _ fun q g w' => hq q g w'
  · refine h μ w _ _ e1 _ fun q g w' => fun a ra => ?_
    exact hk q g a b ra μ1 w' r μ' e2 Q fun q2 g2 w2 => hq q2 (g.trans w' g2) w2
theorem Does.ret {α β : Type} {R : Pt → α → β → Prop} {a : α} {b : β} {p : Pt} (r : R p a b) : Does K cl W σ R (fun H Q => Q a H) (M.ret b) p := by
  intro μ w r' μ' e Q hq
  cases e
  exact hq p (Gr.refl p) w a r
theorem Does.opt {α β : Type} {R : Pt → α → β → Prop} {t : Hp → (α → Hp → Prop) → Prop} {o : Option β} {p : Pt} (h : ∀ b, o = some b → Does K cl W σ R t (M.ret b) p) : Does K cl W σ R t (M.opt o) p := by
  intro μ w r μ' e Q hq
  cases o with
  | none => cases e
  | some b => exact h b rfl μ w r μ' e Q hq
/-- the heap is looked at -/
theorem Does.get {α β : Type} {R : Pt → α → β → Prop} {t : Hp → (α → Hp → Prop) → Prop} {f : Mu → M β} {p : Pt} (h : ∀ μ, Wd K p μ → Does K cl W σ R t (f μ) p) : Does K cl W σ R t (fun μ => f μ μ) p := by
  intro μ w r μ' e Q hq
  exact h μ w μ w r μ' e Q hq

/-! ### new objects -/
theorem Wd.shared {p : Pt} {μ : Mu} {l : Addr} {o : HO} (w : Wd K p μ) (h : p.H l = none) : Wd K ⟨upd p.H l o, upd p.Hs l o, p.ρ⟩ μ ∧ Gr p ⟨upd p.H l o, upd p.Hs l o, p.ρ⟩ := by
  have hs : p.Hs l = none := w.ex.free h
  have hl : l ∉ p.ρ := fun hm => by
    obtain ⟨vs, e⟩ := w.lst hm
    rw [h] at e
    cases e
  have g : Gr p ⟨upd p.H l o, upd p.Hs l o, p.ρ⟩ := ⟨fun a u e _ => Sub.new h a u e, Sub.new hs, fun a xs e n => by
      show upd p.Hs l o a = none
      rw [upd_ne (ne_of_none e h)]
      exact n, ⟨[], by simp⟩, fun a m => .inl m⟩
  refine ⟨⟨w.ex.up, w.nd, fun a m => ?_, w.len, fun n xs e => ?_⟩, g⟩
  · show upd p.Hs l o a = none
    have hal : a ≠ l := fun e => hl (by rw [← e]; exact m)
    rw [upd_ne hal]
    exact w.out a m
  · obtain ⟨a, vs, e1, e2, r⟩ := w.cel n xs e
    exact ⟨a, vs, e1, Sub.new h a _ e2, r.mono g⟩
theorem get_append_one {α : Type} {l : List α} {x y : α} {n : Nat} (h : (l ++ [x])[n]? = some y) : (l[n]? = some y) ∨ (n = l.length ∧ y = x) := by
  by_cases hn : n < l.length
  · rw [List.getElem?_append_left hn] at h
    exact .inl h
  · rw [List.getElem?_append_right (by omega)] at h
    obtain ⟨h1, h2⟩ := List.getElem?_eq_some_iff.mp h
    have e : n - l.length = 0 := by
      have : ([x] : List α).length = 1 := rfl
      omega
    right
    refine ⟨by omega, ?_⟩
    rw [← h2]
    simp [e]
theorem Wd.newCell {p : Pt} {μ : Mu} {l : Addr} {vs : List V} {xs : List MV} (w : Wd K p μ) (h : p.H l = none) (r : RpAll K p vs xs) :
    Wd K ⟨upd p.H l (.lst vs), p.Hs, p.ρ ++ [l]⟩ (μ ++ [xs]) ∧ Gr p ⟨upd p.H l (.lst vs), p.Hs, p.ρ ++ [l]⟩ := by
  have hs : p.Hs l = none := w.ex.free h
  have hl : l ∉ p.ρ := fun hm => by
    obtain ⟨vs, e⟩ := w.lst hm
    rw [h] at e
    cases e
  have g : Gr p ⟨upd p.H l (.lst vs), p.Hs, p.ρ ++ [l]⟩ := ⟨fun a u e _ => Sub.new h a u e, Sub.refl _, fun a xs e n => n, ⟨[l], rfl⟩, fun a m => by
    rcases List.mem_append.mp m with z | z
    · exact .inl z
    · rw [List.mem_singleton.mp z]
      exact .inr h⟩
  refine ⟨⟨fun a o e => Sub.new h a o (w.ex a o e), ?_, fun a m => ?_, by simp [w.len], fun n ys e => ?_⟩, g⟩
  · refine List.nodup_append.mpr ⟨w.nd, by simp, fun a ha b hb => ?_⟩
    rw [List.mem_singleton.mp hb]
    exact fun e => hl (e ▸ ha)
  · rcases List.mem_append.mp m with z | z
    · exact w.out a z
    · rw [List.mem_singleton.mp z]
      exact hs
  · rcases get_append_one e with e | ⟨en, ey⟩
    · obtain ⟨a, us, e1, e2, r'⟩ := w.cel n ys e
      exact ⟨a, us, g.at e1, Sub.new h a _ e2, r'.mono g⟩
    · refine ⟨l, vs, ?_, upd_same, ?_⟩
      · rw [en, ← w.len]
        simp
      · rw [ey]
        exact r.mono g
theorem Wd.setCell {p : Pt} {μ : Mu} {n : Nat} {a : Addr} {vs : List V} {xs : List MV} (w : Wd K p μ) (ha : p.ρ[n]? = some a) (r : RpAll K p vs xs) :
    Wd K ⟨upd p.H a (.lst vs), p.Hs, p.ρ⟩ (μ.set n xs) ∧ Gr p ⟨upd p.H a (.lst vs), p.Hs, p.ρ⟩ := by
  have hm : a ∈ p.ρ := List.mem_of_getElem? ha
  have g : Gr p ⟨upd p.H a (.lst vs), p.Hs, p.ρ⟩ := ⟨fun b o e hn => by
      show upd p.H a (.lst vs) b = some o
      have hba : b ≠ a := fun z => hn (by rw [z]; exact hm)
      rw [upd_ne hba]
      exact e, Sub.refl _, fun _ _ _ h => h, ⟨[], by simp⟩, fun _ h => .inl h⟩
  refine ⟨⟨fun b o e => ?_, w.nd, w.out, by simp [w.len], fun k ys e => ?_⟩, g⟩
  · show upd p.H a (.lst vs) b = some o
    have hb : b ≠ a := fun z => by
      rw [z, w.out a hm] at e
      cases e
    rw [upd_ne hb]
    exact w.ex b o e
  · by_cases hk : n = k
    · subst hk
      have hl : n < μ.length := by
        rw [← w.len]
        exact (List.getElem?_eq_some_iff.mp ha).1
      rw [List.getElem?_set_self hl] at e
      cases e
      exact ⟨a, vs, ha, upd_same, r.mono g⟩
    · rw [List.getElem?_set_ne hk] at e
      obtain ⟨b, us, e1, e2, r'⟩ := w.cel k ys e
      refine ⟨b, us, e1, ?_, r'.mono g⟩
      have hb : b ≠ a := fun z => by
        subst z
        obtain ⟨h1, e1'⟩ := List.getElem?_eq_some_iff.mp ha
        obtain ⟨h2, e2'⟩ := List.getElem?_eq_some_iff.mp e1
        exact hk ((List.getElem_inj w.nd).mp (e1'.trans e2'.symm))
      show upd p.H a (.lst vs) b = some (.lst us)
      rw [upd_ne hb]
      exact e2
end
end PD

set_option Elab.async false
set_option linter.all false
set_option maxRecDepth 100000
set_option maxHeartbeats 1000000
namespace PD
open PySem PySem.Spec PyProof.Rows L2

/-! ### looking at values -/
def allSh : List MV → Option (List PyData)
  | [] => some []
  | .sh d :: r => (allSh r).map (d :: ·)
  | _ :: _ => none
def mkT (xs : List MV) : MV := match allSh xs with
  | some ds => .sh (.tuple ds)
  | none => .tp xs
def lview (μ : Mu) : MV → Option (List MV)
  | .sh (.list ds) => some (ds.map .sh)
  | .cell n => μ[n]?
  | .scr ns => some (ns.map fun i => .sh (.int i))
  | _ => none
def tview : MV → Option (List MV)
  | .sh (.tuple ds) => some (ds.map .sh)
  | .tp xs => some xs
  | _ => none
def peekA (f : MV → Option PyData) : List MV → Option (List PyData)
  | [] => some []
  | x :: r => match f x with
    | none => none
    | some d => (peekA f r).map (d :: ·)
def peek : Nat → Mu → MV → Option PyData
  | 0, _, _ => none
  | _ + 1, _, .sh d => some d
  | n + 1, μ, .cell c => match μ[c]? with
    | some xs => (peekA (peek n μ) xs).map .list
    | none => none
  | n + 1, μ, .tp xs => (peekA (peek n μ) xs).map .tuple
  | _ + 1, _, .scr _ => none

section
variable {K : PySem.W.Frag} {p : Pt} {μ : Mu}
theorem RpAll.length : ∀ {vs : List V} {xs : List MV}, RpAll K p vs xs → vs.length = xs.length
  | _, _, .nil => rfl
  | _, _, .cons _ r => by rw [List.length_cons, List.length_cons, RpAll.length r]
theorem RpAll.get : ∀ {vs : List V} {xs : List MV} {i : Nat} {x : MV}, RpAll K p vs xs → xs[i]? = some x → ∃ v, vs[i]? = some v ∧ Rp K p v x
  | _, _, _, _, .nil, e => by simp at e
  | _, _, 0, _, .cons r _, e => by
    have e' := Option.some.inj e
    subst e'
    exact ⟨_, rfl, r⟩
  | _, _, i + 1, x, .cons _ t, e => RpAll.get (i := i) (x := x) t e
theorem RpAll.append : ∀ {vs ws : List V} {xs ys : List MV}, RpAll K p vs xs → RpAll K p ws ys → RpAll K p (vs ++ ws) (xs ++ ys)
  | _, _, _, _, .nil, s => s
  | _, _, _, _, .cons r t, s => .cons r (RpAll.append t s)
theorem RpAll.take : ∀ {vs : List V} {xs : List MV} (n : Nat), RpAll K p vs xs → RpAll K p (vs.take n) (xs.take n)
  | _, _, 0, _ => .nil
  | _, _, _ + 1, .nil => .nil
  | _, _, n + 1, .cons r t => .cons r (RpAll.take n t)
theorem RpAll.drop : ∀ {vs : List V} {xs : List MV} (n : Nat), RpAll K p vs xs → RpAll K p (vs.drop n) (xs.drop n)
  | _, _, 0, r => r
  | _, _, _ + 1, .nil => .nil
  | _, _, n + 1, .cons _ t => RpAll.drop n t
theorem RpAll.set {v : V} {x : MV} (r : Rp K p v x) : ∀ {vs : List V} {xs : List MV} (i : Nat), RpAll K p vs xs → RpAll K p (vs.set i v) (xs.set i x)
  | _, _, _, .nil => .nil
  | _, _, 0, .cons _ t => .cons r t
  | _, _, i + 1, .cons q t => .cons q (RpAll.set r i t)
theorem RpAll.eraseIdx : ∀ {vs : List V} {xs : List MV} (i : Nat), RpAll K p vs xs → RpAll K p (vs.eraseIdx i) (xs.eraseIdx i)
  | _, _, _, .nil => .nil
  | _, _, 0, .cons _ t => t
  | _, _, i + 1, .cons q t => .cons q (RpAll.eraseIdx i t)
theorem RpAll.insertIdx {v : V} {x : MV} (r : Rp K p v x) : ∀ {vs : List V} {xs : List MV} (i : Nat), RpAll K p vs xs → RpAll K p (vs.insertIdx i v) (xs.insertIdx i x)
  | _, _, 0, t => .cons r t
  | _, _, _ + 1, .nil => .nil
  | _, _, i + 1, .cons q t => .cons q (RpAll.insertIdx r i t)
theorem RpAll.rep {vs : List V} {xs : List MV} (h : RpAll K p vs xs) : ∀ k : Nat, RpAll K p (List.replicate k vs).flatten (List.replicate k xs).flatten
  | 0 => .nil
  | k + 1 => by
    rw [List.replicate_succ, List.replicate_succ, List.flatten_cons, List.flatten_cons]
    exact h.append (RpAll.rep h k)
theorem DqAll.length {H : Hp} : ∀ {vs : List V} {ds : List PyData}, DqAll H vs ds → vs.length = ds.length
  | _, _, .nil => rfl
  | _, _, .cons _ r => by rw [List.length_cons, List.length_cons, DqAll.length r]
theorem DqAll.rp : ∀ {vs : List V} {ds : List PyData}, DqAll p.Hs vs ds → RpAll K p vs (ds.map .sh)
  | _, _, .nil => .nil
  | _, _, .cons h r => .cons (.sh h) (DqAll.rp r)
theorem RpAll.dq : ∀ {vs : List V} {xs : List MV} {ds : List PyData}, RpAll K p vs xs → allSh xs = some ds → DqAll p.Hs vs ds
  | _, _, ds, .nil, e => by
    have e' : [] = ds := Option.some.inj e
    subst e'
    exact .nil
  | _, _, ds, .cons (xs := xs) h r, e => by
    cases h with
    | sh h =>
      cases e1 : allSh xs with
      | none =>
        simp only [allSh, e1] at e
        cases e
      | some ds' =>
        simp only [allSh, e1, Option.map_some, Option.some.injEq] at e
        subst e
        exact .cons h (RpAll.dq r e1)
    | cell h => cases e
    | tp h1 h2 => cases e
    | scr h => cases e
theorem rp_ints {vs : List V} : ∀ {ns : List Int}, vs = ns.map V.int → RpAll K p vs (ns.map fun i => .sh (.int i))
  | [], e => by
    subst e
    exact .nil
  | n :: ns, e => by
    subst e
    exact .cons (.sh (.int n)) (rp_ints rfl)
theorem lview_ok {v : V} {x : MV} {xs : List MV} (w : Wd K p μ) (r : Rp K p v x) (h : lview μ x = some xs) : ∃ a vs, v = .ref a ∧ SqL K p.H a vs ∧ RpAll K p vs xs := by
  cases r with
  | sh q =>
    cases q with
    | lst h1 h2 =>
      cases h
      exact ⟨_, _, rfl, .of (w.ex _ _ h1), h2.rp⟩
    | non => cases h
    | bl => cases h
    | int => cases h
    | str => cases h
    | tup => cases h
  | cell q =>
    obtain ⟨a, vs, e1, e2, e3⟩ := w.cel _ _ h
    rw [q] at e1
    cases e1
    exact ⟨_, _, rfl, .of e2, e3⟩
  | tp q _ => cases h
  | scr q =>
    cases h
    exact ⟨_, _, rfl, sq_mono w.ex q, rp_ints rfl⟩
/-- a list that is no script -/
def isScr : MV → Bool
  | .scr _ => true
  | _ => false
theorem lview_st {v : V} {x : MV} {xs : List MV} (w : Wd K p μ) (r : Rp K p v x) (h : lview μ x = some xs) (hn : isScr x = false) : ∃ a vs, v = .ref a ∧ p.H a = some (.lst vs) ∧ RpAll K p vs xs := by
  cases r with
  | sh q =>
    cases q with
    | lst h1 h2 =>
      cases h
      exact ⟨_, _, rfl, w.ex _ _ h1, h2.rp⟩
    | non => cases h
    | bl => cases h
    | int => cases h
    | str => cases h
    | tup => cases h
  | cell q =>
    obtain ⟨a, vs, e1, e2, e3⟩ := w.cel _ _ h
    rw [q] at e1
    cases e1
    exact ⟨_, _, rfl, e2, e3⟩
  | tp q _ => cases h
  | scr q => cases hn
theorem tview_ok {v : V} {x : MV} {xs : List MV} (r : Rp K p v x) (h : tview x = some xs) : ∃ a vs, v = .ref a ∧ p.Hs a = some (.tup vs) ∧ RpAll K p vs xs := by
  cases r with
  | sh q =>
    cases q with
    | tup h1 h2 =>
      cases h
      exact ⟨_, _, rfl, h1, h2.rp⟩
    | non => cases h
    | bl => cases h
    | int => cases h
    | str => cases h
    | lst => cases h
  | cell q => cases h
  | tp h1 h2 =>
    cases h
    exact ⟨_, _, rfl, h1, h2⟩
  | scr q => cases h
theorem mkT_ok {a : Addr} {vs : List V} {xs : List MV} (h : p.Hs a = some (.tup vs)) (r : RpAll K p vs xs) : Rp K p (.ref a) (mkT xs) := by
  unfold mkT
  split
  · rename_i ds e
    exact .sh (.tup h (r.dq e))
  · exact .tp h r
theorem peekA_ok {G : Hp} {f : MV → Option PyData} (hf : ∀ v x d, Rp K p v x → f x = some d → Dq G v d) : ∀ {vs : List V} {xs : List MV} {ds : List PyData}, RpAll K p vs xs → peekA f xs = some ds → DqAll G vs ds
  | _, _, ds, .nil, e => by
    have e' : [] = ds := Option.some.inj e
    subst e'
    exact .nil
  | _, _, ds, .cons (x := x) (xs := xs) h r, e => by
    unfold peekA at e
    cases e1 : f x with
    | none =>
      rw [e1] at e
      cases e
    | some d =>
      rw [e1] at e
      cases e2 : peekA f xs with
      | none =>
        simp only [e2] at e
        cases e
      | some ds' =>
        simp only [e2, Option.map_some, Option.some.injEq] at e
        subst e
        exact .cons (hf _ _ _ h e1) (peekA_ok hf r e2)
theorem peek_ok {G : Hp} (w : Wd K p μ) (hs : Sub p.Hs G) (hc : ∀ a ∈ p.ρ, ∀ o, p.H a = some o → G a = some o) : ∀ (n : Nat) (v : V) (x : MV) (d : PyData), Rp K p v x → peek n μ x = some d → Dq G v d
  | 0, _, _, _, _, e => by cases e
  | n + 1, v, x, d, r, e => by
    cases r with
    | sh q =>
      cases e
      exact q.mono hs
    | cell q =>
      rename_i c a
      unfold peek at e
      cases e1 : μ[c]? with
      | none =>
        rw [e1] at e
        cases e
      | some xs =>
        rw [e1] at e
        obtain ⟨b, vs, h1, h2, h3⟩ := w.cel _ _ e1
        rw [q] at h1
        cases h1
        cases e2 : peekA (peek n μ) xs with
        | none =>
          simp only [e2] at e
          cases e
        | some ds =>
          simp only [e2, Option.map_some, Option.some.injEq] at e
          subst e
          exact .lst (hc _ (List.mem_of_getElem? q) _ h2) (peekA_ok (fun v x d r e => peek_ok w hs hc n v x d r e) h3 e2)
    | tp q1 q2 =>
      rename_i a vs xs
      unfold peek at e
      cases e2 : peekA (peek n μ) xs with
      | none =>
        simp only [e2] at e
        cases e
      | some ds =>
        simp only [e2, Option.map_some, Option.some.injEq] at e
        subst e
        exact .tup (hs _ _ q1) (peekA_ok (fun v x d r e => peek_ok w hs hc n v x d r e) q2 e2)
    | scr q => cases e
theorem peek_dp {v : V} {x : MV} {d : PyData} {n : Nat} (w : Wd K p μ) (r : Rp K p v x) (e : peek n μ x = some d) : Dq p.H v d := peek_ok w w.ex (fun _ _ _ h => h) n v x d r e
end
mutual
theorem Dq.plain {H : Hp} : ∀ {v : V} {d : PyData}, Dq H v d → d.plain = true
  | _, _, .non => rfl
  | _, _, .bl b => rfl
  | _, _, .int i => rfl
  | _, _, .str x => rfl
  | _, _, .lst _ r => by
    unfold PyData.plain
    exact DqAll.plain r
  | _, _, .tup _ r => by
    unfold PyData.plain
    exact DqAll.plain r
theorem DqAll.plain {H : Hp} : ∀ {vs : List V} {ds : List PyData}, DqAll H vs ds → PyData.plainAll ds = true
  | _, _, .nil => rfl
  | _, _, .cons h r => by
    unfold PyData.plainAll
    rw [Dq.plain h, DqAll.plain r] <;> rfl
end

/-! ### two rules more of the hand layer: == and in over plain data -/
section
variable {X : Cx}
def rEqP (K : PySem.W.Frag) (neg : Bool) : R2 := fun x y H Q => ∃ d e, Dp K H x d ∧ Dp K H y e ∧ d.plain = true ∧ e.plain = true ∧ d.depth ≤ 64 ∧ Q (.bl (if neg then !PyData.eqv d e else PyData.eqv d e)) H
theorem op_eqP (hu : X.A.units + 64 < cLine) : OpR X (compareOp .Eq) (rEqP X.K false) := by
  intro pins s σ H x y v u Q I rx ry h
  obtain ⟨d, e, hd, he, pd, pe, dd, q⟩ := h
  obtain ⟨as, r1⟩ := Dp.reads I d x v hd rx
  obtain ⟨bs, r2⟩ := Dp.reads I e y u he ry
  exact PySem.SeqAt.eq_plain r1 r2 pd pe (by have := Nat.min_le_left d.depth e.depth; omega) ⟨.bl (PyData.eqv d e), H, I, rfl, q⟩
theorem op_neP (hu : X.A.units + 64 < cLine) : OpR X (compareOp .NotEq) (rEqP X.K true) := by
  intro pins s σ H x y v u Q I rx ry h
  obtain ⟨d, e, hd, he, pd, pe, dd, q⟩ := h
  obtain ⟨as, r1⟩ := Dp.reads I d x v hd rx
  obtain ⟨bs, r2⟩ := Dp.reads I e y u he ry
  exact PySem.SeqAt.ne_plain r1 r2 pd pe (by have := Nat.min_le_left d.depth e.depth; omega) ⟨.bl (!PyData.eqv d e), H, I, rfl, q⟩

/-- x in xs, x not in xs: plain data of any depth -/
def rInP (K : PySem.W.Frag) (neg : Bool) : R2 := fun x y H Q => ∃ d es, Dp K H x d ∧ (Dp K H y (.list es) ∨ Dp K H y (.tuple es)) ∧ d.plain = true ∧ PyData.plainAll es = true ∧ d.depth ≤ 60 ∧
  Q (.bl (if neg then !(es.any fun e => PyData.eqv e d) else es.any fun e => PyData.eqv e d)) H
theorem op_inP (hu : X.A.units + 64 < cLine) : OpR X (compareOp .In) (rInP X.K false) := by
  intro pins s σ H x y v u Q I rx ry h
  obtain ⟨d, es, hd, he, pd, pe, dd, q⟩ := h
  obtain ⟨as, r1⟩ := Dp.reads I d x v hd rx
  have hr : X.A.units + 1 + min (PyData.depthAll es) d.depth < cLine := by
    have := Nat.min_le_right (PyData.depthAll es) d.depth
    omega
  rcases he with he | he
  · obtain ⟨bs, r2⟩ := Dp.reads I _ y u he ry
    exact PySem.SeqAt.in_list_data r2 r1 pe pd hr ⟨.bl (es.any fun e => PyData.eqv e d), H, I, rfl, q⟩
  · obtain ⟨bs, r2⟩ := Dp.reads I _ y u he ry
    exact PySem.SeqAt.in_tuple_data r2 r1 pe pd hr ⟨.bl (es.any fun e => PyData.eqv e d), H, I, rfl, q⟩
theorem op_niP (hu : X.A.units + 64 < cLine) : OpR X (compareOp .NotIn) (rInP X.K true) := by
  intro pins s σ H x y v u Q I rx ry h
  obtain ⟨d, es, hd, he, pd, pe, dd, q⟩ := h
  obtain ⟨as, r1⟩ := Dp.reads I d x v hd rx
  have hr : X.A.units + 1 + min (PyData.depthAll es) d.depth < cLine := by
    have := Nat.min_le_right (PyData.depthAll es) d.depth
    omega
  rcases he with he | he
  · obtain ⟨bs, r2⟩ := Dp.reads I _ y u he ry
    exact PySem.SeqAt.notIn_list_data r2 r1 pe pd hr ⟨.bl (!(es.any fun e => PyData.eqv e d)), H, I, rfl, q⟩
  · obtain ⟨bs, r2⟩ := Dp.reads I _ y u he ry
    exact PySem.SeqAt.notIn_tuple_data r2 r1 pe pd hr ⟨.bl (!(es.any fun e => PyData.eqv e d)), H, I, rfl, q⟩
/-- * of ints of any size that the model lets by -/
theorem op_mulM : OpR X (binaryOp .Mult) (rI IntMulOk fun i j => .int (i * j)) := opI fun _ _ _ _ _ _ _ hc q => mul_int q hc
end

/-! ### the judgements of the mirror -/
def M.look {β : Type} (g : Mu → Option β) : M β := fun μ => (g μ).map fun b => (.ok b, μ)
section
variable {K : PySem.W.Frag} {cl : Nat → Value}
def PEm (K : PySem.W.Frag) (cl : Nat → Value) (W : WX) (te : TE) (m : Sl → M MV) : Prop := ∀ (σ : Sg) (δ : Sl) (p : Pt), Sls K p σ δ → Does K cl W σ (Rp K) (te σ) (m δ) p
def PAm (K : PySem.W.Frag) (cl : Nat → Value) (W : WX) (ta : TA) (m : Sl → M (List MV)) : Prop := ∀ (σ : Sg) (δ : Sl) (p : Pt), Sls K p σ δ → Does K cl W σ (RpAll K) (ta σ) (m δ) p
def PTm (K : PySem.W.Frag) (cl : Nat → Value) (W : WX) (tt : TT) (m : Sl → M Bool) : Prop := ∀ (σ : Sg) (δ : Sl) (p : Pt), Sls K p σ δ → Does K cl W σ (fun _ a b => a = b) (tt σ) (m δ) p
def R2m (K : PySem.W.Frag) (cl : Nat → Value) (r : R2) (f : MV → MV → M MV) : Prop := ∀ (W : WX) (σ : Sg) (p : Pt) (x y : V) (mx my : MV), Rp K p x mx → Rp K p y my → Does K cl W σ (Rp K) (r x y) (f mx my) p
def R1m (K : PySem.W.Frag) (cl : Nat → Value) (r : V → Hp → VK → Prop) (f : MV → M MV) : Prop := ∀ (W : WX) (σ : Sg) (p : Pt) (x : V) (mx : MV), Rp K p x mx → Does K cl W σ (Rp K) (r x) (f mx) p
def RCm (K : PySem.W.Frag) (cl : Nat → Value) (r : List V → Hp → VK → Prop) (f : List MV → M MV) : Prop := ∀ (W : WX) (σ : Sg) (p : Pt) (xs : List V) (ms : List MV), RpAll K p xs ms → Does K cl W σ (Rp K) (r xs) (f ms) p
def RMm (K : PySem.W.Frag) (cl : Nat → Value) (r : V → List V → Hp → VK → Prop) (f : MV → List MV → M MV) : Prop := ∀ (W : WX) (σ : Sg) (p : Pt) (x : V) (mx : MV) (xs : List V) (ms : List MV), Rp K p x mx → RpAll K p xs ms → Does K cl W σ (Rp K) (r x xs) (f mx ms) p
theorem Does.look {α β : Type} {W : WX} {σ : Sg} {R : Pt → α → β → Prop} {t : Hp → (α → Hp → Prop) → Prop} {g : Mu → Option β} {p : Pt}
    (h : ∀ μ, Wd K p μ → ∀ b, g μ = some b → ∀ Q : α → Hp → Prop, (∀ a, R p a b → Q a p.H) → t p.H Q) : Does K cl W σ R t (M.look g) p := by
  intro μ w r μ' e Q hq
  unfold M.look at e
  cases e1 : g μ with
  | none =>
    rw [e1] at e
    cases e
  | some b =>
    rw [e1] at e
    cases e
    exact h μ w b e1 Q fun a ra => hq p (Gr.refl p) w a ra
/-- an object made: the reading hands out any free place -/
theorem Does.make {W : WX} {σ : Sg} {p : Pt} {t : Hp → VK → Prop} {g : Mu → Option (MV × Mu)} {o : HO}
    (h : ∀ μ, Wd K p μ → ∀ b μ', g μ = some (b, μ') → ∃ o, (∀ Q : VK, (∀ l, p.H l = none → Q (.ref l) (upd p.H l o)) → t p.H Q) ∧ ∀ l, p.H l = none → ∃ q : Pt, q.H = upd p.H l o ∧ Gr p q ∧ Wd K q μ' ∧ Rp K q (.ref l) b) :
    Does K cl W σ (Rp K) t (fun μ => (g μ).map fun b => (.ok b.1, b.2)) p := by
  intro μ w r μ' e Q hq
  cases e1 : g μ with
  | none =>
    simp only [e1] at e
    cases e
  | some b =>
    simp only [e1] at e
    cases e
    obtain ⟨o, h1, h2⟩ := h μ w b.1 b.2 e1
    refine h1 Q fun l hl => ?_
    obtain ⟨q, eq, g, w', r⟩ := h2 l hl
    have := hq q g w' _ r
    rw [eq] at this
    exact this
end
end PD

set_option Elab.async false
set_option linter.all false
set_option maxRecDepth 100000
set_option maxHeartbeats 1000000
namespace PD
open PySem PySem.Spec PyProof.Rows L2

/-! ### the mirror's words: values -/
def mVar (i : Nat) : Sl → M MV := fun δ => M.opt (match δ[i]? with
  | some (some x) => some x
  | _ => none)
def mC (d : PyData) : Sl → M MV := fun _ => M.ret (.sh d)
def mOp2 (f : MV → MV → M MV) (a b : Sl → M MV) : Sl → M MV := fun δ => (a δ).bind fun x => (b δ).bind fun y => f x y
def mOp1 (f : MV → M MV) (a : Sl → M MV) : Sl → M MV := fun δ => (a δ).bind fun x => f x
def mNil : Sl → M (List MV) := fun _ => M.ret []
def mCons (a : Sl → M MV) (r : Sl → M (List MV)) : Sl → M (List MV) := fun δ => (a δ).bind fun x => (r δ).bind fun xs => M.ret (x :: xs)
def mCB (f : List MV → M MV) (a : Sl → M (List MV)) : Sl → M MV := fun δ => (a δ).bind fun xs => f xs
def mBM (f : MV → List MV → M MV) (o : Sl → M MV) (a : Sl → M (List MV)) : Sl → M MV := fun δ => (o δ).bind fun x => (a δ).bind fun xs => f x xs
def isB : MV → Option Bool
  | .sh (.bool b) => some b
  | _ => none
def mTest (a : Sl → M MV) : Sl → M Bool := fun δ => (a δ).bind fun x => M.opt (isB x)
def mAnd (a b : Sl → M Bool) : Sl → M Bool := fun δ => (a δ).bind fun c => if c = true then b δ else M.ret false
def mOr (a b : Sl → M Bool) : Sl → M Bool := fun δ => (a δ).bind fun c => if c = true then M.ret true else b δ
def mNot (a : Sl → M Bool) : Sl → M Bool := fun δ => (a δ).bind fun c => M.ret (!c)
def mAndV (a b : Sl → M MV) : Sl → M MV := fun δ => (a δ).bind fun x => (M.opt (isB x)).bind fun c => if c = true then b δ else M.ret (.sh (.bool false))
def mOrV (a b : Sl → M MV) : Sl → M MV := fun δ => (a δ).bind fun x => (M.opt (isB x)).bind fun c => if c = true then M.ret (.sh (.bool true)) else b δ
def mNotV (a : Sl → M MV) : Sl → M MV := fun δ => (a δ).bind fun x => (M.opt (isB x)).bind fun c => M.ret (.sh (.bool (!c)))
def mIf (t : Sl → M Bool) (a b : Sl → M MV) : Sl → M MV := fun δ => (t δ).bind fun c => if c = true then a δ else b δ
def mChain (f g : MV → MV → M MV) (a b c : Sl → M MV) : Sl → M MV := fun δ => (a δ).bind fun x => (b δ).bind fun y => (f x y).bind fun z => (M.opt (isB z)).bind fun k => if k = true then (c δ).bind fun w => g y w else M.ret (.sh (.bool false))
def truM (μ : Mu) : MV → Option Bool
  | .sh .none => some false
  | .sh (.bool b) => some b
  | .sh (.int i) => some (i != 0)
  | .sh (.str x) => if x.length ≤ sizeLine then some ((x.length : Int) != 0) else none
  | x => match lview μ x with
    | some xs => some (!xs.isEmpty)
    | none => (tview x).map fun xs => !xs.isEmpty
def mTru (a : Sl → M MV) : Sl → M Bool := fun δ => (a δ).bind fun x => M.look fun μ => truM μ x
def mTup (a : Sl → M (List MV)) : Sl → M MV := fun δ => (a δ).bind fun xs => if xs.length ≤ 1000 then M.ret (mkT xs) else fun _ => none
def mkL (b : Bool) (xs : List MV) (μ : Mu) : Option (MV × Mu) := if b = true then some (.cell μ.length, μ ++ [xs]) else (allSh xs).map fun ds => (.sh (.list ds), μ)
def M.mkL (b : Bool) (xs : List MV) : M MV := fun μ => (PD.mkL b xs μ).map fun r => (.ok r.1, r.2)
def mLst (b : Bool) (a : Sl → M (List MV)) : Sl → M MV := fun δ => (a δ).bind fun xs => if xs.length ≤ 100000 then M.mkL b xs else fun _ => none

section
variable {K : PySem.W.Frag} {cl : Nat → Value} {W : WX} {σ : Sg}
theorem Does.none {α β : Type} {R : Pt → α → β → Prop} {t : Hp → (α → Hp → Prop) → Prop} {p : Pt} : Does K cl W σ R t (fun _ => none) p := by
  intro μ w r μ' e
  cases e
theorem isB_ok {p : Pt} {v : V} {x : MV} {b : Bool} (r : Rp K p v x) (h : isB x = some b) : v = .bl b := by
  cases r with
  | sh q =>
    cases q with
    | bl c =>
      cases h
      rfl
    | non => cases h
    | int => cases h
    | str => cases h
    | lst => cases h
    | tup => cases h
  | cell => cases h
  | tp => cases h
  | scr => cases h
theorem newL {p : Pt} {μ μ' : Mu} {b : Bool} {vs : List V} {xs : List MV} {x : MV} (w : Wd K p μ) (r : RpAll K p vs xs) (h : mkL b xs μ = some (x, μ')) (l : Addr) (hl : p.H l = none) :
    ∃ q : Pt, q.H = upd p.H l (.lst vs) ∧ Gr p q ∧ Wd K q μ' ∧ Rp K q (.ref l) x := by
  unfold mkL at h
  split at h
  · cases h
    obtain ⟨w', g⟩ := w.newCell hl r
    exact ⟨_, rfl, g, w', .cell (by rw [← w.len]; simp)⟩
  · cases e : allSh xs with
    | none =>
      rw [e] at h
      cases h
    | some ds =>
      rw [e] at h
      cases h
      obtain ⟨w', g⟩ := w.shared (o := .lst vs) hl
      exact ⟨_, rfl, g, w', .sh (.lst upd_same ((r.dq e).mono g.hx))⟩
theorem newT {p : Pt} {μ : Mu} {vs : List V} {xs : List MV} (w : Wd K p μ) (r : RpAll K p vs xs) (l : Addr) (hl : p.H l = none) :
    ∃ q : Pt, q.H = upd p.H l (.tup vs) ∧ Gr p q ∧ Wd K q μ ∧ Rp K q (.ref l) (mkT xs) := by
  obtain ⟨w', g⟩ := w.shared (o := .tup vs) hl
  exact ⟨_, rfl, g, w', mkT_ok upd_same (r.mono g)⟩
/-- a list made by a reading -/
theorem Does.mkL {p : Pt} {t : Hp → VK → Prop} {b : Bool} {vs : List V} {xs : List MV} (r : RpAll K p vs xs) (h : ∀ Q : VK, (∀ l, p.H l = Option.none → Q (.ref l) (upd p.H l (.lst vs))) → t p.H Q) : Does K cl W σ (Rp K) t (M.mkL b xs) p :=
  Does.make (o := .lst vs) fun μ w x μ' e => ⟨.lst vs, h, fun l hl => newL w r e l hl⟩
theorem Does.mkT {p : Pt} {t : Hp → VK → Prop} {vs : List V} {xs : List MV} (r : RpAll K p vs xs) (h : ∀ Q : VK, (∀ l, p.H l = Option.none → Q (.ref l) (upd p.H l (.tup vs))) → t p.H Q) : Does K cl W σ (Rp K) t (M.ret (mkT xs)) p := by
  intro μ w r' μ' e Q hq
  cases e
  refine h Q fun l hl => ?_
  obtain ⟨q, eq, g, w', r⟩ := newT w r l hl
  have := hq q g w' _ r
  rw [eq] at this
  exact this
theorem Does.ite {α β : Type} {R : Pt → α → β → Prop} {c : Bool} {t u : Hp → (α → Hp → Prop) → Prop} {m n : M β} {p : Pt} (h1 : c = true → Does K cl W σ R t m p) (h2 : c = false → Does K cl W σ R u n p) :
    Does K cl W σ R (fun H Q => if c = true then t H Q else u H Q) (if c = true then m else n) p := by
  cases c with
  | true =>
    rw [if_pos rfl]
    intro μ w r μ' e Q hq
    show (if true = true then t p.H Q else u p.H Q)
    rw [if_pos rfl]
    exact h1 rfl μ w r μ' e Q hq
  | false =>
    rw [if_neg Bool.false_ne_true]
    intro μ w r μ' e Q hq
    show (if false = true then t p.H Q else u p.H Q)
    rw [if_neg Bool.false_ne_true]
    exact h2 rfl μ w r μ' e Q hq
theorem Does.if {α β : Type} {R : Pt → α → β → Prop} {c : Prop} [Decidable c] {t : Hp → (α → Hp → Prop) → Prop} {m : M β} {p : Pt} (h1 : c → Does K cl W σ R t m p) :
    Does K cl W σ R t (if c then m else fun _ => Option.none) p := by
  by_cases h : c
  · rw [if_pos h]
    exact h1 h
  · rw [if_neg h]
    exact Does.none
end

section
variable {K : PySem.W.Frag} {cl : Nat → Value} {W : WX} {ta tb tc te : TE} {ma mb mc m : Sl → M MV} {tr : TA} {mr : Sl → M (List MV)} {t u : TT} {mt mu : Sl → M Bool} {r r' : R2} {f g : MV → MV → M MV}
theorem pm_var {i : Nat} : PEm K cl W (tVar i) (mVar i) := by
  intro σ δ p s
  unfold mVar
  refine Does.opt fun b e => ?_
  split at e
  · rename_i x hx
    obtain rfl := Option.some.inj e
    obtain ⟨v, hv, r⟩ := s.get i _ hx
    intro μ w r' μ' e Q hq
    cases e
    exact ⟨v, hv, hq p (Gr.refl p) w v r⟩
  · cases e
theorem pm_c {v : V} {d : PyData} (h : ∀ H, Dq H v d) : PEm K cl W (tC v) (mC d) := fun σ δ p s => Does.ret (Rp.sh (h _))
theorem pm_int {i : Int} : PEm K cl W (tC (.int i)) (mC (.int i)) := pm_c fun _ => .int i
theorem pm_str {x : Str} : PEm K cl W (tC (.str x)) (mC (.str x)) := pm_c fun _ => .str x
theorem pm_bl {b : Bool} : PEm K cl W (tC (.bl b)) (mC (.bool b)) := pm_c fun _ => .bl b
theorem pm_non : PEm K cl W (tC .non) (mC .none) := pm_c fun _ => .non
theorem pm_op (hr : R2m K cl r f) (ha : PEm K cl W ta ma) (hb : PEm K cl W tb mb) : PEm K cl W (tOp r ta tb) (mOp2 f ma mb) := fun σ δ p s =>
  Does.bind (t := ta σ) (k := fun x H1 Q => tb σ H1 fun y H2 => r x y H2 Q) (ha σ δ p s) fun q g x mx rx => Does.bind (t := tb σ) (k := fun y H2 Q => r x y H2 Q) (hb σ δ q (s.mono g)) fun q2 g2 y my ry => hr W σ q2 x y mx my (rx.mono g2) ry
theorem pm_un {r : V → Hp → VK → Prop} {f : MV → M MV} (hr : R1m K cl r f) (ha : PEm K cl W ta ma) : PEm K cl W (tUn r ta) (mOp1 f ma) := fun σ δ p s =>
  Does.bind (t := ta σ) (k := fun x H1 Q => r x H1 Q) (ha σ δ p s) fun q g x mx rx => hr W σ q x mx rx
theorem am_nil : PAm K cl W tNil mNil := fun σ δ p s => Does.ret .nil
theorem am_cons (ha : PEm K cl W ta ma) (hr : PAm K cl W tr mr) : PAm K cl W (tCons ta tr) (mCons ma mr) := fun σ δ p s =>
  Does.bind (t := ta σ) (k := fun x H1 Q => tr σ H1 fun xs H2 => Q (x :: xs) H2) (ha σ δ p s) fun q g x mx rx => Does.bind (t := tr σ) (k := fun xs H2 Q => Q (x :: xs) H2) (hr σ δ q (s.mono g)) fun q2 g2 xs ms rs => Does.ret (.cons (rx.mono g2) rs)
theorem pm_cb {r : List V → Hp → VK → Prop} {f : List MV → M MV} (hr : RCm K cl r f) (ha : PAm K cl W tr mr) : PEm K cl W (tCB r tr) (mCB f mr) := fun σ δ p s =>
  Does.bind (t := tr σ) (k := fun xs H1 Q => r xs H1 Q) (ha σ δ p s) fun q g xs ms rs => hr W σ q xs ms rs
theorem tm_test (ha : PEm K cl W te m) : PTm K cl W (tTest te) (mTest m) := fun σ δ p s =>
  Does.bind (t := te σ) (k := fun x H1 Q => ∃ k, x = .bl k ∧ Q k H1) (ha σ δ p s) fun q g x mx rx => Does.opt fun b e => by
    have h := isB_ok rx e
    intro μ w r' μ' e Q hq
    cases e
    exact ⟨b, h, hq q (Gr.refl q) w b rfl⟩
theorem tm_B (ha : PEm K cl W te m) : PTm K cl W (tB te) (mTest m) := tm_test ha
theorem tm_and (h1 : PTm K cl W t mt) (h2 : PTm K cl W u mu) : PTm K cl W (tAnd t u) (mAnd mt mu) := fun σ δ p s =>
  Does.bind (t := t σ) (k := fun c H1 Q => if c = true then u σ H1 Q else Q false H1) (h1 σ δ p s) fun q g x mx rx => by
    subst rx
    exact Does.ite (fun _ => h2 σ δ q (s.mono g)) fun _ => Does.ret rfl
theorem tm_or (h1 : PTm K cl W t mt) (h2 : PTm K cl W u mu) : PTm K cl W (tOr t u) (mOr mt mu) := fun σ δ p s =>
  Does.bind (t := t σ) (k := fun c H1 Q => if c = true then Q true H1 else u σ H1 Q) (h1 σ δ p s) fun q g x mx rx => by
    subst rx
    exact Does.ite (fun _ => Does.ret rfl) fun _ => h2 σ δ q (s.mono g)
theorem tm_not (h1 : PTm K cl W t mt) : PTm K cl W (tNot t) (mNot mt) := fun σ δ p s =>
  Does.bind (t := t σ) (k := fun c H1 Q => Q (!c) H1) (h1 σ δ p s) fun q g x mx rx => by
    subst rx
    exact Does.ret rfl
theorem pm_andV (h1 : PEm K cl W ta ma) (h2 : PEm K cl W tb mb) : PEm K cl W (tAndV ta tb) (mAndV ma mb) := fun σ δ p s =>
  Does.bind (t := ta σ) (k := fun x H1 Q => ∃ c, x = .bl c ∧ if c = true then tb σ H1 Q else Q (.bl false) H1) (h1 σ δ p s) fun q g x mx rx => by
    intro μ w r μ' e Q hq
    rcases M.bind_some e with ⟨c, e1, rfl⟩ | ⟨c, μ1, e1, e2⟩
    · unfold M.opt at e1
      cases h : isB mx <;> rw [h] at e1 <;> cases e1
    · unfold M.opt at e1
      cases h : isB mx with
      | none =>
        rw [h] at e1
        cases e1
      | some c' =>
        rw [h] at e1
        cases e1
        exact ⟨c, isB_ok rx h, Does.ite (t := fun H Q => tb σ H Q) (u := fun H Q => Q (V.bl false) H) (fun _ => h2 σ δ q (s.mono g)) (fun _ => Does.ret (.sh (.bl false))) μ w r μ' e2 Q hq⟩
theorem pm_orV (h1 : PEm K cl W ta ma) (h2 : PEm K cl W tb mb) : PEm K cl W (tOrV ta tb) (mOrV ma mb) := fun σ δ p s =>
  Does.bind (t := ta σ) (k := fun x H1 Q => ∃ c, x = .bl c ∧ if c = true then Q (.bl true) H1 else tb σ H1 Q) (h1 σ δ p s) fun q g x mx rx => by
    intro μ w r μ' e Q hq
    rcases M.bind_some e with ⟨c, e1, rfl⟩ | ⟨c, μ1, e1, e2⟩
    · unfold M.opt at e1
      cases h : isB mx <;> rw [h] at e1 <;> cases e1
    · unfold M.opt at e1
      cases h : isB mx with
      | none =>
        rw [h] at e1
        cases e1
      | some c' =>
        rw [h] at e1
        cases e1
        exact ⟨c, isB_ok rx h, Does.ite (t := fun H Q => Q (V.bl true) H) (u := fun H Q => tb σ H Q) (fun _ => Does.ret (.sh (.bl true))) (fun _ => h2 σ δ q (s.mono g)) μ w r μ' e2 Q hq⟩
theorem pm_notV (h1 : PEm K cl W ta ma) : PEm K cl W (tNotV ta) (mNotV ma) := fun σ δ p s =>
  Does.bind (t := ta σ) (k := fun x H1 (Q : VK) => ∃ c, x = .bl c ∧ Q (V.bl (!c)) H1) (h1 σ δ p s) fun q g x mx rx => by
    intro μ w r μ' e Q hq
    rcases M.bind_some e with ⟨c, e1, rfl⟩ | ⟨c, μ1, e1, e2⟩
    · unfold M.opt at e1
      cases h : isB mx <;> rw [h] at e1 <;> cases e1
    · unfold M.opt at e1
      cases h : isB mx with
      | none =>
        rw [h] at e1
        cases e1
      | some c' =>
        rw [h] at e1
        cases e1
        exact ⟨c, isB_ok rx h, Does.ret (R := Rp K) (a := V.bl (!c)) (.sh (.bl (!c))) μ w r μ' e2 Q hq⟩
theorem pm_if (h : PTm K cl W t mt) (h1 : PEm K cl W ta ma) (h2 : PEm K cl W tb mb) : PEm K cl W (tIf t ta tb) (mIf mt ma mb) := fun σ δ p s =>
  Does.bind (t := t σ) (k := fun c H1 Q => if c = true then ta σ H1 Q else tb σ H1 Q) (h σ δ p s) fun q g x mx rx => by
    subst rx
    exact Does.ite (fun _ => h1 σ δ q (s.mono g)) fun _ => h2 σ δ q (s.mono g)
theorem pm_chain (hr : R2m K cl r f) (hr' : R2m K cl r' g) (ha : PEm K cl W ta ma) (hb : PEm K cl W tb mb) (hc : PEm K cl W tc mc) : PEm K cl W (tChain r r' ta tb tc) (mChain f g ma mb mc) := fun σ δ p s =>
  Does.bind (t := ta σ) (k := fun x H1 Q => tb σ H1 fun y H2 => r x y H2 fun z H3 => ∃ k, z = .bl k ∧ (if k = true then tc σ H3 fun w' H4 => r' y w' H4 Q else Q (.bl false) H3)) (ha σ δ p s) fun q g x mx rx =>
   Does.bind (t := tb σ) (k := fun y H2 Q => r x y H2 fun z H3 => ∃ k, z = .bl k ∧ (if k = true then tc σ H3 fun w' H4 => r' y w' H4 Q else Q (.bl false) H3)) (hb σ δ q (s.mono g)) fun q2 g2 y my ry =>
   Does.bind (t := r x y) (k := fun z H3 Q => ∃ k, z = .bl k ∧ (if k = true then tc σ H3 fun w' H4 => r' y w' H4 Q else Q (.bl false) H3)) (hr W σ q2 x y mx my (rx.mono g2) ry) fun q3 g3 z mz rz => by
    intro μ w r μ' e Q hq
    rcases M.bind_some e with ⟨c, e1, rfl⟩ | ⟨c, μ1, e1, e2⟩
    · unfold M.opt at e1
      cases h : isB mz <;> rw [h] at e1 <;> cases e1
    · unfold M.opt at e1
      cases h : isB mz with
      | none =>
        rw [h] at e1
        cases e1
      | some c' =>
        rw [h] at e1
        cases e1
        exact ⟨c, isB_ok rz h, Does.ite (t := fun H Q => tc σ H fun w' H4 => r' y w' H4 Q) (u := fun H Q => Q (V.bl false) H)
          (fun _ => Does.bind (t := tc σ) (k := fun w' H4 Q => r' y w' H4 Q) (hc σ δ q3 (((s.mono g).mono g2).mono g3)) fun q4 g4 w' mw rw' => hr' W σ q4 y w' my mw ((ry.mono g3).mono g4) rw') (fun _ => Does.ret (.sh (.bl false))) μ w r μ' e2 Q hq⟩
theorem pm_tup (h : PAm K cl W tr mr) : PEm K cl W (tTup tr) (mTup mr) := fun σ δ p s =>
  Does.bind (t := tr σ) (k := fun xs H1 (Q : VK) => xs.length ≤ sizeLine ∧ ∀ p, H1 p = none → Q (V.ref p) (upd H1 p (.tup xs))) (h σ δ p s) fun q g vs xs rs => Does.if fun hz => Does.mkT rs fun Q hq => ⟨by
    have e := rs.length
    rw [sizeLine_eq]
    omega, hq⟩
theorem pm_lst {b : Bool} (h : PAm K cl W tr mr) : PEm K cl W (tLst tr) (mLst b mr) := fun σ δ p s =>
  Does.bind (t := tr σ) (k := fun xs H1 (Q : VK) => xs.length ≤ sizeLine ∧ ∀ p, H1 p = none → Q (V.ref p) (upd H1 p (.lst xs))) (h σ δ p s) fun q g vs xs rs => Does.if fun hz => Does.mkL rs fun Q hq => ⟨by
    have e := rs.length
    rw [sizeLine_eq]
    omega, hq⟩
theorem tm_tru (ha : PEm K cl W te m) : PTm K cl W (fun σ H Q => te σ H fun x H' => ∃ k, TruV K x H' k ∧ Q k H') (mTru m) := fun σ δ p s =>
  Does.bind (t := te σ) (k := fun x H' Q => ∃ k, TruV K x H' k ∧ Q k H') (ha σ δ p s) fun q g x mx rx => Does.look fun μ w b e Q hq => by
    refine ⟨b, ?_, hq b rfl⟩
    have seq : ∀ xs, lview μ mx = some xs → b = (!xs.isEmpty) → TruV K x q.H b := fun xs h hb => by
      obtain ⟨a, vs, rfl, h1, h2⟩ := lview_ok w rx h
      refine .inl ⟨vs, h1, ?_⟩
      rw [hb]
      have e := h2.length
      cases vs <;> cases xs <;> first | rfl | cases e
    have tpl : ∀ xs, tview mx = some xs → b = (!xs.isEmpty) → TruV K x q.H b := fun xs h hb => by
      obtain ⟨a, vs, rfl, h1, h2⟩ := tview_ok rx h
      refine .inr (.inl ⟨vs, .of (w.ex _ _ h1), ?_⟩)
      rw [hb]
      have e := h2.length
      cases vs <;> cases xs <;> first | rfl | cases e
    cases rx with
    | sh h =>
      cases h with
      | non =>
        cases e
        rfl
      | bl b' =>
        cases e
        rfl
      | int i =>
        cases e
        rfl
      | str y =>
        simp only [truM] at e
        split at e
        · exact ⟨by assumption, (Option.some.inj e).symm⟩
        · cases e
      | lst h1 h2 =>
        cases e
        exact seq _ rfl rfl
      | tup h1 h2 =>
        cases e
        exact tpl _ rfl rfl
    | cell h =>
      rename_i n a
      cases e1 : lview μ (.cell n) with
      | none => simp [truM, e1, tview] at e
      | some xs =>
        simp only [truM, e1, Option.some.injEq] at e
        exact seq xs e1 e.symm
    | tp h1 h2 =>
      cases e
      exact tpl _ rfl rfl
    | scr h =>
      cases e
      exact seq _ rfl rfl
end
end PD

set_option Elab.async false
set_option linter.all false
set_option maxRecDepth 100000
set_option maxHeartbeats 1000000
namespace PD
open PySem PySem.Spec PyProof.Rows L2

/-! ### the mirror's words: operators -/
def mI2 (g : Int → Int → PyData) : MV → MV → M MV
  | .sh (.int i), .sh (.int j) => M.ret (.sh (g i j))
  | _, _ => fun _ => none
def mI2C (C : Int → Int → Bool) (g : Int → Int → PyData) : MV → MV → M MV
  | .sh (.int i), .sh (.int j) => if C i j = true then M.ret (.sh (g i j)) else fun _ => none
  | _, _ => fun _ => none
def mI1 (g : Int → PyData) : MV → M MV
  | .sh (.int i) => M.ret (.sh (g i))
  | _ => fun _ => none
def mEq (neg : Bool) (x y : MV) : M MV := M.look fun μ => match peek 8 μ x, peek 8 μ y with
  | some d, some e => if d.depth ≤ 60 then some (.sh (.bool (if neg = true then !PyData.eqv d e else PyData.eqv d e))) else none
  | _, _ => none
def seqD : PyData → Option (List PyData)
  | .list es => some es
  | .tuple es => some es
  | _ => none
def mIn (neg : Bool) (x y : MV) : M MV := M.look fun μ => match peek 8 μ x, (peek 8 μ y).bind seqD with
  | some d, some es => if d.depth ≤ 60 then some (.sh (.bool (if neg = true then !(es.any fun e => PyData.eqv e d) else es.any fun e => PyData.eqv e d))) else none
  | _, _ => none
def isNn : MV → Bool
  | .sh .none => true
  | _ => false
def mIs (neg : Bool) (x y : MV) : M MV := if isNn y = true then M.ret (.sh (.bool (if neg = true then !isNn x else isNn x))) else fun _ => none
def mIx (x i : MV) : M MV := M.look fun μ => match i with
  | .sh (.int i) => match x with
    | .sh (.str z) => if z.length ≤ sizeLine then (atI z.cps.toList i).map fun c => .sh (.str ⟨#[c]⟩) else none
    | x => match lview μ x with
      | some xs => atI xs i
      | none => (tview x).bind fun xs => atI xs i
  | _ => none
def mulOk (i j : Int) : Bool := decide (i.natAbs.log2 + j.natAbs.log2 < 100000000)
def divOk (_ j : Int) : Bool := decide (0 < j ∧ j < 1073741824)
def modOk (_ j : Int) : Bool := decide (0 < j)
def powOk (i j : Int) : Bool := decide (0 ≤ j ∧ j ≤ 1000000 ∧ i.natAbs < 2 ^ 64)
/-- a + b of ints, texts, lists (a new list: b tells how it is held), tuples -/
def mAdd (b : Bool) (x y : MV) : M MV := match x, y with
  | .sh (.int i), .sh (.int j) => M.ret (.sh (.int (i + j)))
  | .sh (.str i), .sh (.str j) => if i.length + j.length ≤ sizeLine then M.ret (.sh (.str (i ++ j))) else fun _ => none
  | x, y => fun μ => if (isScr x || isScr y) = true then none else match lview μ x, lview μ y with
    | some xs, some ys => if xs.length + ys.length ≤ 100000 then M.mkL b (xs ++ ys) μ else none
    | _, _ => match tview x, tview y with
      | some xs, some ys => if xs.length + ys.length ≤ 100000 then some (.ok (if xs.isEmpty = true then y else if ys.isEmpty = true then x else mkT (xs ++ ys)), μ) else none
      | _, _ => none
/-- a * b of ints, of a list and an int -/
def mMul (b : Bool) (x y : MV) : M MV := match x, y with
  | .sh (.int i), .sh (.int j) => if mulOk i j = true then M.ret (.sh (.int (i * j))) else fun _ => none
  | x, .sh (.int k) => fun μ => if isScr x = true then none else match lview μ x with
    | some xs => if k < 100000 ∧ -100000 ≤ k ∧ xs.length * k.toNat ≤ 100000 then M.mkL b (List.replicate k.toNat xs).flatten μ else none
    | none => none
  | _, _ => fun _ => none

section
variable {K : PySem.W.Frag} {cl : Nat → Value}
theorem rp_int {p : Pt} {v : V} {i : Int} (r : Rp K p v (.sh (.int i))) : v = .int i := by
  cases r with
  | sh q => cases q; rfl
theorem rp_str {p : Pt} {v : V} {i : Str} (r : Rp K p v (.sh (.str i))) : v = .str i := by
  cases r with
  | sh q => cases q; rfl
theorem r2_i0 {g : Int → Int → V} {h : Int → Int → PyData} (hg : ∀ i j H, Dq H (g i j) (h i j)) : R2m K cl (rI0 g) (mI2 h) := by
  intro W σ p x y mx my rx ry
  unfold mI2
  split
  · obtain rfl := rp_int rx
    obtain rfl := rp_int ry
    intro μ w r μ' e Q hq
    exact ⟨_, _, rfl, rfl, Does.ret (R := Rp K) (a := g _ _) (.sh (hg _ _ _)) μ w r μ' e Q hq⟩
  · exact Does.none
theorem r2_i {C : Int → Int → Prop} {D : Int → Int → Bool} {g : Int → Int → V} {h : Int → Int → PyData} (hc : ∀ i j, D i j = true → C i j) (hg : ∀ i j H, Dq H (g i j) (h i j)) : R2m K cl (rI C g) (mI2C D h) := by
  intro W σ p x y mx my rx ry
  unfold mI2C
  split
  · obtain rfl := rp_int rx
    obtain rfl := rp_int ry
    refine Does.if fun hd => ?_
    intro μ w r μ' e Q hq
    exact ⟨_, _, rfl, rfl, hc _ _ hd, Does.ret (R := Rp K) (a := g _ _) (.sh (hg _ _ _)) μ w r μ' e Q hq⟩
  · exact Does.none
theorem r1_i {g : Int → V} {h : Int → PyData} (hg : ∀ i H, Dq H (g i) (h i)) : R1m K cl (rU g) (mI1 h) := by
  intro W σ p x mx rx
  unfold mI1
  split
  · obtain rfl := rp_int rx
    intro μ w r μ' e Q hq
    exact ⟨_, rfl, Does.ret (R := Rp K) (a := g _) (.sh (hg _ _)) μ w r μ' e Q hq⟩
  · exact Does.none
abbrev rSub : R2 := rI0 fun i j => .int (i - j)
abbrev fSub : MV → MV → M MV := mI2 fun i j => .int (i - j)
theorem r2_sub : R2m K cl rSub fSub := r2_i0 fun i j _ => .int (i - j)
abbrev fLt : MV → MV → M MV := mI2 fun i j => .bool (decide (i < j))
abbrev fLe : MV → MV → M MV := mI2 fun i j => .bool (decide (i ≤ j))
abbrev fGt : MV → MV → M MV := mI2 fun i j => .bool (decide (j < i))
abbrev fGe : MV → MV → M MV := mI2 fun i j => .bool (decide (j ≤ i))
theorem r2_lt : R2m K cl (rI0 fun i j => .bl (decide (i < j))) fLt := r2_i0 fun i j _ => .bl _
theorem r2_le : R2m K cl (rI0 fun i j => .bl (decide (i ≤ j))) fLe := r2_i0 fun i j _ => .bl _
theorem r2_gt : R2m K cl (rI0 fun i j => .bl (decide (j < i))) fGt := r2_i0 fun i j _ => .bl _
theorem r2_ge : R2m K cl (rI0 fun i j => .bl (decide (j ≤ i))) fGe := r2_i0 fun i j _ => .bl _
abbrev fDiv : MV → MV → M MV := mI2C divOk fun i j => .int (i / j)
abbrev fMod : MV → MV → M MV := mI2C modOk fun i j => .int (i % j)
abbrev fPow : MV → MV → M MV := mI2C powOk fun i j => .int (i ^ j.toNat)
theorem r2_div : R2m K cl (rI CDiv fun i j => .int (i / j)) fDiv := r2_i (fun i j h => show CDiv i j from of_decide_eq_true (p := 0 < j ∧ j < 1073741824) h) fun i j _ => .int _
theorem r2_mod : R2m K cl (rI (fun _ j => 0 < j) fun i j => .int (i % j)) fMod := r2_i (fun i j h => of_decide_eq_true h) fun i j _ => .int _
theorem r2_pow : R2m K cl (rI CPow fun i j => .int (i ^ j.toNat)) fPow := r2_i (fun i j h => show CPow i j from of_decide_eq_true (p := 0 ≤ j ∧ j ≤ 1000000 ∧ i.natAbs < 2 ^ 64) h) fun i j _ => .int _
abbrev fNeg : MV → M MV := mI1 fun i => .int (-i)
theorem r1_neg : R1m K cl (rU fun i => .int (-i)) fNeg := r1_i fun i _ => .int _
theorem mulOk_ok {i j : Int} (h : mulOk i j = true) : IntMulOk i j := by
  have b : ∀ x : Int, Builtin.Int.intBits x ≤ x.natAbs.log2 + 1 := fun x => by
    unfold Builtin.Int.intBits
    split <;> omega
  have h1 := b i
  have h2 := b j
  have h3 : i.natAbs.log2 + j.natAbs.log2 < 100000000 := of_decide_eq_true h
  have e : bitsLine = 134217728 := by decide
  unfold IntMulOk
  intro z
  rw [Bool.and_eq_true] at z
  have z2 := z.2
  unfold Builtin.Int.intTooBig at z2
  have z3 := of_decide_eq_true z2
  rw [e] at z3
  omega
theorem rp_non {p : Pt} {v : V} {x : MV} (r : Rp K p v x) : decide (v = .non) = isNn x := by
  cases r with
  | sh q =>
    cases q with
    | non => rfl
    | bl => rfl
    | int => rfl
    | str => rfl
    | lst => rfl
    | tup => rfl
  | cell => rfl
  | tp => rfl
  | scr => rfl
abbrev rIsN : R2 := fun x y H Q => y = .non ∧ Q (.bl (decide (x = .non))) H
abbrev rNotN : R2 := fun x y H Q => y = .non ∧ Q (.bl (!decide (x = .non))) H
theorem r2_is : R2m K cl rIsN (mIs false) := by
  intro W σ p x y mx my rx ry
  refine Does.if fun h => ?_
  have h2 : y = .non := of_decide_eq_true ((rp_non ry).trans h)
  rw [if_neg Bool.false_ne_true]
  intro μ w r μ' e Q hq
  refine ⟨h2, ?_⟩
  rw [rp_non rx]
  exact Does.ret (R := Rp K) (a := V.bl _) (.sh (.bl _)) μ w r μ' e Q hq
theorem r2_isnot : R2m K cl rNotN (mIs true) := by
  intro W σ p x y mx my rx ry
  refine Does.if fun h => ?_
  have h2 : y = .non := of_decide_eq_true ((rp_non ry).trans h)
  rw [if_pos rfl]
  intro μ w r μ' e Q hq
  refine ⟨h2, ?_⟩
  rw [rp_non rx]
  exact Does.ret (R := Rp K) (a := V.bl _) (.sh (.bl _)) μ w r μ' e Q hq
theorem r2_eq {neg : Bool} : R2m K cl (rEqP K neg) (mEq neg) := by
  intro W σ p x y mx my rx ry
  refine Does.look fun μ w b e Q hq => ?_
  split at e
  · rename_i d e' h1 h2
    split at e
    · rename_i hd
      obtain rfl := Option.some.inj e
      have q1 := peek_dp w rx h1
      have q2 := peek_dp w ry h2
      refine ⟨d, e', q1.dp, q2.dp, q1.plain, q2.plain, by omega, hq _ ?_⟩
      cases neg <;> exact .sh (.bl _)
    · cases e
  · cases e
theorem r2_in {neg : Bool} : R2m K cl (rInP K neg) (mIn neg) := by
  intro W σ p x y mx my rx ry
  refine Does.look fun μ w b e Q hq => ?_
  split at e
  · rename_i d es h1 h2
    split at e
    · rename_i hd
      obtain rfl := Option.some.inj e
      have q1 := peek_dp w rx h1
      cases h3 : peek 8 μ my with
      | none =>
        rw [h3] at h2
        cases h2
      | some c =>
        rw [h3] at h2
        have q2 := peek_dp w ry h3
        refine ⟨d, es, q1.dp, ?_, q1.plain, ?_, by omega, hq _ ?_⟩
        · cases c with
          | list es' =>
            cases h2
            exact .inl q2.dp
          | tuple es' =>
            cases h2
            exact .inr q2.dp
          | _ => cases h2
        · cases c with
          | list es' =>
            cases h2
            cases q2 with
            | lst _ r => exact r.plain
          | tuple es' =>
            cases h2
            cases q2 with
            | tup _ r => exact r.plain
          | _ => cases h2
        · cases neg <;> exact .sh (.bl _)
    · cases e
  · cases e
theorem atI_rp {p : Pt} {vs : List V} {xs : List MV} {i : Int} {x : MV} (r : RpAll K p vs xs) (h : atI xs i = some x) : ∃ v, atI vs i = some v ∧ Rp K p v x := by
  unfold atI at h ⊢
  rw [r.length]
  cases e : ixN xs.length i with
  | none =>
    rw [e] at h
    cases h
  | some j =>
    rw [e] at h
    exact r.get h
theorem r2_ix : R2m K cl (rIx K) mIx := by
  intro W σ p x y mx my rx ry
  refine Does.look fun μ w b e Q hq => ?_
  split at e
  · rename_i i
    obtain rfl := rp_int ry
    split at e
    · rename_i z
      obtain rfl := rp_str rx
      split at e
      · rename_i hz
        cases e1 : atI z.cps.toList i with
        | none =>
          rw [e1] at e
          cases e
        | some c =>
          rw [e1] at e
          cases e
          exact .inr (.inr ⟨z, i, c, rfl, rfl, hz, e1, hq _ (.sh (.str _))⟩)
      · cases e
    · split at e
      · rename_i xs h
        obtain ⟨a, vs, rfl, h1, h2⟩ := lview_ok w rx h
        obtain ⟨v, hv, r⟩ := atI_rp h2 e
        exact .inl ⟨a, vs, i, v, rfl, rfl, h1, hv, hq _ r⟩
      · cases e1 : tview mx with
        | none =>
          rw [e1] at e
          cases e
        | some xs =>
          rw [e1] at e
          obtain ⟨a, vs, rfl, h1, h2⟩ := tview_ok rx e1
          obtain ⟨v, hv, r⟩ := atI_rp h2 e
          exact .inr (.inl ⟨a, vs, i, v, rfl, rfl, .of (w.ex _ _ h1), hv, hq _ r⟩)
  · cases e
end
end PD

set_option Elab.async false
set_option linter.all false
set_option maxRecDepth 100000
set_option maxHeartbeats 1000000
namespace PD
open PySem PySem.Spec PyProof.Rows L2

/-! ### rules of the hand layer that were not there: xs[i] for xs[i] op= e, any over ints -/
section
variable {X : Cx}
theorem get_list : PGet X (rIxL X.K) := by
  intro pins s σ H x y v u Q I rx ry h
  obtain ⟨p, xs, i, z, rfl, rfl, hq, he, q⟩ := h
  cases rx
  obtain ⟨t, rfl⟩ := ry
  obtain ⟨its, r, pl, hz⟩ := I.list hq
  obtain ⟨j, h1, h2, h3, h4, h5⟩ := atI_get he
  obtain ⟨w, ew, rw'⟩ := r.get h2
  have hl := r.length
  have hn := line63
  have fin : EP X pins σ Q w s := ⟨z, H, I, rw', q⟩
  by_cases h0 : 0 ≤ i
  · have hj : i.toNat = j := by
      rw [seqIndex_of h0 h5] at h1
      exact Option.some.inj h1
    exact wpAny_getItem_list pl.isList h0 (by omega) (by rw [hj]; simpa using ew) fin
  · have hj : (i + (its.toArray.size : Int)).toNat = j := by
      rw [seqIndex_neg (by omega) h4] at h1
      rw [List.size_toArray, ← hl]
      exact Option.some.inj h1
    exact wpAny_getItem_list_neg pl.isList (by omega) (by rw [List.size_toArray] <;> omega) (by omega) (by rw [hj]; simpa using ew) fin
theorem truth_ints {prog : Program} {w : World} {A : Around} {ns : List Int} {its : List Value} (e : IntsAre its ns) :
    TruthOf prog w A (fun i v => its.toArray[i]? = some v) (fun i => ns.getD i 0 != 0) := fun i v s Q E hv hq => by
  have hv' : its[i]? = some v := by simpa using hv
  have hl : i < ns.length := by
    have h1 := (List.getElem?_eq_some_iff.mp hv').1
    have h2 := e.length
    omega
  obtain ⟨t, ht⟩ := e.get i _ (List.getElem?_eq_getElem hl)
  rw [hv'] at ht
  cases ht
  have hg : ns.getD i 0 = ns[i] := by rw [List.getD_eq_getElem?_getD, List.getElem?_eq_getElem hl] <;> rfl
  have hq' : Q (ns.getD i 0 != 0) s := hq
  rw [hg] at hq'
  exact PySem.P.truthy_int hq'
theorem any_range_i : ∀ bs : List Int, (List.range bs.length).any (fun i => bs.getD i 0 != 0) = bs.any (· != 0)
  | [] => rfl
  | b :: bs => by
    rw [List.length_cons, List.range_succ_eq_map, List.any_cons, List.any_map, List.any_cons, ← any_range_i bs]
    all_goals rfl
def rAnyI (K : PySem.W.Frag) : List V → Hp → VK → Prop := fun vs H Q => ∃ (a : Addr) (bs : List Int), vs = [V.ref a] ∧ SqL K H a (bs.map V.int) ∧ Q (.bl (bs.any (· != 0))) H
theorem cr_anyI (hc : X.calm = true) : CallR X (.builtin "any") (rAnyI X.K) := by
  intro pins s σ H vs us Q I r h
  obtain ⟨a, bs, rfl, hs, q⟩ := h
  obtain ⟨its, rv, hl, _⟩ := I.list hs
  rw [Vals.ref1 r]
  have hb := rv.ints
  refine call_any_walk (iter_any hl.isList fun s₂ e2 st hne => ?_)
  subst e2
  refine ⟨_, _, _, _, _, _, _, rfl, Walks.list (A := X.A.in1) (I.ok.hd hc) _ a hne its.toArray, st, truth_ints hb, fun h' tk hk => ?_⟩
  refine ⟨.bl _, H, I.kept fun b o eo => hk b o (fun hmem => ?_) (Heap.get?_push_of_some _ eo), ?_, q⟩
  · rcases List.mem_cons.mp hmem with e1 | hmem
    · exact absurd (e1 ▸ Heap.lt_size eo) (Nat.lt_irrefl _)
    · cases hmem
  · show Value.bool _ = Value.bool _
    rw [← any_range_i, List.size_toArray, ← hb.length]
end

/-! ### + and * over all kinds -/
section
variable {K : PySem.W.Frag} {cl : Nat → Value}
abbrev rStrAdd : R2 := fun x y H Q => ∃ i j, x = .str i ∧ y = .str j ∧ i.length + j.length ≤ sizeLine ∧ Q (.str (i ++ j)) H
abbrev rAdd4 (K : PySem.W.Frag) : R2 := fun x y H Q => (((rI0 fun i j => .int (i + j)) x y H Q ∨ rStrAdd x y H Q) ∨ rCat x y H Q) ∨ rCatA K x y H Q
theorem op_add4 {X : Cx} : OpR X (binaryOp .Add) (rAdd4 X.K) := ((op_add.or op_add_str).or op_cat).or op_catA
abbrev rMul2 : R2 := fun x y H Q => (rI IntMulOk fun i j => .int (i * j)) x y H Q ∨ rRep x y H Q
theorem op_mul2 {X : Cx} : OpR X (binaryOp .Mult) rMul2 := op_mulM.or op_rep
theorem r2_add {b : Bool} : R2m K cl (rAdd4 K) (mAdd b) := by
  intro W σ p x y mx my rx ry
  unfold mAdd
  split
  · obtain rfl := rp_int rx
    obtain rfl := rp_int ry
    intro μ w r μ' e Q hq
    exact .inl (.inl (.inl ⟨_, _, rfl, rfl, Does.ret (R := Rp K) (a := V.int _) (.sh (.int _)) μ w r μ' e Q hq⟩))
  · obtain rfl := rp_str rx
    obtain rfl := rp_str ry
    refine Does.if fun hd => ?_
    intro μ w r μ' e Q hq
    exact .inl (.inl (.inr ⟨_, _, rfl, rfl, hd, Does.ret (R := Rp K) (a := V.str _) (.sh (.str _)) μ w r μ' e Q hq⟩))
  · intro μ w r μ' e Q hq
    dsimp only at e
    by_cases hsc : (isScr mx || isScr my) = true
    · rw [if_pos hsc] at e
      cases e
    rw [if_neg hsc] at e
    have hsc' : isScr mx = false ∧ isScr my = false := by
      cases h1 : isScr mx <;> cases h2 : isScr my <;> simp_all
    have tups : (match tview mx, tview my with
      | some xs, some ys => if xs.length + ys.length ≤ 100000 then some (Res.ok (if xs.isEmpty = true then my else if ys.isEmpty = true then mx else mkT (xs ++ ys)), μ) else none
      | _, _ => none) = some (r, μ') → rAdd4 K x y p.H Q := fun e => by
      cases h1 : tview mx with
      | none =>
        rw [h1] at e
        cases e
      | some xs =>
        cases h2 : tview my with
        | none =>
          rw [h1, h2] at e
          cases e
        | some ys =>
          rw [h1, h2] at e
          dsimp only at e
          by_cases hz : xs.length + ys.length ≤ 100000
          · rw [if_pos hz] at e
            obtain ⟨a, vs, rfl, ha, rv⟩ := tview_ok rx h1
            obtain ⟨b', ws, rfl, hb, rw'⟩ := tview_ok ry h2
            have e1 := rv.length
            have e2 := rw'.length
            cases e
            refine .inr ⟨a, b', vs, ws, rfl, rfl, .of (w.ex _ _ ha), .of (w.ex _ _ hb), by rw [sizeLine_eq]; omega, fun hn => ?_, fun hx hn => ?_, fun hx hn => ?_⟩
            · subst hn
              cases xs with
              | nil => exact hq p (Gr.refl p) w _ ry
              | cons x r => cases e1
            · subst hn
              cases xs with
              | nil =>
                cases vs with
                | nil => exact absurd rfl hx
                | cons y r => cases e1
              | cons x r =>
                cases ys with
                | nil => exact hq p (Gr.refl p) w _ rx
                | cons y r => cases e2
            · cases xs with
              | nil =>
                cases vs with
                | nil => exact absurd rfl hx
                | cons y r => cases e1
              | cons x r =>
               cases ys with
               | nil =>
                 cases ws with
                 | nil => exact absurd rfl hn
                 | cons y r => cases e2
               | cons y r =>
                intro l hl
                obtain ⟨q, eq, g, w', r'⟩ := newT w (rv.append rw') l hl
                have := hq q g w' _ r'
                rw [eq] at this
                exact this
          · rw [if_neg hz] at e
            cases e
    cases h1 : lview μ mx with
    | none =>
      rw [h1] at e
      exact tups e
    | some xs =>
      cases h2 : lview μ my with
      | none =>
        rw [h1, h2] at e
        exact tups e
      | some ys =>
        rw [h1, h2] at e
        dsimp only at e
        by_cases hz : xs.length + ys.length ≤ 100000
        · rw [if_pos hz] at e
          obtain ⟨a, vs, rfl, ha, rv⟩ := lview_st w rx h1 hsc'.1
          obtain ⟨b', ws, rfl, hb, rw'⟩ := lview_st w ry h2 hsc'.2
          have e1 := rv.length
          have e2 := rw'.length
          refine .inl (.inr ⟨a, b', vs, ws, rfl, rfl, ha, hb, by rw [sizeLine_eq]; omega, ?_⟩)
          exact Does.mkL (cl := cl) (W := W) (σ := σ) (t := fun H Q => ∀ l, H l = none → Q (V.ref l) (upd H l (.lst (vs ++ ws)))) (rv.append rw') (fun Q hq => hq) μ w r μ' e Q hq
        · rw [if_neg hz] at e
          cases e
theorem r2_mul {b : Bool} : R2m K cl rMul2 (mMul b) := by
  intro W σ p x y mx my rx ry
  unfold mMul
  split
  · obtain rfl := rp_int rx
    obtain rfl := rp_int ry
    refine Does.if fun hd => ?_
    intro μ w r μ' e Q hq
    exact .inl ⟨_, _, rfl, rfl, mulOk_ok hd, Does.ret (R := Rp K) (a := V.int _) (.sh (.int _)) μ w r μ' e Q hq⟩
  · rename_i k hx
    obtain rfl := rp_int ry
    intro μ w r μ' e Q hq
    dsimp only at e
    by_cases hsc : isScr mx = true
    · rw [if_pos hsc] at e
      cases e
    rw [if_neg hsc] at e
    cases h1 : lview μ mx with
    | none =>
      rw [h1] at e
      cases e
    | some xs =>
      rw [h1] at e
      dsimp only at e
      by_cases hz : k < 100000 ∧ -100000 ≤ k ∧ xs.length * k.toNat ≤ 100000
      · rw [if_pos hz] at e
        obtain ⟨a, vs, rfl, ha, rv⟩ := lview_st w rx h1 (by simpa using hsc)
        have e1 := rv.length
        refine .inr ⟨a, k, vs, rfl, rfl, ha, by omega, by omega, by rw [sizeLine_eq, e1]; omega, ?_⟩
        exact Does.mkL (cl := cl) (W := W) (σ := σ) (t := fun H Q => ∀ l, H l = none → Q (V.ref l) (upd H l (.lst (List.replicate k.toNat vs).flatten))) (rv.rep k.toNat) (fun Q hq => hq) μ w r μ' e Q hq
      · rw [if_neg hz] at e
        cases e
  · exact Does.none

/-! ### built-ins -/
def mLen : List MV → M MV
  | [x] => M.look fun μ => match x with
    | .sh (.str z) => if z.length ≤ sizeLine then some (.sh (.int z.length)) else none
    | x => match lview μ x with
      | some xs => some (.sh (.int xs.length))
      | none => (tview x).map fun xs => .sh (.int xs.length)
  | _ => fun _ => none
abbrev rLen3 (K : PySem.W.Frag) : List V → Hp → VK → Prop := fun xs H Q => (∃ p ys, xs = [.ref p] ∧ (SqL K H p ys ∨ SqT K H p ys) ∧ Q (.int ys.length) H) ∨ ∃ z, xs = [.str z] ∧ z.length ≤ sizeLine ∧ Q (.int z.length) H
theorem call_len3 {X : Cx} : CallR X (.builtin "len") (rLen3 X.K) := call_len_seq.or call_len_str
theorem rp1 {p : Pt} {vs : List V} {x : MV} (r : RpAll K p vs [x]) : ∃ v, vs = [v] ∧ Rp K p v x := by
  cases r with
  | cons h t => cases t; exact ⟨_, rfl, h⟩
theorem rp2 {p : Pt} {vs : List V} {x y : MV} (r : RpAll K p vs [x, y]) : ∃ v w, vs = [v, w] ∧ Rp K p v x ∧ Rp K p w y := by
  cases r with
  | cons h t =>
    cases t with
    | cons h' t => cases t; exact ⟨_, _, rfl, h, h'⟩
theorem rc_len : RCm K cl (rLen3 K) mLen := by
  intro W σ p vs ms r
  unfold mLen
  split
  · rename_i x
    obtain ⟨v, rfl, rx⟩ := rp1 r
    refine Does.look fun μ w b e Q hq => ?_
    split at e
    · rename_i z
      obtain rfl := rp_str rx
      split at e
      · cases e
        exact .inr ⟨z, rfl, by assumption, hq _ (.sh (.int _))⟩
      · cases e
    · split at e
      · rename_i xs h
        cases e
        obtain ⟨a, us, rfl, h1, h2⟩ := lview_ok w rx h
        exact .inl ⟨a, us, rfl, .inl h1, hq _ (by rw [h2.length]; exact .sh (.int _))⟩
      · cases e1 : tview x with
        | none =>
          rw [e1] at e
          cases e
        | some xs =>
          rw [e1] at e
          cases e
          obtain ⟨a, us, rfl, h1, h2⟩ := tview_ok rx e1
          exact .inl ⟨a, us, rfl, .inr (.of (w.ex _ _ h1)), hq _ (by rw [h2.length]; exact .sh (.int _))⟩
  · exact Does.none
def mI2L (g : Int → Int → Int) : List MV → M MV
  | [.sh (.int i), .sh (.int j)] => M.ret (.sh (.int (g i j)))
  | _ => fun _ => none
abbrev rMin2 : List V → Hp → VK → Prop := fun xs H Q => ∃ i j, xs = [.int i, .int j] ∧ Q (.int (if j < i then j else i)) H
abbrev rMax2 : List V → Hp → VK → Prop := fun xs H Q => ∃ i j, xs = [.int i, .int j] ∧ Q (.int (if j > i then j else i)) H
abbrev fMin2 : List MV → M MV := mI2L fun i j => if j < i then j else i
abbrev fMax2 : List MV → M MV := mI2L fun i j => if j > i then j else i
theorem rc_i2 {g : Int → Int → Int} : RCm K cl (fun xs H Q => ∃ i j, xs = [.int i, .int j] ∧ Q (.int (g i j)) H) (mI2L g) := by
  intro W σ p vs ms r
  unfold mI2L
  split
  · obtain ⟨v, u, rfl, r1, r2⟩ := rp2 r
    obtain rfl := rp_int r1
    obtain rfl := rp_int r2
    intro μ w r μ' e Q hq
    exact ⟨_, _, rfl, Does.ret (R := Rp K) (a := V.int _) (.sh (.int _)) μ w r μ' e Q hq⟩
  · exact Does.none
theorem rc_min2 : RCm K cl rMin2 fMin2 := rc_i2
theorem rc_max2 : RCm K cl rMax2 fMax2 := rc_i2
/-- list(x), tuple(x) of a list or a tuple -/
def seqv (μ : Mu) (x : MV) : Option (List MV) := match lview μ x with
  | some xs => some xs
  | none => tview x
def mListOf (b : Bool) : List MV → M MV
  | [x] => fun μ => match seqv μ x with
    | some xs => M.mkL b xs μ
    | none => none
  | _ => fun _ => none
abbrev rListOf (K : PySem.W.Frag) : List V → Hp → VK → Prop := fun xs H Q => ∃ p ys, xs = [.ref p] ∧ (SqL K H p ys ∨ SqT K H p ys) ∧ ∀ l, H l = none → Q (.ref l) (upd H l (.lst ys))
theorem seqv_ok {p : Pt} {μ : Mu} {v : V} {x : MV} {xs : List MV} (w : Wd K p μ) (r : Rp K p v x) (h : seqv μ x = some xs) : ∃ a vs, v = .ref a ∧ (SqL K p.H a vs ∨ SqT K p.H a vs) ∧ RpAll K p vs xs := by
  unfold seqv at h
  cases e : lview μ x with
  | some ys =>
    rw [e] at h
    cases h
    obtain ⟨a, vs, e1, h1, h2⟩ := lview_ok w r e
    exact ⟨a, vs, e1, .inl h1, h2⟩
  | none =>
    rw [e] at h
    obtain ⟨a, vs, e1, h1, h2⟩ := tview_ok r h
    exact ⟨a, vs, e1, .inr (.of (w.ex _ _ h1)), h2⟩
theorem rc_list {b : Bool} : RCm K cl (rListOf K) (mListOf b) := by
  intro W σ p vs ms r
  unfold mListOf
  split
  · rename_i x
    obtain ⟨v, rfl, rx⟩ := rp1 r
    intro μ w r0 μ' e Q hq
    dsimp only at e
    split at e
    · rename_i xs h
      obtain ⟨a, us, rfl, h1, h2⟩ := seqv_ok w rx h
      refine ⟨a, us, rfl, h1, ?_⟩
      exact Does.mkL (cl := cl) (W := W) (σ := σ) (t := fun H Q => ∀ l, H l = none → Q (V.ref l) (upd H l (.lst us))) h2 (fun Q hq => hq) μ w r0 μ' e Q hq
    · cases e
  · exact Does.none
def mTupleOf : List MV → M MV
  | [x] => fun μ => match lview μ x with
    | some xs => some (.ok (mkT xs), μ)
    | none => match tview x with
      | some _ => some (.ok x, μ)
      | none => none
  | _ => fun _ => none
abbrev rTupleOf (K : PySem.W.Frag) : List V → Hp → VK → Prop := fun xs H Q => ∃ p ys, xs = [.ref p] ∧ ((SqL K H p ys ∧ ∀ l, H l = none → Q (.ref l) (upd H l (.tup ys))) ∨ (SqT K H p ys ∧ Q (.ref p) H))
theorem rc_tuple : RCm K cl (rTupleOf K) mTupleOf := by
  intro W σ p vs ms r
  unfold mTupleOf
  split
  · rename_i x
    obtain ⟨v, rfl, rx⟩ := rp1 r
    intro μ w r μ' e Q hq
    dsimp only at e
    cases h : lview μ x with
    | some xs =>
      rw [h] at e
      cases e
      obtain ⟨a, us, rfl, h1, h2⟩ := lview_ok w rx h
      refine ⟨a, us, rfl, .inl ⟨h1, fun l hl => ?_⟩⟩
      obtain ⟨q, eq, g, w', r'⟩ := newT w h2 l hl
      have := hq q g w' _ r'
      rw [eq] at this
      exact this
    | none =>
      rw [h] at e
      cases h' : tview x with
      | some xs =>
        rw [h'] at e
        cases e
        obtain ⟨a, us, rfl, h1, h2⟩ := tview_ok rx h'
        exact ⟨a, us, rfl, .inr ⟨.of (w.ex _ _ h1), hq p (Gr.refl p) w _ rx⟩⟩
      | none =>
        rw [h'] at e
        cases e
  · exact Does.none
def intsD : List MV → Option (List Int)
  | [] => some []
  | .sh (.int i) :: r => (intsD r).map (i :: ·)
  | _ :: _ => none
theorem intsD_ok {p : Pt} : ∀ {vs : List V} {xs : List MV} {ns : List Int}, RpAll K p vs xs → intsD xs = some ns → vs = ns.map V.int
  | _, _, ns, .nil, e => by
    have e' : [] = ns := Option.some.inj e
    subst e'
    rfl
  | _, _, ns, .cons (x := x) (xs := xs) h r, e => by
    unfold intsD at e
    split at e
    · rename_i heq
      cases heq
    · rename_i i r' heq
      cases heq
      cases e1 : intsD xs with
      | none =>
        rw [e1] at e
        cases e
      | some ns' =>
        rw [e1] at e
        cases e
        rw [rp_int h, intsD_ok r e1]
        rfl
    · cases e
/-- a built-in over a list of ints -/
def mIntsL (g : List Int → Option PyData) : List MV → M MV
  | [x] => M.look fun μ => match (lview μ x).bind intsD with
    | some ns => (g ns).map .sh
    | none => none
  | _ => fun _ => none
theorem rc_anyI : RCm K cl (rAnyI K) (mIntsL fun ns => some (.bool (ns.any (· != 0)))) := by
  intro W σ p vs ms r
  unfold mIntsL
  split
  · rename_i x
    obtain ⟨v, rfl, rx⟩ := rp1 r
    refine Does.look fun μ w b e Q hq => ?_
    split at e
    · rename_i ns h
      cases e
      cases e1 : lview μ x with
      | none =>
        rw [e1] at h
        cases h
      | some xs =>
        rw [e1] at h
        obtain ⟨a, us, rfl, h1, h2⟩ := lview_ok w rx e1
        obtain rfl := intsD_ok h2 h
        exact ⟨a, ns, rfl, h1, hq _ (.sh (.bl _))⟩
    · cases e
  · exact Does.none
theorem rc_sum : RCm K cl (rSum K) (mIntsL fun ns => some (.int ns.sum)) := by
  intro W σ p vs ms r
  unfold mIntsL
  split
  · rename_i x
    obtain ⟨v, rfl, rx⟩ := rp1 r
    refine Does.look fun μ w b e Q hq => ?_
    split at e
    · rename_i ns h
      cases e
      cases e1 : lview μ x with
      | none =>
        rw [e1] at h
        cases h
      | some xs =>
        rw [e1] at h
        obtain ⟨a, us, rfl, h1, h2⟩ := lview_ok w rx e1
        obtain rfl := intsD_ok h2 h
        exact ⟨a, ns, rfl, h1, hq _ (.sh (.int _))⟩
    · cases e
  · exact Does.none

/-! ### isinstance of a built-in class -/
inductive Ty where
  | int | bool | str | list | tuple
  deriving DecidableEq
def Ty.name : Ty → String
  | .int => "int"
  | .bool => "bool"
  | .str => "str"
  | .list => "list"
  | .tuple => "tuple"
def kindM : MV → Option Ty
  | .sh (.int _) => some .int
  | .sh (.bool _) => some .bool
  | .sh (.str _) => some .str
  | .sh (.list _) => some .list
  | .sh (.tuple _) => some .tuple
  | .cell _ => some .list
  | .tp _ => some .tuple
  | _ => none
def isiT (k n : Ty) : Bool := decide (k = n) || (decide (k = .bool) && decide (n = .int))
/-- isinstance(x, n); None is of none of the five -/
def isiM (n : Ty) (x : MV) : Option Bool := match kindM x with
  | some k => some (isiT k n)
  | none => if isNn x = true then some false else none
theorem kit_isi {k n : Ty} : kitB k.name n.name = some (isiT k n) := by cases k <;> cases n <;> decide +kernel
theorem kit_none {n : Ty} : kitB "NoneType" n.name = some false := by cases n <;> decide +kernel
theorem kindM_ok {p : Pt} {μ : Mu} {v : V} {x : MV} {k : Ty} (w : Wd K p μ) (r : Rp K p v x) (h : kindM x = some k) : TyX K p.H v (.type k.name) := by
  cases r with
  | sh q =>
    cases q with
    | non => cases h
    | bl b =>
      cases h
      exact .base (.bl b)
    | int i =>
      cases h
      exact .base (.int i)
    | str x =>
      cases h
      exact .base (.str x)
    | lst h1 _ =>
      cases h
      exact .base (.lst (w.ex _ _ h1))
    | tup h1 _ =>
      cases h
      exact .base (.tup (w.ex _ _ h1))
  | cell q =>
    cases h
    obtain ⟨vs, h1⟩ := w.lst (List.mem_of_getElem? q)
    exact .base (.lst h1)
  | tp h1 _ =>
    cases h
    exact .base (.tup (w.ex _ _ h1))
  | scr q => cases h
def mIsi (n : Ty) (a : Sl → M MV) : Sl → M MV := fun δ => (a δ).bind fun x => M.opt ((isiM n x).map fun b => .sh (.bool b))
theorem pm_isi {W : WX} {n : Ty} {te : TE} {m : Sl → M MV} (ha : PEm K cl W te m) : PEm K cl W (tCB (rIsi K) (tCons te (tCons (tC (.ty n.name)) tNil))) (mIsi n m) := fun σ δ p s =>
  Does.bind (t := te σ) (k := fun x H1 Q => rIsi K [x, .ty n.name] H1 Q) (ha σ δ p s) fun q g x mx rx => Does.opt fun b e => by
    intro μ w r μ' e' Q hq
    cases e'
    unfold isiM at e
    split at e
    · rename_i k hk
      cases e
      exact ⟨x, _, _, _, _, rfl, .ty _, kindM_ok w rx hk, kit_ty kit_isi, hq q (Gr.refl q) w _ (.sh (.bl _))⟩
    · split at e
      · rename_i hn
        cases e
        have e2 : x = .non := of_decide_eq_true ((rp_non rx).trans hn)
        subst e2
        exact ⟨_, _, _, _, _, rfl, .ty _, .base .non, kit_ty kit_none, hq q (Gr.refl q) w _ (.sh (.bl _))⟩
      · cases e
end
end PD

set_option Elab.async false
set_option linter.all false
set_option maxRecDepth 100000
set_option maxHeartbeats 1000000
namespace PD
open PySem PySem.Spec PyProof.Rows L2

/-! ### methods of lists that are cells -/
/-- f on the cell's content and the arguments gives the answer and the new content -/
def cellStep (n : Nat) (f : List MV → List MV → Option (MV × List MV)) (ys : List MV) : M MV := fun μ => match μ[n]? with
  | some xs => (f xs ys).map fun r => (.ok r.1, μ.set n r.2)
  | none => none
def mCellM (f : List MV → List MV → Option (MV × List MV)) (o : Sl → M MV) (a : Sl → M (List MV)) : Sl → M MV := fun δ => (o δ).bind fun x => match x with
  | .cell n => (a δ).bind fun ys => cellStep n f ys
  | _ => fun _ => none
def fAppend : List MV → List MV → Option (MV × List MV)
  | xs, [y] => if xs.length < 100000 then some (.sh .none, xs ++ [y]) else none
  | _, _ => none
def fInsert : List MV → List MV → Option (MV × List MV)
  | xs, [.sh (.int i), y] => if xs.length < 100000 ∧ 0 ≤ i ∧ i < 2 ^ 62 then some (.sh .none, xs.take i.toNat ++ [y] ++ xs.drop i.toNat) else none
  | _, _ => none
def fPopAt : List MV → List MV → Option (MV × List MV)
  | xs, [.sh (.int i)] => if -100000 ≤ i ∧ i < 100000 then (ixN xs.length i).bind fun k => (xs[k]?).map fun y => (y, xs.eraseIdx k) else none
  | _, _ => none
section
variable {K : PySem.W.Frag} {cl : Nat → Value} {W : WX}
def CMm (K : PySem.W.Frag) (r : V → List V → Hp → VK → Prop) (f : List MV → List MV → Option (MV × List MV)) : Prop :=
  ∀ (p : Pt) (l : Addr) (vs ws : List V) (xs ys xs' : List MV) (z : MV), p.H l = some (.lst vs) → RpAll K p vs xs → RpAll K p ws ys → f xs ys = some (z, xs') →
    ∃ v vs', Rp K p v z ∧ RpAll K p vs' xs' ∧ ∀ Q : VK, Q v (upd p.H l (.lst vs')) → r (.ref l) ws p.H Q
theorem pm_cellM {r : V → List V → Hp → VK → Prop} {f : List MV → List MV → Option (MV × List MV)} {to : TE} {mo : Sl → M MV} {ta : TA} {ma : Sl → M (List MV)} (hr : CMm K r f) (ho : PEm K cl W to mo) (ha : PAm K cl W ta ma) :
    PEm K cl W (tBM K "list" r to ta) (mCellM f mo ma) := fun σ δ p s =>
  Does.bind (t := to σ) (k := fun x H1 Q => tyV K "list" x H1 ∧ ta σ H1 fun xs H2 => r x xs H2 Q) (ho σ δ p s) fun q g x mx rx => by
    cases rx with
    | cell h =>
      rename_i n l
      intro μ w r' μ' e Q hq
      obtain ⟨us, hl⟩ := w.lst (List.mem_of_getElem? h)
      refine ⟨.inl ⟨rfl, us, .of hl⟩, ?_⟩
      refine Does.bind (R' := Rp K) (t := ta σ) (k := fun xs H2 Q => r (.ref l) xs H2 Q) (ha σ δ q (s.mono g)) (fun q2 g2 ws ys rs => ?_) μ w r' μ' e Q hq
      intro μ2 w2 r2 μ2' e2 Q2 hq2
      unfold cellStep at e2
      cases e3 : μ2[n]? with
      | none =>
        rw [e3] at e2
        cases e2
      | some xs =>
        rw [e3] at e2
        dsimp only at e2
        cases e4 : f xs ys with
        | none =>
          rw [e4] at e2
          cases e2
        | some z =>
          rw [e4] at e2
          cases e2
          obtain ⟨a, vs, ha', hH, rv⟩ := w2.cel n xs e3
          rw [g2.at h] at ha'
          cases ha'
          obtain ⟨v, vs', rz, rv', hfin⟩ := hr q2 l vs ws xs ys z.2 z.1 hH rv rs e4
          obtain ⟨w3, g3⟩ := w2.setCell (g2.at h) rv'
          exact hfin Q2 (hq2 _ g3 w3 v (rz.mono g3))
    | sh h => exact Does.none
    | tp h _ => exact Does.none
    | scr h => exact Does.none
theorem cm_append : CMm K rAppend fAppend := by
  intro p l vs ws xs ys xs' z hl rv rw' e
  unfold fAppend at e
  split at e
  · rename_i y
    split at e
    · cases e
      obtain ⟨v, rfl, ry⟩ := rp1 rw'
      have e1 := rv.length
      exact ⟨.non, vs ++ [v], .sh .non, rv.append (.cons ry .nil), fun Q q => ⟨l, vs, v, rfl, rfl, hl, by rw [sizeLine_eq]; omega, q⟩⟩
    · cases e
  · cases e
abbrev rInsert : V → List V → Hp → VK → Prop := fun x vs H Q => ∃ (l : Addr) (xs : List V) (i : Int) (y : V), x = .ref l ∧ vs = [.int i, y] ∧ H l = some (.lst xs) ∧ xs.length < sizeLine ∧ 0 ≤ i ∧ i < 2 ^ 63 ∧
    Q .non (upd H l (.lst (xs.take i.toNat ++ [y] ++ xs.drop i.toNat)))
theorem cm_insert : CMm K rInsert fInsert := by
  intro p l vs ws xs ys xs' z hl rv rw' e
  unfold fInsert at e
  split at e
  · rename_i i y
    split at e
    · rename_i hi
      cases e
      obtain ⟨v, u, rfl, r1, r2⟩ := rp2 rw'
      obtain rfl := rp_int r1
      have e1 := rv.length
      exact ⟨.non, vs.take i.toNat ++ [u] ++ vs.drop i.toNat, .sh .non, ((rv.take _).append (.cons r2 .nil)).append (rv.drop _), fun Q q => ⟨l, vs, i, u, rfl, rfl, hl, by rw [sizeLine_eq]; omega, hi.2.1, by omega, q⟩⟩
    · cases e
  · cases e
theorem cm_popAt : CMm K rPopAt fPopAt := by
  intro p l vs ws xs ys xs' z hl rv rw' e
  unfold fPopAt at e
  split at e
  · rename_i i
    split at e
    · rename_i hi
      obtain ⟨v, rfl, r1⟩ := rp1 rw'
      obtain rfl := rp_int r1
      have e1 := rv.length
      cases e2 : ixN xs.length i with
      | none =>
        rw [e2] at e
        cases e
      | some k =>
        rw [e2] at e
        dsimp only [Option.bind] at e
        cases e3 : xs[k]? with
        | none =>
          rw [e3] at e
          cases e
        | some y =>
          rw [e3] at e
          cases e
          obtain ⟨u, hu, ru⟩ := rv.get e3
          have h4 := (ixN_seq e2).1
          rw [← e1] at h4
          exact ⟨u, vs.eraseIdx k, ru, rv.eraseIdx k, fun Q q => ⟨l, vs, i, k, u, rfl, rfl, hl, by omega, by omega, h4, hu, q⟩⟩
    · cases e
  · cases e
end

/-! ### what a loop walks -/
inductive Src where
  | st (xs : List MV) | dy (n : Nat)
structure ItOk (K : PySem.W.Frag) (J : It) (xs : List MV) (q : Pt) : Prop where
  go : ∀ q' μ, Gr q q' → Wd K q' μ → ∀ i, i < xs.length → J.go i q'.H
  stop : ∀ q' μ, Gr q q' → Wd K q' μ → ∀ i, xs.length ≤ i → J.stop i q'.H
  yld : ∀ q' μ, Gr q q' → Wd K q' μ → ∀ (i : Nat) (x : MV), xs[i]? = some x → ∀ v H', J.yld i q'.H v H' → ∃ q2 : Pt, q2.H = H' ∧ Gr q' q2 ∧ Wd K q2 μ ∧ Rp K q2 v x
def SrcOk (K : PySem.W.Frag) (q : Pt) (J : It) : Src → Prop
  | .st xs => ItOk K J xs q
  | .dy n => ∃ a, q.ρ[n]? = some a ∧ J = Itl K a
def PIm (K : PySem.W.Frag) (cl : Nat → Value) (W : WX) (wi : TI) (m : Sl → M Src) : Prop := ∀ (σ : Sg) (δ : Sl) (p : Pt), Sls K p σ δ → Does K cl W σ (SrcOk K) (wi σ) (m δ) p
/-- over a list or a tuple -/
def iSeq (K : PySem.W.Frag) (tl : TE) : TI := fun σ H R => tl σ H fun x H1 => ∃ a, x = .ref a ∧ (((∃ xs, SqL K H1 a xs) ∧ R (Itl K a) H1) ∨ ((∃ xs, SqT K H1 a xs) ∧ R (Itt K a) H1))
theorem pi_seq {X : Cx} {tg l : Expr} {tl : TE} (hl : PE X l tl) : PI X tg l (iSeq X.K tl) := by
  refine ⟨fun pins s σ H R I h => ?_⟩
  refine thn (hl.run pins s σ H _ I h) fun v s1 ⟨x, H1, I1, r1, q1⟩ => ?_
  obtain ⟨a, e, q⟩ := q1
  subst e
  cases r1
  rcases q with ⟨⟨xs, hq⟩, q⟩ | ⟨⟨xs, hq⟩, q⟩
  · obtain ⟨its, rv, p, hz⟩ := I1.list hq
    refine wpAny_pyIter_list p.isList ?_
    refine ⟨s1.heap.objs.size, [s1.heap.objs.size], _, _, H1, rfl, I1.kept (t' := s1.toks) fun b o e => Heap.get?_push_of_some _ e, turn_list a _, ⟨_, Heap.get?_push_size _ rfl, rfl, rfl⟩, fun b hb => ?_, q⟩
    have e : b = s1.heap.objs.size := by simpa using hb
    subst e
    exact I1.fpOk (Nat.le_refl _) (I1.hok.fresh (Nat.le_refl _))
  · obtain ⟨its, rv, p, hz⟩ := I1.tuple hq
    refine wpAny_pyIter_tuple (show s1.heap.IsTuple a its.toArray from p) ?_
    refine ⟨s1.heap.objs.size, [s1.heap.objs.size], _, _, H1, rfl, I1.kept (t' := s1.toks) fun b o e => Heap.get?_push_of_some _ e, turn_tuple a _, ⟨_, Heap.get?_push_size _ rfl, rfl, rfl⟩, fun b hb => ?_, q⟩
    have e : b = s1.heap.objs.size := by simpa using hb
    subst e
    exact I1.fpOk (Nat.le_refl _) (I1.hok.fresh (Nat.le_refl _))
def srcOf (μ : Mu) : MV → Option Src
  | .cell n => some (.dy n)
  | x => match lview μ x with
    | some xs => some (.st xs)
    | none => (tview x).map .st
def mSeqS (a : Sl → M MV) : Sl → M Src := fun δ => (a δ).bind fun x => M.look fun μ => srcOf μ x
/-- a list that is no cell stays -/
theorem lview_stay {K : PySem.W.Frag} {p q : Pt} {μ ν : Mu} {v : V} {x : MV} {xs : List MV} (w : Wd K p μ) (r : Rp K p v x) (h : lview μ x = some xs) (hn : ∀ n, x ≠ .cell n) :
    ∃ a vs, v = .ref a ∧ RpAll K p vs xs ∧ ∀ q μ', Gr p q → Wd K q μ' → SqL K q.H a vs := by
  cases r with
  | sh q =>
    cases q with
    | lst h1 h2 =>
      cases h
      exact ⟨_, _, rfl, h2.rp, fun q μ' g w' => .of (w'.ex _ _ (g.hx _ _ h1))⟩
    | non => cases h
    | bl => cases h
    | int => cases h
    | str => cases h
    | tup => cases h
  | cell q => exact absurd rfl (hn _)
  | tp q _ => cases h
  | scr q =>
    cases h
    exact ⟨_, _, rfl, rp_ints rfl, fun q' μ' g w' => sq_mono w'.ex (sq_mono g.hx q)⟩
theorem it_list {K : PySem.W.Frag} {p : Pt} {a : Addr} {vs : List V} {xs : List MV} (r : RpAll K p vs xs) (st : ∀ q μ', Gr p q → Wd K q μ' → SqL K q.H a vs) : ItOk K (Itl K a) xs p where
  go := fun q' μ g w i hi => ⟨vs, vs[i]'(by rw [r.length]; exact hi), st q' μ g w, List.getElem?_eq_getElem _⟩
  stop := fun q' μ g w i hi => ⟨vs, st q' μ g w, by rw [r.length]; exact hi⟩
  yld := fun q' μ g w i x hx v H' hy => by
    obtain ⟨rfl, hv⟩ := hy
    obtain ⟨u, hu, ru⟩ := r.get hx
    have e := hv vs (st q' μ g w)
    rw [hu] at e
    cases e
    exact ⟨q', rfl, Gr.refl _, w, ru.mono g⟩
theorem it_tup {K : PySem.W.Frag} {p : Pt} {a : Addr} {vs : List V} {xs : List MV} (r : RpAll K p vs xs) (st : ∀ q μ', Gr p q → Wd K q μ' → SqT K q.H a vs) : ItOk K (Itt K a) xs p where
  go := fun q' μ g w i hi => ⟨vs, vs[i]'(by rw [r.length]; exact hi), st q' μ g w, List.getElem?_eq_getElem _⟩
  stop := fun q' μ g w i hi => ⟨vs, st q' μ g w, by rw [r.length]; exact hi⟩
  yld := fun q' μ g w i x hx v H' hy => by
    obtain ⟨rfl, hv⟩ := hy
    obtain ⟨u, hu, ru⟩ := r.get hx
    have e := hv vs (st q' μ g w)
    rw [hu] at e
    cases e
    exact ⟨q', rfl, Gr.refl _, w, ru.mono g⟩
section
variable {K : PySem.W.Frag} {cl : Nat → Value} {W : WX}
theorem im_seq {te : TE} {m : Sl → M MV} (ha : PEm K cl W te m) : PIm K cl W (iSeq K te) (mSeqS m) := fun σ δ p s =>
  Does.bind (t := te σ) (k := fun x H1 R => ∃ a, x = .ref a ∧ (((∃ xs, SqL K H1 a xs) ∧ R (Itl K a) H1) ∨ ((∃ xs, SqT K H1 a xs) ∧ R (Itt K a) H1))) (ha σ δ p s) fun q g x mx rx => Does.look fun μ w b e Q hq => by
    cases hc : mx with
    | cell n =>
      subst hc
      cases e
      cases rx with
      | cell h =>
        obtain ⟨us, hl⟩ := w.lst (List.mem_of_getElem? h)
        exact ⟨_, rfl, .inl ⟨⟨us, .of hl⟩, hq _ ⟨_, h, rfl⟩⟩⟩
    | _ =>
      have hn : ∀ n, mx ≠ .cell n := fun n z => by
        rw [hc] at z
        cases z
      have e' : (match lview μ mx with
        | some xs => some (Src.st xs)
        | none => (tview mx).map .st) = some b := by
        rw [hc] at e ⊢
        exact e
      cases e1 : lview μ mx with
      | some xs =>
        rw [e1] at e'
        cases e'
        obtain ⟨a, vs, rfl, r, st⟩ := lview_stay (ν := μ) (q := q) w rx e1 hn
        exact ⟨a, rfl, .inl ⟨⟨vs, st q μ (Gr.refl _) w⟩, hq _ (it_list r st)⟩⟩
      | none =>
        rw [e1] at e'
        cases e2 : tview mx with
        | none =>
          rw [e2] at e'
          cases e'
        | some xs =>
          rw [e2] at e'
          cases e'
          obtain ⟨a, vs, rfl, h1, h2⟩ := tview_ok rx e2
          have st : ∀ q2 μ', Gr q q2 → Wd K q2 μ' → SqT K q2.H a vs := fun q2 μ' g2 w2 => .of (w2.ex _ _ (g2.hx _ _ h1))
          exact ⟨a, rfl, .inr ⟨⟨vs, st q μ (Gr.refl _) w⟩, hq _ (it_tup h2 st)⟩⟩
/-- lo, lo + 1, .. -/
def rangeI (lo : Int) (n : Nat) : List MV := (List.range n).map fun (i : Nat) => .sh (.int (lo + (i : Int)))
theorem it_range {p : Pt} {lo : Int} {n : Nat} : ItOk K (Itr lo n) (rangeI lo n) p where
  go := fun q' μ g w i hi => by
    unfold rangeI at hi
    rw [List.length_map, List.length_range] at hi
    exact hi
  stop := fun q' μ g w i hi => by
    unfold rangeI at hi
    rw [List.length_map, List.length_range] at hi
    exact hi
  yld := fun q' μ g w i x hx v H' hy => by
    obtain ⟨rfl, rfl⟩ := hy
    unfold rangeI at hx
    rw [List.getElem?_map] at hx
    cases e : (List.range n)[i]? with
    | none =>
      rw [e] at hx
      cases hx
    | some k =>
      rw [e] at hx
      cases hx
      have ek : k = i := by
        obtain ⟨h1, h2⟩ := List.getElem?_eq_some_iff.mp e
        rw [List.getElem_range] at h2
        exact h2.symm
      subst ek
      exact ⟨q', rfl, Gr.refl _, w, .sh (.int _)⟩
def mRng1 (a : Sl → M (List MV)) : Sl → M Src := fun δ => (a δ).bind fun xs => M.opt (match xs with
  | [.sh (.int j)] => if -100000 ≤ j ∧ j ≤ 100000 then some (.st (rangeI 0 j.toNat)) else none
  | _ => none)
def mRng2 (a : Sl → M (List MV)) : Sl → M Src := fun δ => (a δ).bind fun xs => M.opt (match xs with
  | [.sh (.int i), .sh (.int j)] => if -100000 ≤ i ∧ i ≤ 100000 ∧ -100000 ≤ j ∧ j ≤ 100000 then some (.st (rangeI i (j - i).toNat)) else none
  | _ => none)
theorem im_rng1 {ta : TA} {m : Sl → M (List MV)} (ha : PAm K cl W ta m) : PIm K cl W (iRng1 ta) (mRng1 m) := fun σ δ p s =>
  Does.bind (t := ta σ) (k := fun vs H1 R => ∃ j : Int, vs = [.int j] ∧ -(2 ^ 62) ≤ j ∧ j < 2 ^ 62 ∧ R (Itr 0 j.toNat) H1) (ha σ δ p s) fun q g vs ms rs => Does.opt fun b e => by
    intro μ w r μ' e' Q hq
    cases e'
    split at e
    · split at e
      · cases e
        obtain ⟨v, rfl, r1⟩ := rp1 rs
        obtain rfl := rp_int r1
        exact ⟨_, rfl, by omega, by omega, hq q (Gr.refl q) w _ it_range⟩
      · cases e
    · cases e
theorem im_rng2 {ta : TA} {m : Sl → M (List MV)} (ha : PAm K cl W ta m) : PIm K cl W (iRng2 ta) (mRng2 m) := fun σ δ p s =>
  Does.bind (t := ta σ) (k := fun vs H1 R => ∃ i j : Int, vs = [.int i, .int j] ∧ (-(2 ^ 62) ≤ i ∧ i < 2 ^ 62 ∧ -(2 ^ 62) ≤ j ∧ j < 2 ^ 62) ∧ R (Itr i (j - i).toNat) H1) (ha σ δ p s) fun q g vs ms rs => Does.opt fun b e => by
    intro μ w r μ' e' Q hq
    cases e'
    split at e
    · split at e
      · rename_i h
        cases e
        obtain ⟨v, u, rfl, r1, r2⟩ := rp2 rs
        obtain rfl := rp_int r1
        obtain rfl := rp_int r2
        exact ⟨_, _, rfl, ⟨by omega, by omega, by omega, by omega⟩, hq q (Gr.refl q) w _ it_range⟩
      · cases e
    · cases e
/-- lo, lo + c, .. -/
def rangeC (lo c : Int) (n : Nat) : List MV := (List.range n).map fun (i : Nat) => .sh (.int (lo + (i : Int) * c))
theorem it_rangeC {p : Pt} {lo c : Int} {n : Nat} : ItOk K (Itc lo c n) (rangeC lo c n) p where
  go := fun q' μ g w i hi => by
    unfold rangeC at hi
    rw [List.length_map, List.length_range] at hi
    exact hi
  stop := fun q' μ g w i hi => by
    unfold rangeC at hi
    rw [List.length_map, List.length_range] at hi
    exact hi
  yld := fun q' μ g w i x hx v H' hy => by
    obtain ⟨rfl, rfl⟩ := hy
    unfold rangeC at hx
    rw [List.getElem?_map] at hx
    cases e : (List.range n)[i]? with
    | none =>
      rw [e] at hx
      cases hx
    | some k =>
      rw [e] at hx
      cases hx
      have ek : k = i := by
        obtain ⟨h1, h2⟩ := List.getElem?_eq_some_iff.mp e
        rw [List.getElem_range] at h2
        exact h2.symm
      subst ek
      exact ⟨q', rfl, Gr.refl _, w, .sh (.int _)⟩
theorem small_pos {a b c : Int} (hc : 0 < c) (hc' : c ≤ 100000) (ha : -100000 ≤ a) (ha' : a ≤ 100000) (hb : -100000 ≤ b) (hb' : b ≤ 100000) : Builtin.Range.small a b c = true := by
  have h1 : (b - a - 1) / c ≤ 200000 := by
    have := Int.ediv_le_ediv hc (show b - a - 1 ≤ 200000 by omega)
    have h2 : (200000 : Int) / c ≤ 200000 := Int.ediv_le_self _ (by omega)
    omega
  have h0 : a < b → 0 ≤ (b - a - 1) / c := fun h => Int.ediv_nonneg (by omega) (by omega)
  unfold Builtin.Range.small Builtin.Range.rangeSize
  simp only [Builtin.Range.rangeFitsLong, Bool.and_eq_true, Bool.or_eq_true, decide_eq_true_eq, beq_iff_eq, show c > 0 from hc, if_true]
  split
  · have := h0 (by assumption)
    omega
  · omega
def rangeN (i j c : Int) : Nat := if i < j then ((j - i - 1) / c + 1).toNat else 0
theorem rangeN_eq {i j c : Int} (hc : 0 < c) : Builtin.Range.rangeSize i j c = (rangeN i j c : Int) := by
  unfold Builtin.Range.rangeSize rangeN
  rw [if_pos hc]
  split
  · have : 0 ≤ (j - i - 1) / c := Int.ediv_nonneg (by omega) (by omega)
    omega
  · rfl
def mRng3 (a : Sl → M (List MV)) : Sl → M Src := fun δ => (a δ).bind fun xs => M.opt (match xs with
  | [.sh (.int i), .sh (.int j), .sh (.int c)] => if 0 < c ∧ c ≤ 100000 ∧ -100000 ≤ i ∧ i ≤ 100000 ∧ -100000 ≤ j ∧ j ≤ 100000 then some (.st (rangeC i c (rangeN i j c))) else none
  | _ => none)
theorem im_rng3 {ta : TA} {m : Sl → M (List MV)} (ha : PAm K cl W ta m) : PIm K cl W (iRng3 ta) (mRng3 m) := fun σ δ p s =>
  Does.bind (t := ta σ) (k := fun vs H1 R => ∃ (i j c : Int) (n : Nat), vs = [.int i, .int j, .int c] ∧ RgC i j c n ∧ R (Itc i c n) H1) (ha σ δ p s) fun q g vs ms rs => Does.opt fun b e => by
    intro μ w r μ' e' Q hq
    cases e'
    split at e
    · split at e
      · rename_i h
        cases e
        cases rs with
        | cons r1 rs =>
          obtain ⟨v2, v3, rfl, r2, r3⟩ := rp2 rs
          obtain rfl := rp_int r1
          obtain rfl := rp_int r2
          obtain rfl := rp_int r3
          exact ⟨_, _, _, _, rfl, ⟨by omega, by omega, small_pos h.1 h.2.1 h.2.2.1 h.2.2.2.1 h.2.2.2.2.1 h.2.2.2.2.2, rangeN_eq h.1⟩, hq q (Gr.refl q) w _ it_rangeC⟩
      · cases e
    · cases e
/-- enumerate of a list that is no cell -/
def enumI : Nat → List MV → List MV
  | _, [] => []
  | i, x :: r => mkT [.sh (.int (i : Int)), x] :: enumI (i + 1) r
theorem enumI_length : ∀ (k : Nat) (xs : List MV), (enumI k xs).length = xs.length
  | _, [] => rfl
  | k, x :: r => by
    unfold enumI
    rw [List.length_cons, List.length_cons, enumI_length (k + 1) r]
theorem enumI_get : ∀ (k : Nat) (xs : List MV) (i : Nat), (enumI k xs)[i]? = (xs[i]?).map fun x => mkT [.sh (.int ((k + i : Nat) : Int)), x]
  | _, [], _ => rfl
  | k, x :: r, 0 => rfl
  | k, x :: r, i + 1 => by
    show (enumI (k + 1) r)[i]? = (r[i]?).map _
    rw [enumI_get (k + 1) r i, show k + 1 + i = k + (i + 1) by omega]
def mEnum (a : Sl → M (List MV)) : Sl → M Src := fun δ => (a δ).bind fun xs => M.look fun μ => match xs with
  | [.cell _] => none
  | [x] => (lview μ x).map fun ys => .st (enumI 0 ys)
  | _ => none
theorem it_enum {p : Pt} {a : Addr} {vs : List V} {xs : List MV} (r : RpAll K p vs xs) (st : ∀ q μ', Gr p q → Wd K q μ' → SqL K q.H a vs) : ItOk K (Ite K a) (enumI 0 xs) p where
  go := fun q' μ g w i hi => by
    rw [enumI_length] at hi
    exact ⟨vs, vs[i]'(by rw [r.length]; exact hi), st q' μ g w, List.getElem?_eq_getElem _⟩
  stop := fun q' μ g w i hi => by
    rw [enumI_length] at hi
    exact ⟨vs, st q' μ g w, by rw [r.length]; exact hi⟩
  yld := fun q' μ g w i x hx v H' hy => by
    obtain ⟨T, y, rfl, hT, rfl, hv⟩ := hy
    rw [enumI_get, Nat.zero_add] at hx
    cases e1 : xs[i]? with
    | none =>
      rw [e1] at hx
      cases hx
    | some z =>
      rw [e1] at hx
      cases hx
      obtain ⟨u, hu, ru⟩ := r.get e1
      have e := hv vs (st q' μ g w)
      rw [hu] at e
      cases e
      obtain ⟨q2, e2, g2, w2, r2⟩ := newT w (.cons (.sh (.int ((i : Nat) : Int))) (.cons (ru.mono g) .nil)) T hT
      exact ⟨q2, e2, g2, w2, r2⟩
theorem im_enum {ta : TA} {m : Sl → M (List MV)} (ha : PAm K cl W ta m) : PIm K cl W (iEnum K ta) (mEnum m) := fun σ δ p s =>
  Does.bind (t := ta σ) (k := fun vs H1 R => ∃ a xs, vs = [.ref a] ∧ SqL K H1 a xs ∧ R (Ite K a) H1) (ha σ δ p s) fun q g vs ms rs => Does.look fun μ w b e Q hq => by
    split at e
    · cases e
    · rename_i x hn
      obtain ⟨v, rfl, r1⟩ := rp1 rs
      cases e1 : lview μ x with
      | none =>
        rw [e1] at e
        cases e
      | some ys =>
        rw [e1] at e
        cases e
        obtain ⟨a, us, rfl, r, st⟩ := lview_stay (ν := μ) (q := q) w r1 e1 fun n z => hn n (by rw [z])
        exact ⟨a, us, rfl, st q μ (Gr.refl _) w, hq _ (it_enum r st)⟩
    · cases e

/-! ### targets -/
abbrev MG := MV → Sl → Option Sl
abbrev MGs := List MV → Sl → Option Sl
def PGm (K : PySem.W.Frag) (vs : List Nat) (tg : TG) (g : MG) : Prop := ∀ (p : Pt) (μ : Mu) (σ : Sg) (δ δ' : Sl) (v : V) (x : MV), Wd K p μ → Sls K p σ δ → Rp K p v x → g x δ = some δ' →
  ∀ Q : Sg → Hp → Prop, (∀ σ', Sls K p σ' δ' → wipe σ' vs = wipe σ vs → Q σ' p.H) → tg v σ p.H Q
def PGsm (K : PySem.W.Frag) (vs : List Nat) (tg : TGs) (g : MGs) : Prop := ∀ (p : Pt) (μ : Mu) (σ : Sg) (δ δ' : Sl) (us : List V) (xs : List MV), Wd K p μ → Sls K p σ δ → RpAll K p us xs → g xs δ = some δ' →
  ∀ Q : Sg → Hp → Prop, (∀ σ', Sls K p σ' δ' → wipe σ' vs = wipe σ vs → Q σ' p.H) → tg us σ p.H Q
def gNameM (i : Nat) : MG := fun x δ => some (δ.set i (some x))
def gNilM : MGs := fun xs δ => match xs with
  | [] => some δ
  | _ => none
def gConsM (g : MG) (gs : MGs) : MGs := fun xs δ => match xs with
  | x :: r => (g x δ).bind fun δ' => gs r δ'
  | [] => none
def gTupM (n : Nat) (gs : MGs) : MG := fun x δ => match tview x with
  | some xs => if xs.length = n then gs xs δ else none
  | none => none
theorem wipe_set {j : Nat} {x : Option V} : ∀ {vs : List Nat} {σ : Sg}, j ∈ vs → wipe (σ.set j x) vs = wipe σ vs
  | [], _, h => by cases h
  | v :: vs, σ, h => by
    show (wipe (σ.set j x) vs).set v none = (wipe σ vs).set v none
    by_cases hj : j ∈ vs
    · rw [wipe_set hj]
    · have e : j = v := by
        rcases List.mem_cons.mp h with z | z
        · exact z
        · exact absurd z hj
      subst e
      have comm : ∀ (us : List Nat) (τ : Sg), j ∉ us → wipe (τ.set j x) us = (wipe τ us).set j x := by
        intro us
        induction us with
        | nil =>
          intro τ _
          rfl
        | cons u us ih =>
          intro τ hu
          have h1 : j ≠ u := fun z => hu (by rw [z]; exact List.mem_cons_self)
          have h2 : j ∉ us := fun z => hu (List.mem_cons_of_mem _ z)
          show (wipe (τ.set j x) us).set u none = ((wipe τ us).set u none).set j x
          rw [ih τ h2, List.set_comm _ _ h1]
      rw [comm vs σ hj, List.set_set]
theorem gm_name {i : Nat} {vs : List Nat} (h : i ∈ vs) : PGm K vs (gName i) (gNameM i) := by
  intro p μ σ δ δ' v x w s r e Q hq
  cases e
  exact hq _ (s.set r i) (wipe_set h)
theorem gm_nil {vs : List Nat} : PGsm K vs gNil gNilM := by
  intro p μ σ δ δ' us xs w s r e Q hq
  unfold gNilM at e
  split at e
  · cases e
    cases r
    exact ⟨rfl, hq σ s rfl⟩
  · cases e
theorem gm_cons {vs : List Nat} {t : TG} {u : TGs} {g : MG} {gs : MGs} (h1 : PGm K vs t g) (h2 : PGsm K vs u gs) : PGsm K vs (gCons t u) (gConsM g gs) := by
  intro p μ σ δ δ' us xs w s r e Q hq
  unfold gConsM at e
  split at e
  · rename_i x xs'
    cases r with
    | cons r1 r2 =>
      rename_i v us'
      cases e1 : g x δ with
      | none =>
        rw [e1] at e
        cases e
      | some δ1 =>
        rw [e1] at e
        refine ⟨v, us', rfl, h1 p μ σ δ δ1 v x w s r1 e1 _ fun σ1 s1 z1 => ?_⟩
        exact h2 p μ σ1 δ1 δ' us' xs' w s1 r2 e Q fun σ2 s2 z2 => hq σ2 s2 (z2.trans z1)
  · cases e
theorem gm_tup {vs : List Nat} {n : Nat} {t : TGs} {gs : MGs} (h : PGsm K vs t gs) : PGm K vs (gTup K n t) (gTupM n gs) := by
  intro p μ σ δ δ' v x w s r e Q hq
  unfold gTupM at e
  cases e1 : tview x with
  | none =>
    rw [e1] at e
    cases e
  | some xs =>
    rw [e1] at e
    dsimp only at e
    split at e
    · rename_i hl
      obtain ⟨a, us, rfl, h1, h2⟩ := tview_ok r e1
      exact ⟨a, us, rfl, .of (w.ex _ _ h1), by rw [h2.length]; exact hl, h p μ σ δ δ' us xs w s h2 e Q hq⟩
    · cases e
end
end PD

set_option Elab.async false
set_option linter.all false
set_option maxRecDepth 100000
set_option maxHeartbeats 1000000
namespace PD
open PySem PySem.Spec PyProof.Rows L2

/-! ### comprehensions -/
/-- one turn: the item is taken, the test asked, the element reckoned -/
def compTurn (g : MG) (tt : Sl → M Bool) (te : Sl → M MV) (δ0 : Sl) (x : MV) (acc : List MV) : Mu → Option (List MV × Mu) := fun μ =>
  match g x δ0 with
  | none => none
  | some δ1 => match tt δ1 μ with
    | some (.ok true, μ1) => match te δ1 μ1 with
      | some (.ok y, μ2) => if acc.length < 100000 then some (acc ++ [y], μ2) else none
      | _ => none
    | some (.ok false, μ1) => some (acc, μ1)
    | _ => none
def compL (g : MG) (tt : Sl → M Bool) (te : Sl → M MV) (δ0 : Sl) : List MV → List MV → Mu → Option (List MV × Mu)
  | [], acc, μ => some (acc, μ)
  | x :: r, acc, μ => match compTurn g tt te δ0 x acc μ with
    | some (acc', μ') => compL g tt te δ0 r acc' μ'
    | none => none
def compC (g : MG) (tt : Sl → M Bool) (te : Sl → M MV) (δ0 : Sl) (n : Nat) : Nat → Nat → List MV → Mu → Option (List MV × Mu)
  | 0, _, _, _ => none
  | f + 1, i, acc, μ => match μ[n]? with
    | none => none
    | some xs => match xs[i]? with
      | none => some (acc, μ)
      | some x => match compTurn g tt te δ0 x acc μ with
        | some (acc', μ') => compC g tt te δ0 n f (i + 1) acc' μ'
        | none => none
def mComp (b : Bool) (src : Sl → M Src) (g : MG) (tt : Sl → M Bool) (te : Sl → M MV) (vs : List Nat) : Sl → M MV := fun δ => (src δ).bind fun s => fun μ =>
  match (match s with
    | .st xs => compL g tt te (wipeS δ vs) xs [] μ
    | .dy n => compC g tt te (wipeS δ vs) n 100001 0 [] μ) with
  | some (acc, μ') => M.mkL b acc μ'
  | none => none
def mYes : Sl → M Bool := fun _ => M.ret true

section
variable {K : PySem.W.Frag} {cl : Nat → Value} {W : WX}
theorem tm_yes : PTm K cl W tYes mYes := fun σ δ p s => Does.ret rfl
/-- an untracked list changes its content: what stands for what stays -/
theorem Wd.foreign {q : Pt} {μ : Mu} {D : Addr} {vs ws : List V} (w : Wd K q μ) (h : q.H D = some (.lst vs)) (hn : D ∉ q.ρ) (hs : q.Hs D = none) : Wd K ⟨upd q.H D (.lst ws), q.Hs, q.ρ⟩ μ := by
  refine ⟨fun a o e => ?_, w.nd, w.out, w.len, fun n xs e => ?_⟩
  · have ha : a ≠ D := fun z => by
      rw [z, hs] at e
      cases e
    show upd q.H D (.lst ws) a = some o
    rw [upd_ne ha]
    exact w.ex a o e
  · obtain ⟨a, us, e1, e2, r⟩ := w.cel n xs e
    have ha : a ≠ D := fun z => hn (by rw [← z]; exact List.mem_of_getElem? e1)
    refine ⟨a, us, e1, ?_, ?_⟩
    · show upd q.H D (.lst ws) a = some _
      rw [upd_ne ha]
      exact e2
    · have g : Gr q ⟨q.H, q.Hs, q.ρ⟩ := Gr.refl q
      exact rp_heap r
where
  rp_heap {H : Hp} {us : List V} {xs : List MV} (r : RpAll K q us xs) : RpAll K ⟨H, q.Hs, q.ρ⟩ us xs := rp_heapA r
  rp_heapA {H : Hp} : ∀ {us : List V} {xs : List MV}, RpAll K q us xs → RpAll K ⟨H, q.Hs, q.ρ⟩ us xs
    | _, _, .nil => .nil
    | _, _, .cons h t => .cons (rp_heapV h) (rp_heapA t)
  rp_heapV {H : Hp} : ∀ {v : V} {x : MV}, Rp K q v x → Rp K ⟨H, q.Hs, q.ρ⟩ v x
    | _, _, .sh h => .sh h
    | _, _, .cell h => .cell h
    | _, _, .tp h t => .tp h (rp_heapA t)
    | _, _, .scr h => .scr h
/-- the new list of a comprehension between two turns -/
structure DAt (K : PySem.W.Frag) (q : Pt) (D : Addr) (acc : List MV) : Prop where
  ex : ∃ us, q.H D = some (.lst us) ∧ RpAll K q us acc
  nr : D ∉ q.ρ
  ns : q.Hs D = none
theorem DAt.mono {q q2 : Pt} {D : Addr} {acc : List MV} (g : Gr q q2) (d : DAt K q D acc) : DAt K q2 D acc := by
  obtain ⟨us, h, r⟩ := d.ex
  refine ⟨⟨us, g.fr D _ h d.nr, r.mono g⟩, fun hm => ?_, g.ho D us h d.ns⟩
  rcases g.nw D hm with z | z
  · exact d.nr z
  · rw [h] at z
    cases z
theorem DAt.start {p : Pt} {μ : Mu} {D : Addr} (w : Wd K p μ) (h : p.H D = none) : Wd K ⟨upd p.H D (.lst []), p.Hs, p.ρ⟩ μ ∧ Gr p ⟨upd p.H D (.lst []), p.Hs, p.ρ⟩ ∧ DAt K ⟨upd p.H D (.lst []), p.Hs, p.ρ⟩ D [] := by
  have hs : p.Hs D = none := w.ex.free h
  have hl : D ∉ p.ρ := fun hm => by
    obtain ⟨vs, e⟩ := w.lst hm
    rw [h] at e
    cases e
  have g : Gr p ⟨upd p.H D (.lst []), p.Hs, p.ρ⟩ := ⟨fun a u e _ => Sub.new h a u e, Sub.refl _, fun a xs e n => n, ⟨[], by simp⟩, fun a m => .inl m⟩
  refine ⟨⟨fun a o e => Sub.new h a o (w.ex a o e), w.nd, w.out, w.len, fun n xs e => ?_⟩, g, ⟨⟨[], upd_same, .nil⟩, hl, hs⟩⟩
  obtain ⟨a, us, e1, e2, r⟩ := w.cel n xs e
  exact ⟨a, us, e1, Sub.new h a _ e2, r.mono g⟩
/-- one more item -/
theorem DAt.more {p q : Pt} {μ : Mu} {D : Addr} {acc : List MV} {v : V} {y : MV} (hD : p.H D = none) (g : Gr p q) (w : Wd K q μ) (d : DAt K q D acc) (r : Rp K q v y) :
    ∃ us, q.H D = some (.lst us) ∧ us.length = acc.length ∧ ∃ q' : Pt, q'.H = upd q.H D (.lst (us ++ [v])) ∧ Gr p q' ∧ Wd K q' μ ∧ DAt K q' D (acc ++ [y]) := by
  obtain ⟨us, h, ru⟩ := d.ex
  refine ⟨us, h, ru.length, ⟨upd q.H D (.lst (us ++ [v])), q.Hs, q.ρ⟩, rfl, ⟨fun a o e n => ?_, g.hx, g.ho, g.pre, g.nw⟩, w.foreign h d.nr d.ns, ⟨⟨_, upd_same, ?_⟩, d.nr, d.ns⟩⟩
  · show upd q.H D _ a = some o
    rw [upd_ne (ne_of_none e hD)]
    exact g.fr a o e n
  · exact Wd.foreign.rp_heap (ru.append (.cons r .nil))
/-- the list is done: it is held as the mirror holds it -/
theorem DAt.done {p q : Pt} {μ μ' : Mu} {b : Bool} {D : Addr} {acc : List MV} {x : MV} (hD : p.H D = none) (g : Gr p q) (w : Wd K q μ) (d : DAt K q D acc) (h : mkL b acc μ = some (x, μ')) :
    ∃ q' : Pt, q'.H = q.H ∧ Gr p q' ∧ Wd K q' μ' ∧ Rp K q' (.ref D) x := by
  obtain ⟨us, hl, ru⟩ := d.ex
  unfold mkL at h
  split at h
  · cases h
    have g2 : Gr q ⟨q.H, q.Hs, q.ρ ++ [D]⟩ ∨ True := .inr trivial
    have mono : ∀ {ws : List V} {xs : List MV}, RpAll K q ws xs → RpAll K ⟨q.H, q.Hs, q.ρ ++ [D]⟩ ws xs := fun r => rp_moreA r
    refine ⟨⟨q.H, q.Hs, q.ρ ++ [D]⟩, rfl, ⟨fun a o e n => g.fr a o e n, g.hx, g.ho, ?_, fun a m => ?_⟩, ⟨w.ex, ?_, fun a m => ?_, by simp [w.len], fun n ys e => ?_⟩, .cell (by rw [← w.len]; simp)⟩
    · obtain ⟨t, e⟩ := g.pre
      exact ⟨t ++ [D], by show q.ρ ++ [D] = _; rw [e, List.append_assoc]⟩
    · rcases List.mem_append.mp m with z | z
      · exact g.nw a z
      · rw [List.mem_singleton.mp z]
        exact .inr hD
    · refine List.nodup_append.mpr ⟨w.nd, by simp, fun a ha b hb => ?_⟩
      rw [List.mem_singleton.mp hb]
      exact fun e => d.nr (by rw [← e]; exact ha)
    · rcases List.mem_append.mp m with z | z
      · exact w.out a z
      · rw [List.mem_singleton.mp z]
        exact d.ns
    · rcases get_append_one e with e | ⟨en, ey⟩
      · obtain ⟨a, ws, e1, e2, r'⟩ := w.cel n ys e
        refine ⟨a, ws, ?_, e2, mono r'⟩
        show (q.ρ ++ [D])[n]? = some a
        rw [List.getElem?_append_left (List.getElem?_eq_some_iff.mp e1).1]
        exact e1
      · refine ⟨D, us, ?_, hl, ?_⟩
        · show (q.ρ ++ [D])[n]? = some D
          rw [en, ← w.len]
          simp
        · rw [ey]
          exact mono ru
  · cases e : allSh acc with
    | none =>
      rw [e] at h
      cases h
    | some ds =>
      rw [e] at h
      cases h
      have hs : Sub q.Hs (upd q.Hs D (.lst us)) := Sub.new d.ns
      refine ⟨⟨q.H, upd q.Hs D (.lst us), q.ρ⟩, rfl, ⟨g.fr, g.hx.trans hs, fun a xs e n => ?_, g.pre, g.nw⟩, ⟨fun a o e => ?_, w.nd, fun a m => ?_, w.len, fun n xs e => ?_⟩, .sh (.lst upd_same ((ru.dq e).mono hs))⟩
      · show upd q.Hs D _ a = none
        rw [upd_ne (ne_of_none e hD)]
        exact g.ho a xs e n
      · by_cases ha : a = D
        · subst ha
          have e' : upd q.Hs a (.lst us) a = some o := e
          rw [upd_same] at e'
          cases e'
          exact hl
        · have e' : upd q.Hs D (.lst us) a = some o := e
          rw [upd_ne ha] at e'
          exact w.ex a o e'
      · show upd q.Hs D _ a = none
        have ha : a ≠ D := fun z => d.nr (by rw [← z]; exact m)
        rw [upd_ne ha]
        exact w.out a m
      · obtain ⟨a, ws, e1, e2, r'⟩ := w.cel n xs e
        exact ⟨a, ws, e1, e2, rp_subA hs r'⟩
where
  rp_moreA {q : Pt} {D : Addr} : ∀ {ws : List V} {xs : List MV}, RpAll K q ws xs → RpAll K ⟨q.H, q.Hs, q.ρ ++ [D]⟩ ws xs
    | _, _, .nil => .nil
    | _, _, .cons h t => .cons (rp_moreV h) (rp_moreA t)
  rp_moreV {q : Pt} {D : Addr} : ∀ {v : V} {x : MV}, Rp K q v x → Rp K ⟨q.H, q.Hs, q.ρ ++ [D]⟩ v x
    | _, _, .sh h => .sh h
    | _, _, .cell h => .cell (by
        show (q.ρ ++ [D])[_]? = _
        rw [List.getElem?_append_left (List.getElem?_eq_some_iff.mp h).1]
        exact h)
    | _, _, .tp h t => .tp h (rp_moreA t)
    | _, _, .scr h => .scr h
  rp_subA {q : Pt} {G : Hp} (hs : Sub q.Hs G) : ∀ {ws : List V} {xs : List MV}, RpAll K q ws xs → RpAll K ⟨q.H, G, q.ρ⟩ ws xs
    | _, _, .nil => .nil
    | _, _, .cons h t => .cons (rp_subV hs h) (rp_subA hs t)
  rp_subV {q : Pt} {G : Hp} (hs : Sub q.Hs G) : ∀ {v : V} {x : MV}, Rp K q v x → Rp K ⟨q.H, G, q.ρ⟩ v x
    | _, _, .sh h => .sh (h.mono hs)
    | _, _, .cell h => .cell h
    | _, _, .tp h t => .tp (hs _ _ h) (rp_subA hs t)
    | _, _, .scr h => .scr (sq_mono hs h)
abbrev WF : WX := fun _ _ _ _ => False
/-- one turn of a comprehension -/
theorem comp_turn {p q : Pt} {μ μ' : Mu} {D : Addr} {σ : Sg} {δ0 : Sl} {vs : List Nat} {tg : TG} {g : MG} {tt : TT} {mt : Sl → M Bool} {te : TE} {me : Sl → M MV} {acc acc' : List MV} {v : V} {x : MV}
    (hD : p.H D = none) (gr : Gr p q) (w : Wd K q μ) (d : DAt K q D acc) (s : Sls K q (wipe σ vs) δ0) (hw : wipe (wipe σ vs) vs = wipe σ vs) (hg : PGm K vs tg g) (ht : PTm K cl WF tt mt) (he : PEm K cl WF te me) (rx : Rp K q v x)
    (e : compTurn g mt me δ0 x acc μ = some (acc', μ')) :
    tg v (wipe σ vs) q.H fun σ2 H2 => wipe σ2 vs = wipe σ vs ∧ tt σ2 H2 fun b H3 => if b = true then te σ2 H3 fun y H4 => ∃ acc, H4 D = some (.lst acc) ∧ acc.length < sizeLine ∧
        (∃ q' : Pt, q'.H = upd H4 D (.lst (acc ++ [y])) ∧ Gr p q' ∧ Wd K q' μ' ∧ DAt K q' D acc') else ∃ q' : Pt, q'.H = H3 ∧ Gr p q' ∧ Wd K q' μ' ∧ DAt K q' D acc' := by
  unfold compTurn at e
  cases e1 : g x δ0 with
  | none =>
    rw [e1] at e
    cases e
  | some δ1 =>
    rw [e1] at e
    dsimp only at e
    refine hg q μ (wipe σ vs) δ0 δ1 v x w s rx e1 _ fun σ2 s2 z2 => ⟨z2.trans hw, ?_⟩
    cases e2 : mt δ1 μ with
    | none =>
      rw [e2] at e
      cases e
    | some r2 =>
      obtain ⟨r2, μ1⟩ := r2
      rw [e2] at e
      cases r2 with
      | exc c => cases e
      | ok b =>
        refine ht σ2 δ1 q s2 μ w _ _ e2 _ fun q3 g3 w3 => fun b' hb => ?_
        subst hb
        cases b' with
        | false =>
          dsimp only at e
          cases e
          rw [if_neg Bool.false_ne_true]
          exact ⟨q3, rfl, gr.trans w g3, w3, d.mono g3⟩
        | true =>
          dsimp only at e
          rw [if_pos rfl]
          cases e3 : me δ1 μ1 with
          | none =>
            rw [e3] at e
            cases e
          | some r3 =>
            obtain ⟨r3, μ2⟩ := r3
            rw [e3] at e
            cases r3 with
            | exc c => cases e
            | ok y =>
              dsimp only at e
              split at e
              · rename_i hlen
                cases e
                refine he σ2 δ1 q3 (s2.mono g3) μ1 w3 _ _ e3 _ fun q4 g4 w4 => fun u ru => ?_
                obtain ⟨us, h4, hl4, q', eq', gq', wq', dq'⟩ := DAt.more hD ((gr.trans w g3).trans w3 g4) w4 ((d.mono g3).mono g4) ru
                exact ⟨us, h4, by rw [hl4, sizeLine_eq]; omega, q', eq', gq', wq', dq'⟩
              · cases e
theorem wipe_idem (σ : Sg) (vs : List Nat) : wipe (wipe σ vs) vs = wipe σ vs := by
  have key : ∀ (us : List Nat), (∀ u ∈ us, u ∈ vs) → wipe (wipe σ vs) us = wipe σ vs := by
    intro us
    induction us with
    | nil =>
      intro _
      rfl
    | cons u us ih =>
      intro h
      show (wipe (wipe σ vs) us).set u none = wipe σ vs
      rw [ih fun x hx => h x (List.mem_cons_of_mem _ hx)]
      apply List.ext_getElem?
      intro i
      by_cases hi : u = i
      · subst hi
        by_cases hl : u < (wipe σ vs).length
        · rw [List.getElem?_set_self hl]
          cases e : (wipe σ vs)[u]? with
          | none =>
            rw [List.getElem?_eq_none_iff] at e
            omega
          | some o =>
            cases o with
            | none => rfl
            | some y => exact absurd (h u List.mem_cons_self) (wipe_some e).2
        · rw [List.getElem?_eq_none (by simpa using hl), List.getElem?_eq_none (by simpa using hl)]
      · rw [List.getElem?_set_ne hi]
  exact key vs fun _ h => h
theorem drop_get {α : Type} {l : List α} {i : Nat} {x : α} (h : l[i]? = some x) : l.drop i = x :: l.drop (i + 1) := by
  obtain ⟨h1, h2⟩ := List.getElem?_eq_some_iff.mp h
  rw [List.drop_eq_getElem_cons h1, h2]
theorem pm_comp {wi : TI} {src : Sl → M Src} {b : Bool} {vs : List Nat} {tg : TG} {g : MG} {tt : TT} {mt : Sl → M Bool} {te : TE} {me : Sl → M MV} (hi : PIm K cl W wi src) (hg : PGm K vs tg g) (ht : PTm K cl WF tt mt) (he : PEm K cl WF te me) :
    PEm K cl W (tLc wi tg tt te vs) (mComp b src g mt me vs) := fun σ δ p s =>
  Does.bind (t := wi σ) (k := fun J H1 (Q : VK) => ∀ D, H1 D = none → ∃ W : Nat → Nat → Hp → Prop, (∃ m, W 0 m (upd H1 D (.lst []))) ∧ ∀ i m H, W i m H →
    (J.stop i H ∧ Q (V.ref D) H) ∨ (J.go i H ∧ ∃ Nx : Hp → Prop, (∀ H', Nx H' → ∃ m', m' < m ∧ W (i + 1) m' H') ∧ ∀ x H', J.yld i H x H' → tg x (wipe σ vs) H' fun σ2 H2 => wipe σ2 vs = wipe σ vs ∧ tt σ2 H2 fun b H3 =>
      if b = true then te σ2 H3 fun y H4 => ∃ acc, H4 D = some (.lst acc) ∧ acc.length < sizeLine ∧ Nx (upd H4 D (.lst (acc ++ [y]))) else Nx H3)) (hi σ δ p s) fun q gq J sr hJ => by
    intro μ w r μ' e Q hq D hD
    obtain ⟨w0, g0, d0⟩ := DAt.start w hD
    have s0 : ∀ q', Gr q q' → Sls K q' (wipe σ vs) (wipeS δ vs) := fun q' g' => (((s.mono gq).mono g').wiped vs)
    have hw := wipe_idem σ vs
    cases sr with
    | st xs =>
      dsimp only at e
      cases e1 : compL g mt me (wipeS δ vs) xs [] μ with
      | none =>
        rw [e1] at e
        cases e
      | some rr =>
        obtain ⟨accF, μF⟩ := rr
        rw [e1] at e
        have JO : ItOk K J xs q := hJ
        refine ⟨fun i m H => m = xs.length - i ∧ i ≤ xs.length ∧ ∃ (q' : Pt) (μi : Mu) (acc : List MV), q'.H = H ∧ Gr q q' ∧ Wd K q' μi ∧ DAt K q' D acc ∧ compL g mt me (wipeS δ vs) (xs.drop i) acc μi = some (accF, μF),
          ⟨_, rfl, Nat.zero_le _, _, μ, [], rfl, g0, w0, d0, e1⟩, fun i m H hW => ?_⟩
        obtain ⟨rfl, hi, q', μi, acc, rfl, g', w', d', ec⟩ := hW
        by_cases hlt : i < xs.length
        · right
          have hx : xs[i]? = some xs[i] := List.getElem?_eq_getElem hlt
          rw [drop_get hx] at ec
          unfold compL at ec
          cases e2 : compTurn g mt me (wipeS δ vs) xs[i] acc μi with
          | none =>
            rw [e2] at ec
            cases ec
          | some rr =>
            obtain ⟨acc1, μ1⟩ := rr
            rw [e2] at ec
            refine ⟨JO.go q' μi g' w' i hlt, fun H2 => ∃ q2 : Pt, q2.H = H2 ∧ Gr q q2 ∧ Wd K q2 μ1 ∧ DAt K q2 D acc1, fun H2 ⟨q2, h2, g2, w2, d2⟩ => ⟨xs.length - (i + 1), by omega, rfl, hlt, q2, μ1, acc1, h2, g2, w2, d2, ec⟩, fun v H2 hy => ?_⟩
            obtain ⟨q2, rfl, g2, w2, rx⟩ := JO.yld q' μi g' w' i _ hx v H2 hy
            have gg := g'.trans w' g2
            exact comp_turn hD gg w2 (d'.mono g2) (s0 q2 gg) hw hg ht he rx e2
        · left
          have ei : i = xs.length := by omega
          refine ⟨JO.stop q' μi g' w' i (by omega), ?_⟩
          rw [ei, List.drop_length] at ec
          unfold compL at ec
          cases ec
          dsimp only [M.mkL] at e
          cases e3 : mkL b accF μF with
          | none =>
            rw [e3] at e
            cases e
          | some rr =>
            obtain ⟨y, μ2⟩ := rr
            rw [e3] at e
            cases e
            obtain ⟨q3, h3, g3, w3, r3⟩ := DAt.done hD g' w' d' e3
            have := hq q3 g3 w3 _ r3
            rw [h3] at this
            exact this
    | dy n =>
      dsimp only at e
      cases e1 : compC g mt me (wipeS δ vs) n 100001 0 [] μ with
      | none =>
        rw [e1] at e
        cases e
      | some rr =>
        obtain ⟨accF, μF⟩ := rr
        rw [e1] at e
        obtain ⟨a, ha, rfl⟩ := hJ
        refine ⟨fun i m H => ∃ (q' : Pt) (μi : Mu) (acc : List MV), q'.H = H ∧ Gr q q' ∧ Wd K q' μi ∧ DAt K q' D acc ∧ compC g mt me (wipeS δ vs) n m i acc μi = some (accF, μF),
          ⟨_, _, μ, [], rfl, g0, w0, d0, e1⟩, fun i m H hW => ?_⟩
        obtain ⟨q', μi, acc, rfl, g', w', d', ec⟩ := hW
        cases m with
        | zero => cases ec
        | succ f =>
          unfold compC at ec
          cases e2 : μi[n]? with
          | none =>
            rw [e2] at ec
            cases ec
          | some xs =>
            rw [e2] at ec
            dsimp only at ec
            obtain ⟨a', us, h1, h2, r1⟩ := w'.cel n xs e2
            rw [g'.at ha] at h1
            cases h1
            cases e3 : xs[i]? with
            | none =>
              left
              rw [e3] at ec
              cases ec
              have hl : us.length ≤ i := by
                rw [r1.length]
                exact List.getElem?_eq_none_iff.mp e3
              refine ⟨⟨us, .of h2, hl⟩, ?_⟩
              dsimp only [M.mkL] at e
              cases e4 : mkL b accF μF with
              | none =>
                rw [e4] at e
                cases e
              | some rr =>
                obtain ⟨y, μ2⟩ := rr
                rw [e4] at e
                cases e
                obtain ⟨q3, h3, g3, w3, r3⟩ := DAt.done hD g' w' d' e4
                have := hq q3 g3 w3 _ r3
                rw [h3] at this
                exact this
            | some x =>
              right
              rw [e3] at ec
              dsimp only at ec
              obtain ⟨u, hu, ru⟩ := r1.get e3
              cases e4 : compTurn g mt me (wipeS δ vs) x acc μi with
              | none =>
                rw [e4] at ec
                cases ec
              | some rr =>
                obtain ⟨acc1, μ1⟩ := rr
                rw [e4] at ec
                refine ⟨⟨us, u, .of h2, hu⟩, fun H2 => ∃ q2 : Pt, q2.H = H2 ∧ Gr q q2 ∧ Wd K q2 μ1 ∧ DAt K q2 D acc1, fun H2 ⟨q2, h2, g2, w2, d2⟩ => ⟨f, Nat.lt_succ_self f, q2, μ1, acc1, h2, g2, w2, d2, ec⟩, fun v H2 hy => ?_⟩
                obtain ⟨rfl, hv⟩ := hy
                have ev := hv us (.of h2)
                rw [hu] at ev
                cases ev
                exact comp_turn hD g' w' d' (s0 q' g') hw hg ht he ru e4
end
end PD

set_option Elab.async false
set_option linter.all false
set_option maxRecDepth 100000
set_option maxHeartbeats 1000000
namespace PD
open PySem PySem.Spec PyProof.Rows L2

/-! ### statements -/
inductive Out where
  | nx (δ : Sl) | rt (x : MV) | bk (δ : Sl) | ct (δ : Sl) | ex (c : Nat) (δ : Sl)
abbrev MS := Sl → Mu → Option (Out × Mu)
def withV {α : Type} (m : M α) (δ : Sl) (f : α → Mu → Option (Out × Mu)) : Mu → Option (Out × Mu) := fun μ => match m μ with
  | none => none
  | some (.exc c, μ') => some (.ex c δ, μ')
  | some (.ok a, μ') => f a μ'
def mNext : MS := fun δ μ => some (.nx δ, μ)
def mSeq (a b : MS) : MS := fun δ μ => match a δ μ with
  | some (.nx δ', μ') => b δ' μ'
  | r => r
def mAsg (g : MG) (m : Sl → M MV) : MS := fun δ => withV (m δ) δ fun x μ => (g x δ).map fun δ' => (.nx δ', μ)
def mSetIx (mo mi me : Sl → M MV) : MS := fun δ => withV (me δ) δ fun v => withV (mo δ) δ fun o => withV (mi δ) δ fun i μ => match o, i with
  | .cell n, .sh (.int k) => match μ[n]? with
    | some xs => (ixN xs.length k).map fun j => (.nx δ, μ.set n (xs.set j v))
    | none => none
  | _, _ => none
def mAug (i : Nat) (f : Int → Int → Int) (m : Sl → M MV) : MS := fun δ => match δ[i]? with
  | some (some (.sh (.int a))) => withV (m δ) δ fun y μ => match y with
    | .sh (.int b) => some (.nx (δ.set i (some (.sh (.int (f a b))))), μ)
    | _ => none
  | _ => fun _ => none
def intAt (n : Nat) (k : Int) (μ : Mu) : Option Int := match μ[n]? with
  | some xs => match atI xs k with
    | some (.sh (.int a)) => some a
    | _ => none
  | none => none
def mAugS (f : Int → Int → Int) (mo mi me : Sl → M MV) : MS := fun δ => withV (mo δ) δ fun o => withV (mi δ) δ fun i μ => match o, i with
  | .cell n, .sh (.int k) => match intAt n k μ with
    | some a => withV (me δ) δ (fun y μ' => match y with
      | .sh (.int b) => match μ'[n]? with
        | some xs => (ixN xs.length k).map fun j => (.nx δ, μ'.set n (xs.set j (.sh (.int (f a b)))))
        | none => none
      | _ => none) μ
    | none => none
  | _, _ => none
def mDrop (m : Sl → M MV) : MS := fun δ => withV (m δ) δ fun _ μ => some (.nx δ, μ)
def mRet (m : Sl → M MV) : MS := fun δ => withV (m δ) δ fun x μ => some (.rt x, μ)
def mRetN : MS := fun _ μ => some (.rt (.sh .none), μ)
def mIfS (c : Sl → M Bool) (a b : MS) : MS := fun δ => withV (c δ) δ fun k => if k = true then a δ else b δ
def mBreak : MS := fun δ μ => some (.bk δ, μ)
def mCont : MS := fun δ μ => some (.ct δ, μ)
def mRaise (c : Nat) : MS := fun δ μ => some (.ex c δ, μ)
def forL (g : MG) (body : MS) (ws : List Nat) : List MV → MS
  | [], δ, μ => some (.nx δ, μ)
  | x :: r, δ, μ => match g x δ with
    | none => none
    | some δ1 => match body δ1 μ with
      | some (.nx δ2, μ2) => forL g body ws r (wipeS δ2 ws) μ2
      | some (.ct δ2, μ2) => forL g body ws r (wipeS δ2 ws) μ2
      | some (.bk δ2, μ2) => some (.nx (wipeS δ2 ws), μ2)
      | o => o
def forC (g : MG) (body : MS) (ws : List Nat) (n : Nat) : Nat → Nat → MS
  | 0, _, _, _ => none
  | f + 1, i, δ, μ => match μ[n]? with
    | none => none
    | some xs => match xs[i]? with
      | none => some (.nx δ, μ)
      | some x => match g x δ with
        | none => none
        | some δ1 => match body δ1 μ with
          | some (.nx δ2, μ2) => forC g body ws n f (i + 1) (wipeS δ2 ws) μ2
          | some (.ct δ2, μ2) => forC g body ws n f (i + 1) (wipeS δ2 ws) μ2
          | some (.bk δ2, μ2) => some (.nx (wipeS δ2 ws), μ2)
          | o => o
def mFor (src : Sl → M Src) (g : MG) (body : MS) (ws : List Nat) : MS := fun δ => withV (src δ) δ fun s => match s with
  | .st xs => forL g body ws xs (wipeS δ ws)
  | .dy n => forC g body ws n 100001 0 (wipeS δ ws)
def whileL (c : Sl → M Bool) (body : MS) (ws : List Nat) : Nat → MS
  | 0, _, _ => none
  | f + 1, δ, μ => match c δ μ with
    | none => none
    | some (.exc k, μ1) => some (.ex k δ, μ1)
    | some (.ok false, μ1) => some (.nx δ, μ1)
    | some (.ok true, μ1) => match body δ μ1 with
      | some (.nx δ2, μ2) => whileL c body ws f (wipeS δ2 ws) μ2
      | some (.ct δ2, μ2) => whileL c body ws f (wipeS δ2 ws) μ2
      | some (.bk δ2, μ2) => some (.nx (wipeS δ2 ws), μ2)
      | o => o
def mWhile (N : Nat) (c : Sl → M Bool) (body : MS) (ws : List Nat) : MS := fun δ => whileL c body ws N (wipeS δ ws)

def EndS (K : PySem.W.Frag) (cl : Nat → Value) (W : WX) (D : Ends) (q : Pt) : Out → Prop
  | .nx δ => ∀ σ : Sg, Sls K q σ δ → D.nx σ q.H
  | .rt x => ∀ v, Rp K q v x → D.rt v q.H
  | .bk δ => ∀ σ : Sg, Sls K q σ δ → D.bk σ q.H
  | .ct δ => ∀ σ : Sg, Sls K q σ δ → D.ct σ q.H
  | .ex c δ => ∀ σ : Sg, Sls K q σ δ → W (cl c) none σ q.H
def SDo (K : PySem.W.Frag) (cl : Nat → Value) (W : WX) (t : Ends → Hp → Prop) (f : Mu → Option (Out × Mu)) (p : Pt) : Prop :=
  ∀ μ, Wd K p μ → ∀ r μ', f μ = some (r, μ') → ∀ D : Ends, (∀ q, Gr p q → Wd K q μ' → EndS K cl W D q r) → t D p.H
def PSm (K : PySem.W.Frag) (cl : Nat → Value) (W : WX) (ts : TS) (m : MS) : Prop := ∀ (σ : Sg) (δ : Sl) (p : Pt), Sls K p σ δ → SDo K cl W (fun D H => ts D σ H) (m δ) p

section
variable {K : PySem.W.Frag} {cl : Nat → Value} {W : WX}
theorem SDo.bind {α β : Type} {R : Pt → α → β → Prop} {σ : Sg} {δ : Sl} {t : Hp → (α → Hp → Prop) → Prop} {m : M β} {p : Pt} {k : α → Ends → Hp → Prop} {f : β → Mu → Option (Out × Mu)}
    (h : Does K cl W σ R t m p) (s : Sls K p σ δ) (hk : ∀ q, Gr p q → ∀ a b, R q a b → SDo K cl W (k a) (f b) q) : SDo K cl W (fun D H => t H fun a H1 => k a D H1) (withV m δ f) p := by
  intro μ w r μ' e D hq
  unfold withV at e
  cases e1 : m μ with
  | none =>
    rw [e1] at e
    cases e
  | some rr =>
    obtain ⟨rr, μ1⟩ := rr
    rw [e1] at e
    cases rr with
    | exc c =>
      cases e
      exact h μ w _ _ e1 _ fun q g w' => hq q g w' σ (s.mono g)
    | ok b =>
      exact h μ w _ _ e1 _ fun q g w' => fun a ra => hk q g a b ra μ1 w' r μ' e D fun q2 g2 w2 => hq q2 (g.trans w' g2) w2
theorem SDo.now {t : Ends → Hp → Prop} {o : Out} {p : Pt} (h : ∀ D, EndS K cl W D p o → t D p.H) : SDo K cl W t (fun μ => some (o, μ)) p := by
  intro μ w r μ' e D hq
  cases e
  exact h D (hq p (Gr.refl p) w)
theorem SDo.none {t : Ends → Hp → Prop} {p : Pt} : SDo K cl W t (fun _ => none) p := by
  intro μ w r μ' e
  cases e
variable {t u ts : TS} {a b m : MS} {te to ti : TE} {me mo mi : Sl → M MV} {tt : TT} {mt : Sl → M Bool}
theorem sm_next : PSm K cl W tNext mNext := fun σ δ p s => SDo.now fun D h => h σ s
theorem sm_break : PSm K cl W tBreak mBreak := fun σ δ p s => SDo.now fun D h => h σ s
theorem sm_cont : PSm K cl W tCont mCont := fun σ δ p s => SDo.now fun D h => h σ s
theorem sm_retN : PSm K cl W tRetN mRetN := fun σ δ p s => SDo.now fun D h => h _ (.sh .non)
theorem sm_raise {c : Nat} {C : Addr} (hc : cl c = .ref C) : PSm K cl W (fun _ σ H => W (.ref C) none σ H) (mRaise c) := fun σ δ p s => SDo.now fun D h => by
  have := h σ s
  rw [hc] at this
  exact this
theorem sm_seq (h1 : PSm K cl W t a) (h2 : PSm K cl W u b) : PSm K cl W (tSeq t u) (mSeq a b) := fun σ δ p s μ w r μ' e D hq => by
  unfold mSeq at e
  cases e1 : a δ μ with
  | none =>
    rw [e1] at e
    cases e
  | some rr =>
    obtain ⟨rr, μ1⟩ := rr
    rw [e1] at e
    refine h1 σ δ p s μ w _ _ e1 { D with nx := u D } fun q g w' => ?_
    cases rr with
    | nx δ' => exact fun σ' s' => h2 σ' δ' q s' μ1 w' r μ' e D fun q2 g2 w2 => hq q2 (g.trans w' g2) w2
    | rt x =>
      cases e
      exact hq q g w'
    | bk δ' =>
      cases e
      exact hq q g w'
    | ct δ' =>
      cases e
      exact hq q g w'
    | ex c δ' =>
      cases e
      exact hq q g w'
theorem sm_asg {tg : TG} {g : MG} {vs : List Nat} (he : PEm K cl W te me) (hg : PGm K vs tg g) : PSm K cl W (tAsg te tg) (mAsg g me) := fun σ δ p s =>
  SDo.bind (t := te σ) (k := fun x D H1 => tg x σ H1 D.nx) (he σ δ p s) s fun q gq x mx rx => by
    intro μ w r μ' e D hq
    cases e1 : g mx δ with
    | none =>
      rw [e1] at e
      cases e
    | some δ' =>
      rw [e1] at e
      cases e
      exact hg q μ σ δ δ' x mx w (s.mono gq) rx e1 _ fun σ' s' _ => hq q (Gr.refl q) w σ' s'
theorem sm_set {i : Nat} (he : PEm K cl W te me) : PSm K cl W (tAsg te (gName i)) (mAsg (gNameM i) me) := sm_asg (vs := [i]) he (gm_name List.mem_cons_self)
theorem sm_setIx (he : PEm K cl W te me) (ho : PEm K cl W to mo) (hi : PEm K cl W ti mi) : PSm K cl W (tAsg te (gSub to ti rSetL)) (mSetIx mo mi me) := fun σ δ p s =>
  SDo.bind (t := te σ) (k := fun v D H1 => to σ H1 fun o H2 => ti σ H2 fun i H3 => rSetL o i v H3 fun H4 => D.nx σ H4) (he σ δ p s) s fun q1 g1 v mv rv =>
  SDo.bind (t := to σ) (k := fun o D H2 => ti σ H2 fun i H3 => rSetL o i v H3 fun H4 => D.nx σ H4) (ho σ δ q1 (s.mono g1)) (s.mono g1) fun q2 g2 o mo' ro =>
  SDo.bind (t := ti σ) (k := fun i D H3 => rSetL o i v H3 fun H4 => D.nx σ H4) (hi σ δ q2 ((s.mono g1).mono g2)) ((s.mono g1).mono g2) fun q3 g3 i mi' ri => by
    intro μ w r μ' e D hq
    cases mo' with
    | cell n =>
      cases mi' with
      | sh d =>
        cases d with
        | int k =>
          dsimp only at e
          cases e1 : μ[n]? with
          | none =>
            rw [e1] at e
            cases e
          | some xs =>
            rw [e1] at e
            dsimp only at e
            cases e2 : ixN xs.length k with
            | none =>
              rw [e2] at e
              cases e
            | some j =>
              rw [e2] at e
              cases e
              have hro := ro.mono g3
              cases hro with
              | cell h =>
                obtain rfl := rp_int ri
                obtain ⟨a, us, h1, h2, h3⟩ := w.cel n xs e1
                rw [h] at h1
                cases h1
                obtain ⟨w', g'⟩ := w.setCell h (h3.set ((rv.mono g2).mono g3) j)
                exact ⟨_, us, k, j, rfl, rfl, h2, by rw [h3.length]; exact e2, hq _ g' w' σ ((((s.mono g1).mono g2).mono g3).mono g')⟩
        | _ => cases e
      | _ => cases e
    | _ => cases e
theorem sm_aug {i : Nat} {f : Int → Int → Int} (he : PEm K cl W te me) : PSm K cl W (tAug i te (ipI f)) (mAug i f me) := fun σ δ p s => by
  unfold mAug
  cases e1 : δ[i]? with
  | none => exact SDo.none
  | some o =>
    cases o with
    | none => exact SDo.none
    | some x =>
      cases x with
      | sh d =>
        cases d with
        | int a =>
          obtain ⟨v, hv, rv⟩ := s.get i _ e1
          obtain rfl := rp_int rv
          intro μ w r μ' e D hq
          refine ⟨.int a, hv, ?_⟩
          refine SDo.bind (K := K) (cl := cl) (W := W) (δ := δ) (t := te σ) (k := fun y D H1 => ipI f (.int a) y H1 fun z H2 => D.nx (σ.set i (some z)) H2) (he σ δ p s) s (fun q g y my ry => ?_) μ w r μ' e D hq
          intro μ w r μ' e D hq
          cases my with
          | sh d =>
            cases d with
            | int b =>
              cases e
              obtain rfl := rp_int ry
              exact ⟨a, b, rfl, rfl, hq q (Gr.refl q) w _ ((s.mono g).set (.sh (.int _)) i)⟩
            | _ => cases e
          | _ => cases e
        | _ => exact SDo.none
      | _ => exact SDo.none
theorem sm_augS {f : Int → Int → Int} (ho : PEm K cl W to mo) (hi : PEm K cl W ti mi) (he : PEm K cl W te me) : PSm K cl W (tAugS to ti te (rIxL K) (ipI f) rSetL) (mAugS f mo mi me) := fun σ δ p s =>
  SDo.bind (t := to σ) (k := fun o D H1 => ti σ H1 fun i H2 => rIxL K o i H2 fun x H3 => te σ H3 fun y H4 => ipI f x y H4 fun z H5 => rSetL o i z H5 fun H6 => D.nx σ H6) (ho σ δ p s) s fun q1 g1 o mo' ro =>
  SDo.bind (t := ti σ) (k := fun i D H2 => rIxL K o i H2 fun x H3 => te σ H3 fun y H4 => ipI f x y H4 fun z H5 => rSetL o i z H5 fun H6 => D.nx σ H6) (hi σ δ q1 (s.mono g1)) (s.mono g1) fun q2 g2 i mi' ri => by
    intro μ w r μ' e D hq
    cases mo' with
    | cell n =>
      cases mi' with
      | sh d =>
        cases d with
        | int k =>
          dsimp only at e
          cases e1 : intAt n k μ with
          | none =>
            rw [e1] at e
            cases e
          | some a =>
            rw [e1] at e
            dsimp only at e
            have hro := ro.mono g2
            cases hro with
            | cell h =>
              rename_i l
              obtain rfl := rp_int ri
              unfold intAt at e1
              cases e2 : μ[n]? with
              | none =>
                rw [e2] at e1
                cases e1
              | some xs =>
                rw [e2] at e1
                dsimp only at e1
                split at e1
                · rename_i a' hat
                  cases e1
                  obtain ⟨l', us, h1, h2, h3⟩ := w.cel n xs e2
                  rw [h] at h1
                  cases h1
                  obtain ⟨v, hv, rv⟩ := atI_rp h3 hat
                  obtain rfl := rp_int rv
                  refine ⟨l, us, k, .int a, rfl, rfl, .of h2, hv, ?_⟩
                  refine SDo.bind (K := K) (cl := cl) (W := W) (δ := δ) (t := te σ) (k := fun y D H4 => ipI f (.int a) y H4 fun z H5 => rSetL (.ref l) (.int k) z H5 fun H6 => D.nx σ H6) (he σ δ q2 ((s.mono g1).mono g2)) ((s.mono g1).mono g2) (fun q g y my ry => ?_) μ w r μ' e D hq
                  intro μ3 w3 r μ' e D hq
                  cases my with
                  | sh d =>
                    cases d with
                    | int b =>
                      dsimp only at e
                      obtain rfl := rp_int ry
                      cases e4 : μ3[n]? with
                      | none =>
                        rw [e4] at e
                        cases e
                      | some ys =>
                        rw [e4] at e
                        dsimp only at e
                        cases e5 : ixN ys.length k with
                        | none =>
                          rw [e5] at e
                          cases e
                        | some j =>
                          rw [e5] at e
                          cases e
                          obtain ⟨l', ws, h1', h2', h3'⟩ := w3.cel n ys e4
                          rw [g.at h] at h1'
                          cases h1'
                          obtain ⟨w', g'⟩ := w3.setCell (g.at h) (h3'.set (.sh (.int (f a b))) j)
                          exact ⟨a, b, rfl, rfl, l, ws, k, j, rfl, rfl, h2', by rw [h3'.length]; exact e5, hq _ g' w' σ ((((s.mono g1).mono g2).mono g).mono g')⟩
                    | _ => cases e
                  | _ => cases e
                · cases e1
        | _ => cases e
      | _ => cases e
    | _ => cases e
theorem sm_drop (he : PEm K cl W te me) : PSm K cl W (tDrop te) (mDrop me) := fun σ δ p s =>
  SDo.bind (t := te σ) (k := fun _ D H1 => D.nx σ H1) (he σ δ p s) s fun q g x mx rx => SDo.now fun D h => h σ (s.mono g)
theorem sm_ret (he : PEm K cl W te me) : PSm K cl W (tRet te) (mRet me) := fun σ δ p s =>
  SDo.bind (t := te σ) (k := fun x D H1 => D.rt x H1) (he σ δ p s) s fun q g x mx rx => SDo.now fun D h => h x rx
theorem sm_if (hc : PTm K cl W tt mt) (h1 : PSm K cl W t a) (h2 : PSm K cl W u b) : PSm K cl W (tIfS tt t u) (mIfS mt a b) := fun σ δ p s =>
  SDo.bind (t := tt σ) (k := fun c D H1 => if c = true then t D σ H1 else u D σ H1) (hc σ δ p s) s fun q g c c' hcc => by
    subst hcc
    cases c with
    | true =>
      rw [if_pos rfl]
      intro μ w r μ' e D hq
      show (if true = true then t D σ q.H else u D σ q.H)
      rw [if_pos rfl]
      exact h1 σ δ q (s.mono g) μ w r μ' e D hq
    | false =>
      rw [if_neg Bool.false_ne_true]
      intro μ w r μ' e D hq
      show (if false = true then t D σ q.H else u D σ q.H)
      rw [if_neg Bool.false_ne_true]
      exact h2 σ δ q (s.mono g) μ w r μ' e D hq
theorem sm_for {wi : TI} {src : Sl → M Src} {tg : TG} {g : MG} {vs ws : List Nat} (hi : PIm K cl W wi src) (hg : PGm K vs tg g) (hb : PSm K cl W ts m) : PSm K cl W (tFor wi tg ts) (mFor src g m ws) := fun σ δ p s =>
  SDo.bind (t := wi σ) (k := fun J D H1 => ∃ W : Nat → Nat → Sg → Hp → Prop, (∃ m, W 0 m σ H1) ∧ ∀ i m σ H, W i m σ H →
    (J.stop i H ∧ D.nx σ H) ∨ (J.go i H ∧ ∃ N : Sg → Hp → Prop, (∀ σ' H', N σ' H' → ∃ m', m' < m ∧ W (i + 1) m' σ' H') ∧ ∀ x H', J.yld i H x H' → tg x σ H' fun σ2 H2 => ts { D with nx := N, ct := N, bk := D.nx } σ2 H2)) (hi σ δ p s) s fun q gq J sr hJ => by
    intro μ w r μ' e D hq
    have s0 := (s.mono gq).forgets ws
    cases sr with
    | st xs =>
      dsimp only at e
      have JO : ItOk K J xs q := hJ
      refine ⟨fun i k σ' H => k = xs.length - i ∧ i ≤ xs.length ∧ ∃ (q' : Pt) (μi : Mu) (δi : Sl), q'.H = H ∧ Gr q q' ∧ Wd K q' μi ∧ Sls K q' σ' δi ∧ forL g m ws (xs.drop i) δi μi = some (r, μ'),
        ⟨_, rfl, Nat.zero_le _, q, μ, _, rfl, Gr.refl q, w, s0, e⟩, fun i k σ' H hW => ?_⟩
      obtain ⟨rfl, hi', q', μi, δi, rfl, g', w', s', ec⟩ := hW
      by_cases hlt : i < xs.length
      · right
        have hx : xs[i]? = some xs[i] := List.getElem?_eq_getElem hlt
        rw [drop_get hx] at ec
        unfold forL at ec
        cases e1 : g xs[i] δi with
        | none =>
          rw [e1] at ec
          cases ec
        | some δ1 =>
          rw [e1] at ec
          dsimp only at ec
          refine ⟨JO.go q' μi g' w' i hlt, fun σ2 H2 => ∃ (q2 : Pt) (μ2 : Mu) (δ2 : Sl), q2.H = H2 ∧ Gr q q2 ∧ Wd K q2 μ2 ∧ Sls K q2 σ2 δ2 ∧ forL g m ws (xs.drop (i + 1)) δ2 μ2 = some (r, μ'),
            fun σ2 H2 ⟨q2, μ2, δ2, h2, g2, w2, s2, e2⟩ => ⟨xs.length - (i + 1), by omega, rfl, hlt, q2, μ2, δ2, h2, g2, w2, s2, e2⟩, fun v H2 hy => ?_⟩
          obtain ⟨q2, rfl, g2, w2, rx⟩ := JO.yld q' μi g' w' i _ hx v H2 hy
          have gg := g'.trans w' g2
          refine hg q2 μi σ' δi δ1 v _ w2 (s'.mono g2) rx e1 _ fun σ3 s3 _ => ?_
          cases e2 : m δ1 μi with
          | none =>
            rw [e2] at ec
            cases ec
          | some rr =>
            obtain ⟨rr, μ3⟩ := rr
            rw [e2] at ec
            refine hb σ3 δ1 q2 s3 μi w2 _ _ e2 _ fun q4 g4 w4 => ?_
            have g5 := gg.trans w2 g4
            cases rr with
            | nx δ2 => exact fun σ4 s4 => ⟨q4, μ3, _, rfl, g5, w4, s4.forgets ws, ec⟩
            | ct δ2 => exact fun σ4 s4 => ⟨q4, μ3, _, rfl, g5, w4, s4.forgets ws, ec⟩
            | bk δ2 =>
              cases ec
              exact fun σ4 s4 => hq q4 g5 w4 σ4 (s4.forgets ws)
            | rt x =>
              cases ec
              exact hq q4 g5 w4
            | ex c δ2 =>
              cases ec
              exact hq q4 g5 w4
      · left
        have ei : i = xs.length := by omega
        refine ⟨JO.stop q' μi g' w' i (by omega), ?_⟩
        rw [ei, List.drop_length] at ec
        unfold forL at ec
        cases ec
        exact hq q' g' w' σ' s'
    | dy n =>
      dsimp only at e
      obtain ⟨a, ha, rfl⟩ := hJ
      refine ⟨fun i k σ' H => ∃ (q' : Pt) (μi : Mu) (δi : Sl), q'.H = H ∧ Gr q q' ∧ Wd K q' μi ∧ Sls K q' σ' δi ∧ forC g m ws n k i δi μi = some (r, μ'),
        ⟨_, q, μ, _, rfl, Gr.refl q, w, s0, e⟩, fun i k σ' H hW => ?_⟩
      obtain ⟨q', μi, δi, rfl, g', w', s', ec⟩ := hW
      cases k with
      | zero => cases ec
      | succ f =>
        unfold forC at ec
        cases e0 : μi[n]? with
        | none =>
          rw [e0] at ec
          cases ec
        | some xs =>
          rw [e0] at ec
          dsimp only at ec
          obtain ⟨a', us, h1, h2, r1⟩ := w'.cel n xs e0
          rw [g'.at ha] at h1
          cases h1
          cases ex : xs[i]? with
          | none =>
            left
            rw [ex] at ec
            cases ec
            refine ⟨⟨us, .of h2, ?_⟩, hq q' g' w' σ' s'⟩
            rw [r1.length]
            exact List.getElem?_eq_none_iff.mp ex
          | some x =>
            right
            rw [ex] at ec
            dsimp only at ec
            obtain ⟨u, hu, ru⟩ := r1.get ex
            cases e1 : g x δi with
            | none =>
              rw [e1] at ec
              cases ec
            | some δ1 =>
              rw [e1] at ec
              dsimp only at ec
              refine ⟨⟨us, u, .of h2, hu⟩, fun σ2 H2 => ∃ (q2 : Pt) (μ2 : Mu) (δ2 : Sl), q2.H = H2 ∧ Gr q q2 ∧ Wd K q2 μ2 ∧ Sls K q2 σ2 δ2 ∧ forC g m ws n f (i + 1) δ2 μ2 = some (r, μ'),
                fun σ2 H2 ⟨q2, μ2, δ2, h2, g2, w2, s2, e2⟩ => ⟨f, Nat.lt_succ_self f, q2, μ2, δ2, h2, g2, w2, s2, e2⟩, fun v H2 hy => ?_⟩
              obtain ⟨rfl, hv⟩ := hy
              have ev := hv us (.of h2)
              rw [hu] at ev
              cases ev
              refine hg q' μi σ' δi δ1 _ _ w' s' ru e1 _ fun σ3 s3 _ => ?_
              cases e2 : m δ1 μi with
              | none =>
                rw [e2] at ec
                cases ec
              | some rr =>
                obtain ⟨rr, μ3⟩ := rr
                rw [e2] at ec
                refine hb σ3 δ1 q' s3 μi w' _ _ e2 _ fun q4 g4 w4 => ?_
                have g5 := g'.trans w' g4
                cases rr with
                | nx δ2 => exact fun σ4 s4 => ⟨q4, μ3, _, rfl, g5, w4, s4.forgets ws, ec⟩
                | ct δ2 => exact fun σ4 s4 => ⟨q4, μ3, _, rfl, g5, w4, s4.forgets ws, ec⟩
                | bk δ2 =>
                  cases ec
                  exact fun σ4 s4 => hq q4 g5 w4 σ4 (s4.forgets ws)
                | rt x =>
                  cases ec
                  exact hq q4 g5 w4
                | ex c δ2 =>
                  cases ec
                  exact hq q4 g5 w4
theorem sm_while {N : Nat} {ws : List Nat} (hc : PTm K cl W tt mt) (hb : PSm K cl W ts m) : PSm K cl W (tWhile tt ts) (mWhile N mt m ws) := fun σ δ p s => by
  intro μ w r μ' e D hq
  refine ⟨fun k σ' H => ∃ (q' : Pt) (μi : Mu) (δi : Sl), q'.H = H ∧ Gr p q' ∧ Wd K q' μi ∧ Sls K q' σ' δi ∧ whileL mt m ws k δi μi = some (r, μ'),
    ⟨_, p, μ, _, rfl, Gr.refl p, w, s.forgets ws, e⟩, fun k σ' H hW => ?_⟩
  obtain ⟨q', μi, δi, rfl, g', w', s', ec⟩ := hW
  cases k with
  | zero => cases ec
  | succ f =>
    unfold whileL at ec
    cases e1 : mt δi μi with
    | none =>
      rw [e1] at ec
      cases ec
    | some rr =>
      obtain ⟨rr, μ1⟩ := rr
      rw [e1] at ec
      refine hc σ' δi q' s' μi w' _ _ e1 _ fun q1 g1 w1 => ?_
      have gg := g'.trans w' g1
      cases rr with
      | exc c =>
        cases ec
        exact hq q1 gg w1 σ' (s'.mono g1)
      | ok b =>
        intro b' hb'
        subst hb'
        cases b' with
        | false =>
          cases ec
          rw [if_neg Bool.false_ne_true]
          exact hq q1 gg w1 σ' (s'.mono g1)
        | true =>
          dsimp only at ec
          rw [if_pos rfl]
          cases e2 : m δi μ1 with
          | none =>
            rw [e2] at ec
            cases ec
          | some rr =>
            obtain ⟨rr, μ2⟩ := rr
            rw [e2] at ec
            refine ⟨fun σ2 H2 => ∃ (q2 : Pt) (μ2 : Mu) (δ2 : Sl), q2.H = H2 ∧ Gr p q2 ∧ Wd K q2 μ2 ∧ Sls K q2 σ2 δ2 ∧ whileL mt m ws f δ2 μ2 = some (r, μ'),
              fun σ2 H2 ⟨q2, μ2, δ2, h2, g2, w2, s2, e2⟩ => ⟨f, Nat.lt_succ_self f, q2, μ2, δ2, h2, g2, w2, s2, e2⟩, ?_⟩
            refine hb σ' δi q1 (s'.mono g1) μ1 w1 _ _ e2 _ fun q4 g4 w4 => ?_
            have g5 := gg.trans w1 g4
            cases rr with
            | nx δ2 => exact fun σ4 s4 => ⟨q4, μ2, _, rfl, g5, w4, s4.forgets ws, ec⟩
            | ct δ2 => exact fun σ4 s4 => ⟨q4, μ2, _, rfl, g5, w4, s4.forgets ws, ec⟩
            | bk δ2 =>
              cases ec
              exact fun σ4 s4 => hq q4 g5 w4 σ4 (s4.forgets ws)
            | rt x =>
              cases ec
              exact hq q4 g5 w4
            | ex c δ2 =>
              cases ec
              exact hq q4 g5 w4
end
end PD

set_option Elab.async false
set_option linter.all false
set_option maxRecDepth 100000
set_option maxHeartbeats 1000000
namespace PD
open PySem PySem.Spec PyProof.Rows L2

/-! ### defs -/
def startM (N : Nat) (xs : List MV) : Sl := xs.map some ++ List.replicate (N - xs.length) none
/-- a def whose parameters may be cells -/
def bodyI (N : Nat) (m : MS) : List MV → M MV := fun xs μ => match m (startM N xs) μ with
  | some (.nx _, μ') => some (.ok (.sh .none), μ')
  | some (.rt x, μ') => some (.ok x, μ')
  | some (.ex c _, μ') => some (.exc c, μ')
  | _ => none
/-- a def of data -/
def bodyP (N : Nat) (m : MS) : List MV → Option (Res PyData) := fun xs => match m (startM N xs) [] with
  | some (.nx _, _) => some (.ok .none)
  | some (.rt x, μ') => (peek 8 μ' x).map .ok
  | some (.ex c _, _) => some (.exc c)
  | _ => none
def spI (K : PySem.W.Frag) (cl : Nat → Value) (k : Nat) (f : List MV → M MV) : Sp := fun vs H Q E => vs.length = k ∧ ∃ (p : Pt) (μ : Mu) (xs : List MV) (r : Res MV) (μ' : Mu), p.H = H ∧ Wd K p μ ∧ RpAll K p vs xs ∧ f xs μ = some (r, μ') ∧
  ∀ q, Gr p q → Wd K q μ' → match r with
    | .ok x => ∀ v, Rp K q v x → Q v q.H
    | .exc c => E (cl c) none q.H
def spP (K : PySem.W.Frag) (cl : Nat → Value) (k : Nat) (f : List MV → Option (Res PyData)) : Sp := fun vs H Q E => vs.length = k ∧ ∃ (Hs : Hp) (xs : List MV) (r : Res PyData), Sub Hs H ∧ RpAll K ⟨H, Hs, []⟩ vs xs ∧ f xs = some r ∧
  ∀ q : Pt, Gr ⟨H, Hs, []⟩ q → Sub q.Hs q.H → q.ρ = [] → match r with
    | .ok d => ∀ v, Dq q.Hs v d → Q v q.H
    | .exc c => E (cl c) none q.H
section
variable {K : PySem.W.Frag} {cl : Nat → Value}
theorem start_sls {p : Pt} {N : List Str} {vs : List V} {xs : List MV} (r : RpAll K p vs xs) : Sls K p (L2.start N vs) (startM N.length xs) := by
  have e := r.length
  refine ⟨by simp [L2.start, startM, e], fun i x h => ?_⟩
  unfold startM at h
  unfold L2.start
  by_cases hi : i < xs.length
  · rw [List.getElem?_append_left (by simpa using hi), List.getElem?_map] at h
    cases e1 : xs[i]? with
    | none =>
      rw [e1] at h
      cases h
    | some y =>
      rw [e1] at h
      cases h
      obtain ⟨v, hv, rv⟩ := r.get e1
      refine ⟨v, ?_, rv⟩
      rw [List.getElem?_append_left (by simpa [e] using hi), List.getElem?_map, hv]
      rfl
  · rw [List.getElem?_append_right (by simpa using hi)] at h
    rw [List.getElem?_replicate] at h
    split at h <;> cases h
theorem body_i {N : List Str} {k n : Nat} {t : TS} {m : MS} {vs : List V} {H : Hp} {Q : VK} {E : XK} (hn : N.length = n) (hb : PSm K cl (fun cls d _ H => E cls d H) t m) (h : spI K cl k (bodyI n m) vs H Q E) :
    t { nx := fun _ H' => Q .non H', rt := Q } (L2.start N vs) H := by
  obtain ⟨_, p, μ, xs, r, μ', rfl, w, rx, e, hq⟩ := h
  unfold bodyI at e
  subst hn
  cases e1 : m (startM N.length xs) μ with
  | none =>
    rw [e1] at e
    cases e
  | some rr =>
    obtain ⟨o, μ1⟩ := rr
    rw [e1] at e
    refine hb (L2.start N vs) _ p (start_sls rx) μ w o μ1 e1 _ fun q g w' => ?_
    cases o with
    | nx δ =>
      cases e
      exact fun σ s => hq q g w' _ (.sh .non)
    | rt x =>
      cases e
      exact fun v r => hq q g w' v r
    | ex c δ =>
      cases e
      exact fun σ s => hq q g w'
    | bk δ => cases e
    | ct δ => cases e
open Classical in
/-- what a callee of data leaves of the heap: all but the caller's own lists -/
noncomputable def heapP (H Hs G : Hp) : Hp := fun a => if (∃ xs, H a = some (.lst xs)) ∧ Hs a = none then none else G a
theorem heapP_gr {H Hs : Hp} {q : Pt} (g : Gr ⟨H, Hs, []⟩ q) (hs : Sub Hs H) : Gr ⟨H, Hs, []⟩ ⟨q.H, heapP H Hs q.H, []⟩ := by
  refine ⟨g.fr, fun a o e => ?_, fun a xs e n => ?_, ⟨[], rfl⟩, fun a m => by cases m⟩
  · show heapP H Hs q.H a = some o
    unfold heapP
    rw [if_neg (fun z => by
      have e' : Hs a = some o := e
      rw [z.2] at e'
      cases e')]
    exact g.fr a o (hs a o e) (by simp)
  · show heapP H Hs q.H a = none
    unfold heapP
    exact if_pos ⟨⟨xs, e⟩, n⟩
theorem heapP_sub {H Hs G : Hp} : Sub (heapP H Hs G) G := fun a o e => by
  unfold heapP at e
  split at e
  · cases e
  · exact e
theorem body_p {N : List Str} {k n : Nat} {t : TS} {m : MS} {vs : List V} {H : Hp} {Q : VK} {E : XK} (hn : N.length = n) (hb : PSm K cl (fun cls d _ H => E cls d H) t m) (h : spP K cl k (bodyP n m) vs H Q E) :
    t { nx := fun _ H' => Q .non H', rt := Q } (L2.start N vs) H := by
  obtain ⟨_, Hs, xs, r, hsub, rx, e, hq⟩ := h
  unfold bodyP at e
  subst hn
  have w : Wd K ⟨H, Hs, []⟩ [] := ⟨hsub, List.nodup_nil, fun a m => (by cases m), rfl, fun n ys e => (by simp at e)⟩
  cases e1 : m (startM N.length xs) [] with
  | none =>
    rw [e1] at e
    cases e
  | some rr =>
    obtain ⟨o, μ1⟩ := rr
    rw [e1] at e
    refine hb (L2.start N vs) _ ⟨H, Hs, []⟩ (start_sls rx) [] w o μ1 e1 _ fun q g w' => ?_
    have g2 := heapP_gr g hsub
    have key := hq ⟨q.H, heapP H Hs q.H, []⟩ g2 heapP_sub rfl
    cases o with
    | nx δ =>
      cases e
      exact fun σ s => key _ .non
    | rt x =>
      dsimp only at e
      cases e2 : peek 8 μ1 x with
      | none =>
        rw [e2] at e
        cases e
      | some d =>
        rw [e2] at e
        cases e
        refine fun v rv => key v ?_
        refine peek_ok (G := heapP H Hs q.H) w' (fun a o ea => ?_) (fun a ha o ea => ?_) 8 v x d rv e2
        · unfold heapP
          rw [if_neg]
          · exact w'.ex a o ea
          · rintro ⟨⟨ys, hy⟩, hn⟩
            rw [g.ho a ys hy hn] at ea
            cases ea
        · unfold heapP
          rw [if_neg]
          · exact ea
          · rintro ⟨⟨ys, hy⟩, hn⟩
            rcases g.nw a ha with z | z
            · cases z
            · have z' : H a = none := z
              rw [z'] at hy
              cases hy
    | ex c δ =>
      cases e
      exact fun σ s => key
    | bk δ => cases e
    | ct δ => cases e

/-! ### calls of own defs -/
variable {W : WX} {ta : TA} {ma : Sl → M (List MV)}
def mCallI (k : Nat) (f : List MV → M MV) (ma : Sl → M (List MV)) : Sl → M MV := fun δ => (ma δ).bind fun xs => if xs.length = k then f xs else fun _ => none
theorem pm_callI {k : Nat} {f : List MV → M MV} (ha : PAm K cl W ta ma) : PEm K cl W (tCallS (spI K cl k f) (WE W) ta) (mCallI k f ma) := fun σ δ p s =>
  Does.bind (t := ta σ) (k := fun vs H1 Q => spI K cl k f vs H1 Q (WE W σ)) (ha σ δ p s) fun q g vs xs rs => Does.if fun hk => by
    intro μ w r μ' e Q hq
    refine ⟨by rw [rs.length]; exact hk, q, μ, xs, r, μ', rfl, w, rs, e, fun q2 g2 w2 => ?_⟩
    cases r with
    | ok x => exact fun v rv => hq q2 g2 w2 v rv
    | exc c => exact hq q2 g2 w2
/-- without cells -/
def cf : MV → Bool
  | .sh _ => true
  | .scr _ => true
  | _ => false
def liftR : Option (Res PyData) → M MV := fun o μ => match o with
  | some (.ok d) => some (.ok (.sh d), μ)
  | some (.exc c) => some (.exc c, μ)
  | none => none
def mCallP (k : Nat) (f : List MV → Option (Res PyData)) (ma : Sl → M (List MV)) : Sl → M MV := fun δ => (ma δ).bind fun xs => if xs.length = k ∧ xs.all cf = true then liftR (f xs) else fun _ => none
theorem cf_rp {H Hs : Hp} {p : Pt} (h : p.Hs = Hs) : ∀ {vs : List V} {xs : List MV}, RpAll K p vs xs → xs.all cf = true → RpAll K ⟨H, Hs, []⟩ vs xs
  | _, _, .nil, _ => .nil
  | _, _, .cons (x := x) r t, e => by
    rw [List.all_cons, Bool.and_eq_true] at e
    refine .cons ?_ (cf_rp h t e.2)
    cases r with
    | sh q => exact .sh (by rw [h] at q; exact q)
    | scr q => exact .scr (by rw [h] at q; exact q)
    | cell q => cases e.1
    | tp q1 q2 => cases e.1
theorem pm_callP {k : Nat} {f : List MV → Option (Res PyData)} (ha : PAm K cl W ta ma) : PEm K cl W (tCallS (spP K cl k f) (WE W) ta) (mCallP k f ma) := fun σ δ p s =>
  Does.bind (t := ta σ) (k := fun vs H1 Q => spP K cl k f vs H1 Q (WE W σ)) (ha σ δ p s) fun q g vs xs rs => Does.if fun hk => by
    intro μ w r μ' e Q hq
    unfold liftR at e
    cases e1 : f xs with
    | none =>
      rw [e1] at e
      cases e
    | some rr =>
      rw [e1] at e
      refine ⟨by rw [rs.length]; exact hk.1, q.Hs, xs, rr, w.ex, cf_rp rfl rs hk.2, e1, fun q2 g2 hs2 _ => ?_⟩
      have g3 : Gr q ⟨q2.H, q2.Hs, q.ρ⟩ := ⟨fun a o h _ => g2.fr a o h (by simp), g2.hx, g2.ho, ⟨[], by simp⟩, fun a m => .inl m⟩
      have w3 : Wd K ⟨q2.H, q2.Hs, q.ρ⟩ μ := by
        refine ⟨hs2, w.nd, fun a m => ?_, w.len, fun n ys h => ?_⟩
        · obtain ⟨us, hl⟩ := w.lst m
          exact g2.ho a us hl (w.out a m)
        · obtain ⟨a, us, h1, h2, h3⟩ := w.cel n ys h
          exact ⟨a, us, h1, g2.fr a _ h2 (by simp), h3.mono g3⟩
      cases rr with
      | ok d =>
        cases e
        exact fun v rv => hq _ g3 w3 v (.sh rv)
      | exc c =>
        cases e
        exact hq ⟨q2.H, q2.Hs, q.ρ⟩ g3 w3
/-! no list lies within -/
mutual
def flatD : PyData → Bool
  | .none => true
  | .bool _ => true
  | .int _ => true
  | .str _ => true
  | .tuple ds => flatDs ds
  | _ => false
def flatDs : List PyData → Bool
  | [] => true
  | d :: r => flatD d && flatDs r
end
mutual
theorem flat_dq {A B : Hp} (h : ∀ a vs, A a = some (.tup vs) → B a = some (.tup vs)) : ∀ {v : V} {d : PyData}, Dq A v d → flatD d = true → Dq B v d
  | _, _, .non, _ => .non
  | _, _, .bl b, _ => .bl b
  | _, _, .int i, _ => .int i
  | _, _, .str x, _ => .str x
  | _, _, .lst _ _, e => by
    unfold flatD at e
    cases e
  | _, _, .tup h1 r, e => .tup (h _ _ h1) (flat_dqs h r (by unfold flatD at e; exact e))
theorem flat_dqs {A B : Hp} (h : ∀ a vs, A a = some (.tup vs) → B a = some (.tup vs)) : ∀ {vs : List V} {ds : List PyData}, DqAll A vs ds → flatDs ds = true → DqAll B vs ds
  | _, _, .nil, _ => .nil
  | _, _, .cons h1 r, e => by
    unfold flatDs at e
    rw [Bool.and_eq_true] at e
    exact .cons (flat_dq h h1 e.1) (flat_dqs h r e.2)
end
def peekS (μ : Mu) : MV → Option MV
  | .scr ns => some (.scr ns)
  | x => (peek 8 μ x).map .sh
def peekSs (μ : Mu) : List MV → Option (List MV)
  | [] => some []
  | x :: r => match peekS μ x with
    | none => none
    | some y => (peekSs μ r).map (y :: ·)
theorem peekSs_ok {p : Pt} {μ : Mu} (w : Wd K p μ) : ∀ {vs : List V} {xs ys : List MV}, RpAll K p vs xs → peekSs μ xs = some ys → RpAll K ⟨p.H, p.H, []⟩ vs ys
  | _, _, ys, .nil, e => by
    have e' : [] = ys := Option.some.inj e
    subst e'
    exact .nil
  | _, _, ys, .cons (x := x) (xs := xs) r t, e => by
    unfold peekSs at e
    cases e1 : peekS μ x with
    | none =>
      rw [e1] at e
      cases e
    | some y =>
      rw [e1] at e
      cases e2 : peekSs μ xs with
      | none =>
        simp only [e2] at e
        cases e
      | some zs =>
        simp only [e2, Option.map_some, Option.some.injEq] at e
        subst e
        refine .cons ?_ (peekSs_ok w t e2)
        unfold peekS at e1
        split at e1
        · cases e1
          cases r with
          | scr q => exact .scr (sq_mono w.ex q)
        · cases e3 : peek 8 μ x with
          | none =>
            rw [e3] at e1
            cases e1
          | some d =>
            rw [e3] at e1
            cases e1
            exact .sh (peek_dp w r e3)
def mCallQ (k : Nat) (f : List MV → Option (Res PyData)) (ma : Sl → M (List MV)) : Sl → M MV := fun δ => (ma δ).bind fun xs => if xs.length = k then fun μ => match peekSs μ xs with
  | none => none
  | some ys => match f ys with
    | some (.ok d) => if flatD d = true then some (.ok (.sh d), μ) else none
    | some (.exc c) => some (.exc c, μ)
    | none => none else fun _ => none
def heapQ (Hs G : Hp) : Hp := fun a => match Hs a with
  | some o => some o
  | none => match G a with
    | some (.tup us) => some (.tup us)
    | _ => none
theorem pm_callQ {k : Nat} {f : List MV → Option (Res PyData)} (ha : PAm K cl W ta ma) : PEm K cl W (tCallS (spP K cl k f) (WE W) ta) (mCallQ k f ma) := fun σ δ p s =>
  Does.bind (t := ta σ) (k := fun vs H1 Q => spP K cl k f vs H1 Q (WE W σ)) (ha σ δ p s) fun q g vs xs rs => Does.if fun hk => by
    intro μ w r μ' e Q hq
    dsimp only at e
    cases e0 : peekSs μ xs with
    | none =>
      rw [e0] at e
      cases e
    | some ys =>
      rw [e0] at e
      dsimp only at e
      cases e1 : f ys with
      | none =>
        rw [e1] at e
        cases e
      | some rr =>
        rw [e1] at e
        refine ⟨by rw [rs.length]; exact hk, q.H, ys, rr, Sub.refl _, peekSs_ok w rs e0, e1, fun q2 g2 hs2 _ => ?_⟩
        have st : ∀ a o, q.H a = some o → q2.H a = some o := fun a o h => g2.fr a o h (by simp)
        have g3 : Gr q ⟨q2.H, heapQ q.Hs q2.H, q.ρ⟩ := by
          refine ⟨fun a o h _ => st a o h, fun a o h => ?_, fun a us h n => ?_, ⟨[], by simp⟩, fun a m => .inl m⟩
          · show heapQ q.Hs q2.H a = some o
            unfold heapQ
            rw [h]
          · show heapQ q.Hs q2.H a = none
            unfold heapQ
            rw [n, st a _ h]
        have w3 : Wd K ⟨q2.H, heapQ q.Hs q2.H, q.ρ⟩ μ := by
          refine ⟨fun a o h => ?_, w.nd, fun a m => ?_, w.len, fun n zs h => ?_⟩
          · have h' : heapQ q.Hs q2.H a = some o := h
            unfold heapQ at h'
            cases hh : q.Hs a with
            | some o' =>
              rw [hh] at h'
              cases h'
              exact st a _ (w.ex a _ hh)
            | none =>
              rw [hh] at h'
              dsimp only at h'
              split at h'
              · rename_i us hu
                cases h'
                exact hu
              · cases h'
          · obtain ⟨us, hl⟩ := w.lst m
            show heapQ q.Hs q2.H a = none
            unfold heapQ
            rw [w.out a m, st a _ hl]
          · obtain ⟨a, us, h1, h2, h3⟩ := w.cel n zs h
            exact ⟨a, us, h1, st a _ h2, h3.mono g3⟩
        cases rr with
        | ok d =>
          dsimp only at e
          split at e
          · rename_i hf
            cases e
            refine fun v rv => hq _ g3 w3 v (.sh (flat_dq (fun a us h => ?_) rv hf))
            show heapQ q.Hs q2.H a = some (.tup us)
            unfold heapQ
            cases hh : q.Hs a with
            | some o' =>
              have h1 := st a _ (w.ex a _ hh)
              rw [hs2 a _ h] at h1
              exact h1.symm
            | none => rw [hs2 a _ h]
          · cases e
        | exc c =>
          cases e
          exact hq ⟨q2.H, heapQ q.Hs q2.H, q.ρ⟩ g3 w3
end
end PD

set_option Elab.async false
set_option linter.all false
set_option maxRecDepth 100000
set_option maxHeartbeats 1000000
namespace PD
open PySem PySem.Spec PyProof.Rows L2
abbrev fAnyI : List MV → M MV := mIntsL fun ns => some (.bool (ns.any (· != 0)))
abbrev fSumI : List MV → M MV := mIntsL fun ns => some (.int ns.sum)
/-- the law's promise -/
def spL (K : PySem.W.Frag) (f : List MV → Option (Res PyData)) : Sp := fun vs H Q _ => ∃ (a : Addr) (ns : List Int), vs = [.ref a] ∧ SqL K H a (ns.map V.int) ∧ f [.scr ns] = some (.ok (.bool true)) ∧ ∀ H', Q (.bl true) H'
theorem spL_of {K : PySem.W.Frag} {cl : Nat → Value} {f : List MV → Option (Res PyData)} (vs : List V) (H : Hp) (Q : VK) (E : XK) (h : spL K f vs H Q E) : spP K cl 1 f vs H Q E := by
  obtain ⟨a, ns, rfl, hS, h, q⟩ := h
  exact ⟨rfl, H, [.scr ns], .ok (.bool true), Sub.refl H, .cons (.scr hS) .nil, h, fun p g s e v r => by
    cases r
    exact q _⟩
theorem cx_end {P : Program} {w : World} {H : Hp} {s : Shared} {e : Value} {s' : Shared} (h : L2.CX P w [] H s (fun _ _ _ => False) e s') : False := by
  obtain ⟨_, _, _, _, _, _, _, _, _, _, _, _, z⟩ := h
  exact z.elim
end PD

set_option Elab.async false
set_option linter.all false
set_option maxRecDepth 100000
set_option maxHeartbeats 1000000
namespace PD
open PySem PySem.W
/-! ### reckoning with the mirror -/
def S.ret (o : Out) : Mu → Option (Out × Mu) := fun μ => some (o, μ)
def S.bind (x : Mu → Option (Out × Mu)) (b : MS) : Mu → Option (Out × Mu) := fun μ => match x μ with
  | some (.nx δ', μ') => b δ' μ'
  | r => r
section
variable {α β : Type}
theorem ret_bind (a : α) (f : α → M β) : (M.ret a).bind f = f a := rfl
theorem opt_some (a : α) : M.opt (some a) = M.ret a := rfl
theorem look_some (b : β) : (M.look fun _ => some b) = M.ret b := rfl
theorem bind_assoc (x : M α) (f : α → M β) {γ : Type} (g : β → M γ) : (x.bind f).bind g = x.bind fun a => (f a).bind g := by
  funext μ
  unfold M.bind
  split
  · rename_i h
    split at h <;> first | rfl | (rename_i h2; simp_all) | simp_all
  · rename_i h
    split at h <;> first | rfl | simp_all
  · rename_i h
    split at h <;> first | rfl | simp_all
end
theorem mVar_0 {x : MV} {δ : Sl} : mVar 0 (some x :: δ) = M.ret x := rfl
theorem mVar_s {o : Option MV} {i : Nat} {δ : Sl} : mVar (i + 1) (o :: δ) = mVar i δ := rfl
theorem mC_ev {d : PyData} {δ : Sl} : mC d δ = M.ret (.sh d) := rfl
theorem mOp2_ev {f : MV → MV → M MV} {a b : Sl → M MV} {δ : Sl} : mOp2 f a b δ = (a δ).bind fun x => (b δ).bind fun y => f x y := rfl
theorem mOp1_ev {f : MV → M MV} {a : Sl → M MV} {δ : Sl} : mOp1 f a δ = (a δ).bind f := rfl
theorem mNil_ev {δ : Sl} : mNil δ = M.ret [] := rfl
theorem mCons_ev {a : Sl → M MV} {r : Sl → M (List MV)} {δ : Sl} : mCons a r δ = (a δ).bind fun x => (r δ).bind fun xs => M.ret (x :: xs) := rfl
theorem mCB_ev {f : List MV → M MV} {a : Sl → M (List MV)} {δ : Sl} : mCB f a δ = (a δ).bind f := rfl
theorem mTest_ev {a : Sl → M MV} {δ : Sl} : mTest a δ = (a δ).bind fun x => M.opt (isB x) := rfl
theorem isB_ev {b : Bool} : isB (.sh (.bool b)) = some b := rfl
theorem mAnd_ev {a b : Sl → M Bool} {δ : Sl} : mAnd a b δ = (a δ).bind fun c => if c = true then b δ else M.ret false := rfl
theorem mOr_ev {a b : Sl → M Bool} {δ : Sl} : mOr a b δ = (a δ).bind fun c => if c = true then M.ret true else b δ := rfl
theorem mNot_ev {a : Sl → M Bool} {δ : Sl} : mNot a δ = (a δ).bind fun c => M.ret (!c) := rfl
theorem mAndV_ev {a b : Sl → M MV} {δ : Sl} : mAndV a b δ = (a δ).bind fun x => (M.opt (isB x)).bind fun c => if c = true then b δ else M.ret (.sh (.bool false)) := rfl
theorem mOrV_ev {a b : Sl → M MV} {δ : Sl} : mOrV a b δ = (a δ).bind fun x => (M.opt (isB x)).bind fun c => if c = true then M.ret (.sh (.bool true)) else b δ := rfl
theorem mNotV_ev {a : Sl → M MV} {δ : Sl} : mNotV a δ = (a δ).bind fun x => (M.opt (isB x)).bind fun c => M.ret (.sh (.bool (!c))) := rfl
theorem mIf_ev {t : Sl → M Bool} {a b : Sl → M MV} {δ : Sl} : mIf t a b δ = (t δ).bind fun c => if c = true then a δ else b δ := rfl
theorem mChain_ev {f g : MV → MV → M MV} {a b c : Sl → M MV} {δ : Sl} : mChain f g a b c δ = (a δ).bind fun x => (b δ).bind fun y => (f x y).bind fun z => (M.opt (isB z)).bind fun k => if k = true then (c δ).bind fun w => g y w else M.ret (.sh (.bool false)) := rfl
theorem mTru_ev {a : Sl → M MV} {δ : Sl} : mTru a δ = (a δ).bind fun x => M.look fun μ => truM μ x := rfl
theorem truM_b {b : Bool} {μ : Mu} : truM μ (.sh (.bool b)) = some b := rfl
theorem mTup_ev {a : Sl → M (List MV)} {δ : Sl} : mTup a δ = (a δ).bind fun xs => if xs.length ≤ 1000 then M.ret (mkT xs) else fun _ => none := rfl
theorem mLst_ev {b : Bool} {a : Sl → M (List MV)} {δ : Sl} : mLst b a δ = (a δ).bind fun xs => if xs.length ≤ 100000 then M.mkL b xs else fun _ => none := rfl
theorem allSh_map : ∀ ds : List PyData, allSh (ds.map .sh) = some ds
  | [] => rfl
  | d :: r => by
    show (allSh (r.map .sh)).map (d :: ·) = _
    rw [allSh_map r]
    rfl
theorem mkL_sh (ds : List PyData) : M.mkL false (ds.map .sh) = M.ret (.sh (.list ds)) := by
  funext μ
  unfold M.mkL PD.mkL
  rw [if_neg Bool.false_ne_true, allSh_map]
  rfl
theorem mkL_nil : M.mkL false [] = M.ret (.sh (.list [])) := rfl
theorem mkL_1 {d : PyData} : M.mkL false [.sh d] = M.ret (.sh (.list [d])) := rfl
theorem mkL_2 {d e : PyData} : M.mkL false [.sh d, .sh e] = M.ret (.sh (.list [d, e])) := rfl
theorem mkL_3 {d e f : PyData} : M.mkL false [.sh d, .sh e, .sh f] = M.ret (.sh (.list [d, e, f])) := rfl
theorem mkL_4 {d e f g : PyData} : M.mkL false [.sh d, .sh e, .sh f, .sh g] = M.ret (.sh (.list [d, e, f, g])) := rfl
theorem mkT_2 {d e : PyData} : mkT [.sh d, .sh e] = .sh (.tuple [d, e]) := rfl
theorem mkT_3 {d e f : PyData} : mkT [.sh d, .sh e, .sh f] = .sh (.tuple [d, e, f]) := rfl
theorem mkT_4 {d e f g : PyData} : mkT [.sh d, .sh e, .sh f, .sh g] = .sh (.tuple [d, e, f, g]) := rfl
/-! operators on data -/
theorem mI2_ev {g : Int → Int → PyData} {i j : Int} : mI2 g (.sh (.int i)) (.sh (.int j)) = M.ret (.sh (g i j)) := rfl
theorem mI2C_ev {C : Int → Int → Bool} {g : Int → Int → PyData} {i j : Int} (h : C i j = true) : mI2C C g (.sh (.int i)) (.sh (.int j)) = M.ret (.sh (g i j)) := by
  show (if C i j = true then _ else _) = _
  rw [if_pos h]
theorem mI1_ev {g : Int → PyData} {i : Int} : mI1 g (.sh (.int i)) = M.ret (.sh (g i)) := rfl
theorem mAdd_i {b : Bool} {i j : Int} : mAdd b (.sh (.int i)) (.sh (.int j)) = M.ret (.sh (.int (i + j))) := rfl
theorem mMul_i {b : Bool} {i j : Int} (h : mulOk i j = true) : mMul b (.sh (.int i)) (.sh (.int j)) = M.ret (.sh (.int (i * j))) := by
  show (if mulOk i j = true then _ else _) = _
  rw [if_pos h]
theorem mEq_int {neg : Bool} {i j : Int} : mEq neg (.sh (.int i)) (.sh (.int j)) = M.ret (.sh (.bool (if neg = true then !decide (i = j) else decide (i = j)))) := by
  have e : PyData.eqv (.int i) (.int j) = decide (i = j) := by simp only [PyData.eqv]; exact PySem.W.beq_decide i j
  have d : (PyData.int i).depth ≤ 60 := by simp [PyData.depth]
  unfold mEq
  show (M.look fun μ => if (PyData.int i).depth ≤ 60 then some (MV.sh (.bool (if neg = true then !PyData.eqv (.int i) (.int j) else PyData.eqv (.int i) (.int j)))) else none) = _
  rw [if_pos d, e]
  rfl
theorem mEq_str {neg : Bool} {i j : Str} : mEq neg (.sh (.str i)) (.sh (.str j)) = M.ret (.sh (.bool (if neg = true then !decide (i = j) else decide (i = j)))) := by
  have e : PyData.eqv (.str i) (.str j) = decide (i = j) := by simp only [PyData.eqv]; exact PySem.W.beq_decide i j
  have d : (PyData.str i).depth ≤ 60 := by simp [PyData.depth]
  unfold mEq
  show (M.look fun μ => if (PyData.str i).depth ≤ 60 then some (MV.sh (.bool (if neg = true then !PyData.eqv (.str i) (.str j) else PyData.eqv (.str i) (.str j)))) else none) = _
  rw [if_pos d, e]
  rfl
theorem mEq_bool {neg : Bool} {i j : Bool} : mEq neg (.sh (.bool i)) (.sh (.bool j)) = M.ret (.sh (.bool (if neg = true then !decide (i = j) else decide (i = j)))) := by
  have e : PyData.eqv (.bool i) (.bool j) = decide (i = j) := by simp only [PyData.eqv]; exact PySem.W.beq_decide i j
  have d : (PyData.bool i).depth ≤ 60 := by simp [PyData.depth]
  unfold mEq
  show (M.look fun μ => if (PyData.bool i).depth ≤ 60 then some (MV.sh (.bool (if neg = true then !PyData.eqv (.bool i) (.bool j) else PyData.eqv (.bool i) (.bool j)))) else none) = _
  rw [if_pos d, e]
  rfl
/-- data with a Lean type -/
theorem mEq_dat {α : Type} [DecidableEq α] [Datum α] {neg : Bool} {a b : α} (h : Datum.depth α ≤ 60) : mEq neg (.sh (Datum.toD a)) (.sh (Datum.toD b)) = M.ret (.sh (.bool (if neg = true then !decide (a = b) else decide (a = b)))) := by
  have d : (Datum.toD a).depth ≤ 60 := Nat.le_trans (Datum.depth_le a) h
  unfold mEq
  show (M.look fun μ => if (Datum.toD a).depth ≤ 60 then some (MV.sh (.bool (if neg = true then !PyData.eqv (Datum.toD a) (Datum.toD b) else PyData.eqv (Datum.toD a) (Datum.toD b)))) else none) = _
  rw [if_pos d, Datum.eqv]
  rfl
theorem atI_map {α β : Type} (f : α → β) (xs : List α) (i : Int) : L2.atI (xs.map f) i = (L2.atI xs i).map f := by
  unfold L2.atI
  rw [List.length_map]
  cases L2.ixN xs.length i with
  | none => rfl
  | some j => exact List.getElem?_map
theorem mIx_l {ds : List PyData} {i : Int} : mIx (.sh (.list ds)) (.sh (.int i)) = M.opt ((L2.atI ds i).map .sh) := by
  funext μ
  show (L2.atI (ds.map MV.sh) i).map (fun b => (Res.ok b, μ)) = _
  rw [atI_map]
  rfl
theorem mIx_t {ds : List PyData} {i : Int} : mIx (.sh (.tuple ds)) (.sh (.int i)) = M.opt ((L2.atI ds i).map .sh) := by
  funext μ
  show (L2.atI (ds.map MV.sh) i).map (fun b => (Res.ok b, μ)) = _
  rw [atI_map]
  rfl
theorem mIx_s {ns : List Int} {i : Int} : mIx (.scr ns) (.sh (.int i)) = M.opt ((L2.atI ns i).map fun k => .sh (.int k)) := by
  funext μ
  show (L2.atI (ns.map fun k => MV.sh (.int k)) i).map (fun b => (Res.ok b, μ)) = _
  rw [atI_map]
  rfl
theorem mLen_l {ds : List PyData} : mLen [.sh (.list ds)] = M.ret (.sh (.int ds.length)) := by
  funext μ
  show some (Res.ok (MV.sh (.int (ds.map MV.sh).length)), μ) = _
  rw [List.length_map]
  rfl
theorem mLen_t {ds : List PyData} : mLen [.sh (.tuple ds)] = M.ret (.sh (.int ds.length)) := by
  funext μ
  show some (Res.ok (MV.sh (.int (ds.map MV.sh).length)), μ) = _
  rw [List.length_map]
  rfl
theorem mLen_s {ns : List Int} : mLen [.scr ns] = M.ret (.sh (.int ns.length)) := by
  funext μ
  show some (Res.ok (MV.sh (.int (ns.map fun k => MV.sh (.int k)).length)), μ) = _
  rw [List.length_map]
  rfl
theorem mI2L_ev {g : Int → Int → Int} {i j : Int} : mI2L g [.sh (.int i), .sh (.int j)] = M.ret (.sh (.int (g i j))) := rfl
theorem mIsi_ev {n : Ty} {a : Sl → M MV} {δ : Sl} : mIsi n a δ = (a δ).bind fun x => M.opt ((isiM n x).map fun b => .sh (.bool b)) := rfl
theorem liftR_ok {d : PyData} : liftR (some (.ok d)) = M.ret (.sh d) := rfl
theorem mCallP_ev {k : Nat} {f : List MV → Option (Res PyData)} {ma : Sl → M (List MV)} {δ : Sl} : mCallP k f ma δ = (ma δ).bind fun xs => if xs.length = k ∧ xs.all cf = true then liftR (f xs) else fun _ => none := rfl
/-! statements -/
theorem mSeq_ev {a b : MS} {δ : Sl} : mSeq a b δ = S.bind (a δ) b := rfl
theorem sbind_nx {δ : Sl} {b : MS} : S.bind (S.ret (.nx δ)) b = b δ := rfl
theorem sbind_rt {x : MV} {b : MS} : S.bind (S.ret (.rt x)) b = S.ret (.rt x) := rfl
theorem sbind_ct {δ : Sl} {b : MS} : S.bind (S.ret (.ct δ)) b = S.ret (.ct δ) := rfl
theorem sbind_bk {δ : Sl} {b : MS} : S.bind (S.ret (.bk δ)) b = S.ret (.bk δ) := rfl
theorem sbind_ex {c : Nat} {δ : Sl} {b : MS} : S.bind (S.ret (.ex c δ)) b = S.ret (.ex c δ) := rfl
theorem withV_ret {α : Type} {a : α} {δ : Sl} {f : α → Mu → Option (Out × Mu)} : withV (M.ret a) δ f = f a := rfl
theorem mAsg_ev {g : MG} {m : Sl → M MV} {δ : Sl} : mAsg g m δ = withV (m δ) δ fun x μ => (g x δ).map fun δ' => (.nx δ', μ) := rfl
theorem asg_some {δ' : Sl} : (fun μ : Mu => (some δ').map fun δ' => (Out.nx δ', μ)) = S.ret (.nx δ') := rfl
theorem mAsg_name {i : Nat} {m : Sl → M MV} {δ : Sl} : mAsg (gNameM i) m δ = withV (m δ) δ fun x => S.ret (.nx (δ.set i (some x))) := rfl
theorem mNext_ev {δ : Sl} : mNext δ = S.ret (.nx δ) := rfl
theorem mCont_ev {δ : Sl} : mCont δ = S.ret (.ct δ) := rfl
theorem mBreak_ev {δ : Sl} : mBreak δ = S.ret (.bk δ) := rfl
theorem mRetN_ev {δ : Sl} : mRetN δ = S.ret (.rt (.sh .none)) := rfl
theorem mRaise_ev {c : Nat} {δ : Sl} : mRaise c δ = S.ret (.ex c δ) := rfl
theorem mRet_ev {m : Sl → M MV} {δ : Sl} : mRet m δ = withV (m δ) δ fun x => S.ret (.rt x) := rfl
theorem mDrop_ev {m : Sl → M MV} {δ : Sl} : mDrop m δ = withV (m δ) δ fun _ => S.ret (.nx δ) := rfl
theorem mIfS_ev {c : Sl → M Bool} {a b : MS} {δ : Sl} : mIfS c a b δ = withV (c δ) δ fun k => if k = true then a δ else b δ := rfl
theorem bodyP_rt {N : Nat} {m : MS} {xs : List MV} {d : PyData} (h : m (startM N xs) = S.ret (.rt (.sh d))) : bodyP N m xs = some (.ok d) := by
  unfold bodyP
  rw [h]
  rfl
theorem bodyP_nx {N : Nat} {m : MS} {xs : List MV} {δ : Sl} (h : m (startM N xs) = S.ret (.nx δ)) : bodyP N m xs = some (.ok .none) := by
  unfold bodyP
  rw [h]
  rfl
theorem bodyP_ex {N : Nat} {m : MS} {xs : List MV} {c : Nat} {δ : Sl} (h : m (startM N xs) = S.ret (.ex c δ)) : bodyP N m xs = some (.exc c) := by
  unfold bodyP
  rw [h]
  rfl
theorem start_ev {N : Nat} {xs : List MV} : startM N xs = xs.map some ++ List.replicate (N - xs.length) none := rfl
end PD

set_option Elab.async false
set_option linter.all false
set_option maxRecDepth 100000
set_option maxHeartbeats 1000000
namespace PD
open PySem PySem.W
/-! ### sizes -/
def Bd (n : Nat) (i : Int) : Prop := i.natAbs < 2 ^ n
theorem Bd.mono {n m : Nat} {i : Int} (h : Bd n i) (l : n ≤ m) : Bd m i := Nat.lt_of_lt_of_le h (Nat.pow_le_pow_right (by decide) l)
theorem Bd.add {n : Nat} {i j : Int} (h : Bd n i) (k : Bd n j) : Bd (n + 1) (i + j) := by
  unfold Bd at *
  rw [Nat.pow_succ]
  omega
theorem Bd.sub {n : Nat} {i j : Int} (h : Bd n i) (k : Bd n j) : Bd (n + 1) (i - j) := by
  unfold Bd at *
  rw [Nat.pow_succ]
  omega
theorem Bd.neg {n : Nat} {i : Int} (h : Bd n i) : Bd n (-i) := by
  unfold Bd at *
  omega
theorem Bd.mul {n m : Nat} {i j : Int} (h : Bd n i) (k : Bd m j) : Bd (n + m) (i * j) := L2.wide_lt h k
theorem Bd.div {n : Nat} {i j : Int} (h : Bd n i) (hj : 0 < j) : Bd n (i / j) := by
  unfold Bd at *
  have h1 : (i / j).natAbs ≤ i.natAbs := by
    by_cases hi : i < 0
    · have : i ≤ i / j := by
        have h0 := Int.mul_ediv_add_emod i j
        have h2 := Int.emod_nonneg i (show j ≠ 0 by omega)
        have h3 := Int.emod_lt_of_pos i hj
        have h4 : i / j < 0 := Int.ediv_neg_of_neg_of_pos hi hj
        have h5 : j * (i / j) ≤ 1 * (i / j) := Int.mul_le_mul_of_nonpos_right (by omega) (by omega)
        by_cases hlt : i / j < i
        · exfalso
          have h6 : (i / j) * j ≤ (i - 1) * j := Int.mul_le_mul_of_nonneg_right (by omega) (by omega)
          have h7 : (i - 1) * j ≤ (i - 1) * 1 := Int.mul_le_mul_of_nonpos_left (by omega) (by omega)
          have h8 : j * (i / j) = (i / j) * j := Int.mul_comm _ _
          have h9 : (i - 1) * j = (i) * j - j := by rw [Int.sub_mul, Int.one_mul]
          have h10 : i * j ≤ i * 1 := Int.mul_le_mul_of_nonpos_left (by omega) (by omega)
          omega
        · omega
      have h4 : i / j < 0 := Int.ediv_neg_of_neg_of_pos hi hj
      omega
    · have h2 := Int.ediv_le_self j (show 0 ≤ i by omega)
      have h3 := Int.ediv_nonneg (show 0 ≤ i by omega) (show 0 ≤ j by omega)
      omega
  omega
theorem Bd.mod {n : Nat} {i j : Int} (h : Bd n j) (hj : 0 < j) : Bd n (i % j) := by
  unfold Bd at *
  have h2 := Int.emod_nonneg i (show j ≠ 0 by omega)
  have h3 := Int.emod_lt_of_pos i hj
  omega
theorem Bd.small {i : Int} {n : Nat} (h : i.natAbs < 1000000) (hn : 20 ≤ n) : Bd n i := Bd.mono (n := 20) (Nat.lt_trans h (by decide)) hn
theorem bd_log {n : Nat} {i : Int} (h : Bd n i) : i.natAbs.log2 ≤ n := by
  by_cases h0 : i.natAbs = 0
  · rw [h0]
    show 0 ≤ n
    omega
  · exact Nat.le_of_lt ((Nat.log2_lt h0).mpr h)
theorem bd_mul {n m : Nat} {i j : Int} (h : Bd n i) (k : Bd m j) (l : n + m ≤ 90000000) : mulOk i j = true := by
  have h1 := bd_log h
  have h2 := bd_log k
  exact decide_eq_true (by omega)
/-- a script's cell -/
theorem bd_bits {i : Int} (h : Builtin.Int.intBits i ≤ 1048576) : Bd 1048577 i := by
  unfold Builtin.Int.intBits at h
  unfold Bd
  split at h
  · rename_i h0
    rw [show i = 0 by simpa using h0]
    show 0 < _
    exact Nat.pow_pos (by decide)
  · rename_i h0
    have h1 : i.natAbs ≠ 0 := by
      intro z
      apply h0
      have : i = 0 := by omega
      simp [this]
    exact (Nat.log2_lt h1).mp (by omega)
theorem fMod_ev {i j : Int} (h : 0 < j) : fMod (.sh (.int i)) (.sh (.int j)) = M.ret (.sh (.int (i % j))) := mI2C_ev (decide_eq_true h)
theorem fDiv_ev {i j : Int} (h : 0 < j) (h2 : j < 1073741824) : fDiv (.sh (.int i)) (.sh (.int j)) = M.ret (.sh (.int (i / j))) := mI2C_ev (decide_eq_true ⟨h, h2⟩)
theorem fPow_ev {i j : Int} (h : 0 ≤ j) (h1 : j ≤ 1000) (h2 : i.natAbs < 1000) : fPow (.sh (.int i)) (.sh (.int j)) = M.ret (.sh (.int (i ^ j.toNat))) := mI2C_ev (decide_eq_true ⟨h, by omega, by omega⟩)
/-! ### items -/
theorem atI_lt {α : Type} {xs : List α} {i : Int} (h0 : 0 ≤ i) (h : i < xs.length) : L2.atI xs i = some (xs[i.toNat]'(by omega)) := by
  unfold L2.atI L2.ixN
  rw [if_pos h0, if_pos h]
  exact List.getElem?_eq_getElem _
theorem atI_0 {α : Type} {x : α} {r : List α} : L2.atI (x :: r) 0 = some x := L2.atI_nat (j := 0) rfl
theorem atI_1 {α : Type} {x y : α} {r : List α} : L2.atI (x :: y :: r) 1 = some y := L2.atI_nat (j := 1) rfl
theorem atI_2 {α : Type} {x y z : α} {r : List α} : L2.atI (x :: y :: z :: r) 2 = some z := L2.atI_nat (j := 2) rfl
theorem atI_3 {α : Type} {x y z u : α} {r : List α} : L2.atI (x :: y :: z :: u :: r) 3 = some u := L2.atI_nat (j := 3) rfl
/-! ### at a given heap -/
theorem bindA {α β : Type} {x : M α} {f : α → M β} {μ : Mu} : M.bind x f μ = match x μ with
  | none => none
  | some (.exc c, μ') => some (.exc c, μ')
  | some (.ok a, μ') => f a μ' := rfl
theorem retA {α : Type} {a : α} {μ : Mu} : M.ret a μ = some (.ok a, μ) := rfl
theorem optA {α : Type} {a : Option α} {μ : Mu} : M.opt a μ = a.map fun x => (.ok x, μ) := rfl
theorem lookA {α : Type} {g : Mu → Option α} {μ : Mu} : M.look g μ = (g μ).map fun x => (.ok x, μ) := rfl
theorem withVA {α : Type} {m : M α} {δ : Sl} {f : α → Mu → Option (Out × Mu)} {μ : Mu} : withV m δ f μ = match m μ with
  | none => none
  | some (.exc c, μ') => some (.ex c δ, μ')
  | some (.ok a, μ') => f a μ' := rfl
theorem sbindA {x : Mu → Option (Out × Mu)} {b : MS} {μ : Mu} : S.bind x b μ = match x μ with
  | some (.nx δ', μ') => b δ' μ'
  | r => r := rfl
theorem sretA {o : Out} {μ : Mu} : S.ret o μ = some (o, μ) := rfl
theorem lview_c {μ : Mu} {n : Nat} : lview μ (.cell n) = μ[n]? := rfl
theorem mIx_c {n : Nat} {i : Int} {μ : Mu} : mIx (.cell n) (.sh (.int i)) μ = match μ[n]? with
  | some xs => (L2.atI xs i).map fun b => (.ok b, μ)
  | none => none := by
  show (match μ[n]? with
    | some xs => L2.atI xs i
    | none => none).map (fun b => (Res.ok b, μ)) = _
  cases μ[n]? <;> rfl
theorem mLen_c {n : Nat} {μ : Mu} : mLen [.cell n] μ = match μ[n]? with
  | some xs => some (.ok (.sh (.int xs.length)), μ)
  | none => none := by
  show (match μ[n]? with
    | some xs => some (MV.sh (.int xs.length))
    | none => none).map (fun b => (Res.ok b, μ)) = _
  cases μ[n]? <;> rfl
theorem mCellM_ev {f : List MV → List MV → Option (MV × List MV)} {o : Sl → M MV} {a : Sl → M (List MV)} {δ : Sl} : mCellM f o a δ = (o δ).bind fun x => match x with
  | .cell n => (a δ).bind fun ys => cellStep n f ys
  | _ => fun _ => none := rfl
theorem cellStepA {n : Nat} {f : List MV → List MV → Option (MV × List MV)} {ys : List MV} {μ : Mu} : cellStep n f ys μ = match μ[n]? with
  | some xs => (f xs ys).map fun r => (.ok r.1, μ.set n r.2)
  | none => none := rfl
end PD

set_option Elab.async false
set_option linter.all false
set_option maxRecDepth 100000
set_option maxHeartbeats 1000000
namespace PD
open PySem PySem.W
/-! ### loops of the mirror -/
/-- a loop whose turns all go on, or leave by a return or an error -/
theorem forL_ind2 {g : MG} {body : MS} {ws : List Nat} {xs : List MV} {δ : Sl} {μ : Mu} (P : Nat → Sl → Mu → Prop) (R : Out → Mu → Prop) (h0 : P 0 δ μ)
    (step : ∀ (i : Nat) (x : MV) (δ : Sl) (μ : Mu), xs[i]? = some x → P i δ μ → ∃ δ1, g x δ = some δ1 ∧ ((∃ δ2 μ2, (body δ1 μ = some (.nx δ2, μ2) ∨ body δ1 μ = some (.ct δ2, μ2)) ∧ P (i + 1) (wipeS δ2 ws) μ2) ∨
      ∃ o μ2, body δ1 μ = some (o, μ2) ∧ ((∃ y, o = .rt y) ∨ ∃ c δ', o = .ex c δ') ∧ R o μ2)) :
    ∃ o μ', forL g body ws xs δ μ = some (o, μ') ∧ ((∃ δ', o = .nx δ' ∧ P xs.length δ' μ') ∨ R o μ') := by
  have key : ∀ (ys : List MV) (i : Nat) (δ : Sl) (μ : Mu), ys = xs.drop i → i + ys.length = xs.length → P i δ μ → ∃ o μ', forL g body ws ys δ μ = some (o, μ') ∧ ((∃ δ', o = .nx δ' ∧ P xs.length δ' μ') ∨ R o μ') := by
    intro ys
    induction ys with
    | nil =>
      intro i δ μ e hl h
      have ei : i = xs.length := by simpa using hl
      subst ei
      exact ⟨_, _, rfl, .inl ⟨δ, rfl, h⟩⟩
    | cons y ys ih =>
      intro i δ μ e hl h
      have hy : xs[i]? = some y := by
        have h1 : (xs.drop i)[0]? = some y := by rw [← e]; rfl
        simpa using h1
      have hr : ys = xs.drop (i + 1) := by
        rw [drop_get hy] at e
        exact (List.cons.inj e).2
      obtain ⟨δ1, e1, hh⟩ := step i y δ μ hy h
      unfold forL
      rw [e1]
      dsimp only
      rcases hh with ⟨δ2, μ2, eb, hp⟩ | ⟨o, μ2, eb, ho, hR⟩
      · have := ih (i + 1) (wipeS δ2 ws) μ2 hr (by rw [List.length_cons] at hl; omega) hp
        rcases eb with eb | eb <;> rw [eb] <;> exact this
      · rw [eb]
        rcases ho with ⟨y, rfl⟩ | ⟨c, δ', rfl⟩
        · exact ⟨_, _, rfl, .inr hR⟩
        · exact ⟨_, _, rfl, .inr hR⟩
  exact key xs 0 δ μ rfl (by simp) h0
theorem forL_ind {g : MG} {body : MS} {ws : List Nat} {xs : List MV} {δ : Sl} {μ : Mu} (P : Nat → Sl → Mu → Prop) (h0 : P 0 δ μ)
    (step : ∀ (i : Nat) (x : MV) (δ : Sl) (μ : Mu), xs[i]? = some x → P i δ μ → ∃ δ1, g x δ = some δ1 ∧ ∃ δ2 μ2, (body δ1 μ = some (.nx δ2, μ2) ∨ body δ1 μ = some (.ct δ2, μ2)) ∧ P (i + 1) (wipeS δ2 ws) μ2) :
    ∃ δ' μ', forL g body ws xs δ μ = some (.nx δ', μ') ∧ P xs.length δ' μ' := by
  obtain ⟨o, μ', e, h⟩ := forL_ind2 (g := g) (body := body) (ws := ws) (xs := xs) P (fun _ _ => False) h0 fun i x δ μ hx hp => by
    obtain ⟨δ1, e1, h2⟩ := step i x δ μ hx hp
    exact ⟨δ1, e1, .inl h2⟩
  rcases h with ⟨δ', rfl, h⟩ | h
  · exact ⟨δ', μ', e, h⟩
  · exact h.elim
/-! ### comprehensions over what does not change the heap -/
theorem compL_ret {g : MG} {te : Sl → M MV} {δ0 : Sl} {μ : Mu} (f : MV → MV) : ∀ (xs acc : List MV), acc.length + xs.length ≤ 100000 → (∀ x ∈ xs, ∃ δ1, g x δ0 = some δ1 ∧ te δ1 = M.ret (f x)) →
    compL g mYes te δ0 xs acc μ = some (acc ++ xs.map f, μ)
  | [], acc, _, _ => by simp [compL]
  | x :: r, acc, hl, h => by
    rw [List.length_cons] at hl
    obtain ⟨δ1, e1, e2⟩ := h x List.mem_cons_self
    unfold compL compTurn
    rw [e1]
    dsimp only
    show (match (match te δ1 μ with
      | some (.ok y, μ2) => if acc.length < 100000 then some (acc ++ [y], μ2) else none
      | _ => none) with
      | some (acc', μ') => compL g mYes te δ0 r acc' μ'
      | none => none) = _
    rw [e2]
    show (match (if acc.length < 100000 then some (acc ++ [f x], μ) else none) with
      | some (acc', μ') => compL g mYes te δ0 r acc' μ'
      | none => none) = _
    rw [if_pos (by omega)]
    show compL g mYes te δ0 r (acc ++ [f x]) μ = _
    rw [compL_ret f r _ (by simp; omega) fun y hy => h y (List.mem_cons_of_mem _ hy)]
    simp
theorem mComp_ret {b : Bool} {src : Sl → M Src} {g : MG} {te : Sl → M MV} {vs : List Nat} {δ : Sl} {xs : List MV} (f : MV → MV) (hs : src δ = M.ret (.st xs)) (hl : xs.length ≤ 100000)
    (h : ∀ x ∈ xs, ∃ δ1, g x (wipeS δ vs) = some δ1 ∧ te δ1 = M.ret (f x)) : mComp b src g mYes te vs δ = M.mkL b (xs.map f) := by
  unfold mComp
  rw [hs]
  show (fun μ => match compL g mYes te (wipeS δ vs) xs [] μ with
    | some (acc, μ') => M.mkL b acc μ'
    | none => none) = _
  funext μ
  rw [compL_ret f xs [] (by simpa using hl) h]
  rfl
/-- .. with values that are only known to be there -/
theorem mComp_some {b : Bool} {src : Sl → M Src} {g : MG} {te : Sl → M MV} {vs : List Nat} {δ : Sl} {xs : List MV} (P : MV → MV → Prop) (hs : src δ = M.ret (.st xs)) (hl : xs.length ≤ 100000)
    (h : ∀ x ∈ xs, ∃ δ1 y, g x (wipeS δ vs) = some δ1 ∧ te δ1 = M.ret y ∧ P x y) : ∃ f : MV → MV, (∀ x ∈ xs, P x (f x)) ∧ mComp b src g mYes te vs δ = M.mkL b (xs.map f) := by
  have hc : ∀ x : MV, ∃ y, x ∈ xs → ∃ δ1, g x (wipeS δ vs) = some δ1 ∧ te δ1 = M.ret y ∧ P x y := fun x => by
    by_cases hx : x ∈ xs
    · obtain ⟨δ1, y, h1, h2, h3⟩ := h x hx
      exact ⟨y, fun _ => ⟨δ1, h1, h2, h3⟩⟩
    · exact ⟨.sh .none, fun z => absurd z hx⟩
  refine ⟨fun x => Classical.choose (hc x), fun x hx => ?_, mComp_ret _ hs hl fun x hx => ?_⟩
  · obtain ⟨_, _, _, h3⟩ := Classical.choose_spec (hc x) hx
    exact h3
  · obtain ⟨δ1, h1, h2, _⟩ := Classical.choose_spec (hc x) hx
    exact ⟨δ1, h1, h2⟩
/-- new lists, one a turn -/
theorem compL_cells {g : MG} {te : Sl → M MV} {δ0 : Sl} : ∀ (xs acc : List MV) (μ : Mu), acc.length + xs.length ≤ 100000 → (∀ x ∈ xs, ∃ δ1, g x δ0 = some δ1 ∧ te δ1 = M.mkL true []) →
    compL g mYes te δ0 xs acc μ = some (acc ++ (List.range xs.length).map (fun i => MV.cell (μ.length + i)), μ ++ List.replicate xs.length [])
  | [], acc, μ, _, _ => by simp [compL]
  | x :: r, acc, μ, hl, h => by
    rw [List.length_cons] at hl
    obtain ⟨δ1, e1, e2⟩ := h x List.mem_cons_self
    unfold compL compTurn
    rw [e1]
    dsimp only
    show (match (match te δ1 μ with
      | some (.ok y, μ2) => if acc.length < 100000 then some (acc ++ [y], μ2) else none
      | _ => none) with
      | some (acc', μ') => compL g mYes te δ0 r acc' μ'
      | none => none) = _
    rw [e2]
    show (match (if acc.length < 100000 then some (acc ++ [MV.cell μ.length], μ ++ [[]]) else none) with
      | some (acc', μ') => compL g mYes te δ0 r acc' μ'
      | none => none) = _
    rw [if_pos (by omega)]
    show compL g mYes te δ0 r (acc ++ [MV.cell μ.length]) (μ ++ [[]]) = _
    rw [compL_cells r _ _ (by simp; omega) fun y hy => h y (List.mem_cons_of_mem _ hy)]
    simp only [List.length_append, List.length_cons, List.length_nil, List.append_assoc, List.cons_append, List.nil_append, List.range_succ_eq_map, List.map_cons, List.map_map, List.replicate_succ]
    congr 3
    · congr 1
      apply List.map_congr_left
      intro a _
      simp only [Function.comp]
      congr 1
      omega
end PD

set_option Elab.async false
set_option linter.all false
set_option maxRecDepth 100000
set_option maxHeartbeats 1000000
namespace PD
open PySem PySem.W
/-! ### steps at a given heap -/
section
variable {a b : MS} {δ δ' : Sl} {μ μ' : Mu} {x : MV} {m : Sl → M MV} {i : Nat} {c : Sl → M Bool} {src : Sl → M Src} {g : MG} {ws : List Nat} {xs : List MV}
theorem at_ret {α : Type} {m : Sl → M α} {x : α} (h : m δ = M.ret x) : m δ μ = some (.ok x, μ) := by rw [h]; rfl
theorem seq_nx (h : a δ μ = some (.nx δ', μ')) : mSeq a b δ μ = b δ' μ' := by
  unfold mSeq
  rw [h]
theorem seq_rt (h : a δ μ = some (.rt x, μ')) : mSeq a b δ μ = some (.rt x, μ') := by
  unfold mSeq
  rw [h]
theorem seq_ct (h : a δ μ = some (.ct δ', μ')) : mSeq a b δ μ = some (.ct δ', μ') := by
  unfold mSeq
  rw [h]
theorem seq_ex {k : Nat} (h : a δ μ = some (.ex k δ', μ')) : mSeq a b δ μ = some (.ex k δ', μ') := by
  unfold mSeq
  rw [h]
theorem asg_at (h : m δ μ = some (.ok x, μ')) : mAsg (gNameM i) m δ μ = some (.nx (δ.set i (some x)), μ') := by
  unfold mAsg withV
  rw [h]
  rfl
theorem asgG_at {g : MG} (h : m δ μ = some (.ok x, μ')) (hg : g x δ = some δ') : mAsg g m δ μ = some (.nx δ', μ') := by
  unfold mAsg withV
  rw [h]
  show (g x δ).map _ = _
  rw [hg]
  rfl
theorem drop_at (h : m δ μ = some (.ok x, μ')) : mDrop m δ μ = some (.nx δ, μ') := by
  unfold mDrop withV
  rw [h]
theorem ret_at (h : m δ μ = some (.ok x, μ')) : mRet m δ μ = some (.rt x, μ') := by
  unfold mRet withV
  rw [h]
theorem if_t (h : c δ μ = some (.ok true, μ')) : mIfS c a b δ μ = a δ μ' := by
  unfold mIfS withV
  rw [h]
  rfl
theorem if_f (h : c δ μ = some (.ok false, μ')) : mIfS c a b δ μ = b δ μ' := by
  unfold mIfS withV
  rw [h]
  rfl
theorem if_b {k : Bool} (h : c δ μ = some (.ok k, μ')) : mIfS c a b δ μ = if k = true then a δ μ' else b δ μ' := by
  cases k
  · exact if_f h
  · exact if_t h
theorem for_st {body : MS} (h : src δ μ = some (.ok (.st xs), μ')) : mFor src g body ws δ μ = forL g body ws xs (wipeS δ ws) μ' := by
  unfold mFor withV
  rw [h]
theorem for_dy {body : MS} {n : Nat} (h : src δ μ = some (.ok (.dy n), μ')) : mFor src g body ws δ μ = forC g body ws n 100001 0 (wipeS δ ws) μ' := by
  unfold mFor withV
  rw [h]
theorem next_at : mNext δ μ = some (.nx δ, μ) := rfl
theorem cont_at : mCont δ μ = some (.ct δ, μ) := rfl
end
end PD

set_option Elab.async false
set_option linter.all false
set_option maxRecDepth 100000
set_option maxHeartbeats 1000000
namespace PD
open PySem PySem.W
/-- a comprehension over a cell that its turns leave as it is -/
theorem compC_ret {g : MG} {te : Sl → M MV} {δ0 : Sl} {μ : Mu} {n : Nat} {xs : List MV} (f : MV → MV) (hn : μ[n]? = some xs) (h : ∀ x ∈ xs, ∃ δ1, g x δ0 = some δ1 ∧ te δ1 μ = some (.ok (f x), μ)) :
    ∀ (k i : Nat) (acc : List MV), i ≤ xs.length → xs.length - i < k → acc.length + xs.length ≤ 100000 + i → compC g mYes te δ0 n k i acc μ = some (acc ++ (xs.drop i).map f, μ)
  | 0, i, acc, _, hk, _ => by omega
  | k + 1, i, acc, hi, hk, hl => by
    unfold compC
    rw [hn]
    dsimp only
    by_cases hlt : i < xs.length
    · have hx : xs[i]? = some xs[i] := List.getElem?_eq_getElem hlt
      rw [hx]
      dsimp only
      obtain ⟨δ1, e1, e2⟩ := h xs[i] (List.getElem_mem hlt)
      unfold compTurn
      rw [e1]
      dsimp only
      show (match (match te δ1 μ with
        | some (.ok y, μ2) => if acc.length < 100000 then some (acc ++ [y], μ2) else none
        | _ => none) with
        | some (acc', μ') => compC g mYes te δ0 n k (i + 1) acc' μ'
        | none => none) = _
      rw [e2]
      dsimp only
      rw [if_pos (by omega)]
      dsimp only
      rw [compC_ret f hn h k (i + 1) _ hlt (by omega) (by simp; omega), drop_get hx, List.map_cons, List.append_assoc]
      rfl
    · have ei : i = xs.length := by omega
      rw [List.getElem?_eq_none (by omega)]
      dsimp only
      rw [ei, List.drop_length]
      simp
theorem mComp_dy {b : Bool} {src : Sl → M Src} {g : MG} {te : Sl → M MV} {vs : List Nat} {δ : Sl} {μ : Mu} {n : Nat} {xs : List MV} (f : MV → MV) (hs : src δ μ = some (.ok (.dy n), μ)) (hn : μ[n]? = some xs) (hl : xs.length ≤ 100000)
    (h : ∀ x ∈ xs, ∃ δ1, g x (wipeS δ vs) = some δ1 ∧ te δ1 μ = some (.ok (f x), μ)) : mComp b src g mYes te vs δ μ = M.mkL b (xs.map f) μ := by
  unfold mComp
  rw [bindA, hs]
  dsimp only
  rw [compC_ret f hn h 100001 0 [] (Nat.zero_le _) (by omega) (by simp; omega)]
  simp
theorem mEq_at {α : Type} [DecidableEq α] [Datum α] {neg : Bool} {a b : α} {x y : MV} {μ : Mu} (hx : peek 8 μ x = some (Datum.toD a)) (hy : peek 8 μ y = some (Datum.toD b)) (h : Datum.depth α ≤ 60) :
    mEq neg x y μ = some (.ok (.sh (.bool (if neg = true then !decide (a = b) else decide (a = b)))), μ) := by
  have d : (Datum.toD a).depth ≤ 60 := Nat.le_trans (Datum.depth_le a) h
  unfold mEq
  rw [lookA]
  show (match peek 8 μ x, peek 8 μ y with
    | some d, some e => if d.depth ≤ 60 then some (MV.sh (.bool (if neg = true then !PyData.eqv d e else PyData.eqv d e))) else none
    | _, _ => none).map _ = _
  rw [hx, hy]
  dsimp only
  rw [if_pos d, Datum.eqv]
  rfl
theorem peek_sh {n : Nat} {μ : Mu} {d : PyData} : peek (n + 1) μ (.sh d) = some d := by
  unfold peek
  rfl
theorem peekS_sh {μ : Mu} {d : PyData} : peekS μ (.sh d) = some (.sh d) := by
  show (peek 8 μ (.sh d)).map MV.sh = _
  rw [peek_sh]
  rfl
theorem mCallQ_at {k : Nat} {f : List MV → Option (Res PyData)} {ma : Sl → M (List MV)} {δ : Sl} {μ μ' : Mu} {xs ys : List MV} {d : PyData} (ha : ma δ μ = some (.ok xs, μ')) (hk : xs.length = k) (hp : peekSs μ' xs = some ys) (hf : f ys = some (.ok d)) (hd : flatD d = true) :
    mCallQ k f ma δ μ = some (.ok (.sh d), μ') := by
  unfold mCallQ
  rw [bindA, ha]
  dsimp only
  rw [if_pos hk, hp]
  dsimp only
  rw [hf]
  dsimp only
  rw [if_pos hd]
theorem mCallI_at {k : Nat} {f : List MV → M MV} {ma : Sl → M (List MV)} {δ : Sl} {μ μ' μ2 : Mu} {xs : List MV} {x : MV} (ha : ma δ μ = some (.ok xs, μ')) (hk : xs.length = k) (hf : f xs μ' = some (.ok x, μ2)) :
    mCallI k f ma δ μ = some (.ok x, μ2) := by
  unfold mCallI
  rw [bindA, ha]
  dsimp only
  rw [if_pos hk, hf]
theorem cons_at {a : Sl → M MV} {r : Sl → M (List MV)} {δ : Sl} {μ μ1 μ2 : Mu} {x : MV} {xs : List MV} (ha : a δ μ = some (.ok x, μ1)) (hr : r δ μ1 = some (.ok xs, μ2)) : mCons a r δ μ = some (.ok (x :: xs), μ2) := by
  rw [mCons_ev, bindA, ha]
  dsimp only
  rw [bindA, hr]
  rfl
theorem nil_at {δ : Sl} {μ : Mu} : mNil δ μ = some (.ok [], μ) := rfl
theorem op2_at {f : MV → MV → M MV} {a b : Sl → M MV} {δ : Sl} {μ μ1 μ2 : Mu} {x y : MV} (ha : a δ μ = some (.ok x, μ1)) (hb : b δ μ1 = some (.ok y, μ2)) : mOp2 f a b δ μ = f x y μ2 := by
  rw [mOp2_ev, bindA, ha]
  dsimp only
  rw [bindA, hb]
theorem test_at {a : Sl → M MV} {δ : Sl} {μ μ1 : Mu} {b : Bool} (ha : a δ μ = some (.ok (.sh (.bool b)), μ1)) : mTest a δ μ = some (.ok b, μ1) := by
  rw [mTest_ev, bindA, ha]
  rfl
theorem tru_at {a : Sl → M MV} {δ : Sl} {μ μ1 : Mu} {b : Bool} (ha : a δ μ = some (.ok (.sh (.bool b)), μ1)) : mTru a δ μ = some (.ok b, μ1) := by
  rw [mTru_ev, bindA, ha]
  rfl
theorem not_at {a : Sl → M Bool} {δ : Sl} {μ μ1 : Mu} {b : Bool} (ha : a δ μ = some (.ok b, μ1)) : mNot a δ μ = some (.ok (!b), μ1) := by
  rw [mNot_ev, bindA, ha]
  rfl
theorem and_at {a b : Sl → M Bool} {δ : Sl} {μ : Mu} {x y : Bool} (ha : a δ μ = some (.ok x, μ)) (hb : x = true → b δ μ = some (.ok y, μ)) : mAnd a b δ μ = some (.ok (x && y), μ) := by
  rw [mAnd_ev, bindA, ha]
  cases x
  · rfl
  · exact hb rfl
theorem or_at {a b : Sl → M Bool} {δ : Sl} {μ : Mu} {x y : Bool} (ha : a δ μ = some (.ok x, μ)) (hb : x = false → b δ μ = some (.ok y, μ)) : mOr a b δ μ = some (.ok (x || y), μ) := by
  rw [mOr_ev, bindA, ha]
  cases x
  · exact hb rfl
  · rfl
theorem andV_at {a b : Sl → M MV} {δ : Sl} {μ : Mu} {x y : Bool} (ha : a δ μ = some (.ok (.sh (.bool x)), μ)) (hb : x = true → b δ μ = some (.ok (.sh (.bool y)), μ)) : mAndV a b δ μ = some (.ok (.sh (.bool (x && y))), μ) := by
  rw [mAndV_ev, bindA, ha]
  dsimp only [isB_ev]
  rw [bindA]
  cases x
  · rfl
  · exact hb rfl
theorem tup_at {r : Sl → M (List MV)} {δ : Sl} {μ μ1 : Mu} {xs : List MV} (h : r δ μ = some (.ok xs, μ1)) (hl : xs.length ≤ 1000) : mTup r δ μ = some (.ok (mkT xs), μ1) := by
  rw [mTup_ev, bindA, h]
  dsimp only
  rw [if_pos hl]
  rfl
theorem cb_at {f : List MV → M MV} {r : Sl → M (List MV)} {δ : Sl} {μ μ1 : Mu} {xs : List MV} (h : r δ μ = some (.ok xs, μ1)) : mCB f r δ μ = f xs μ1 := by
  rw [mCB_ev, bindA, h]
theorem isi_at {n : Ty} {a : Sl → M MV} {δ : Sl} {μ μ1 : Mu} {x : MV} {b : Bool} (h : a δ μ = some (.ok x, μ1)) (hx : isiM n x = some b) : mIsi n a δ μ = some (.ok (.sh (.bool b)), μ1) := by
  rw [mIsi_ev, bindA, h]
  dsimp only
  rw [hx]
  rfl
theorem bodyP_rt_at {N : Nat} {m : MS} {xs : List MV} {x : MV} {μ : Mu} {d : PyData} (h : m (startM N xs) [] = some (.rt x, μ)) (hp : peek 8 μ x = some d) : bodyP N m xs = some (.ok d) := by
  unfold bodyP
  rw [h]
  dsimp only
  rw [hp]
  rfl
theorem bodyI_rt_at {N : Nat} {m : MS} {xs : List MV} {x : MV} {μ μ' : Mu} (h : m (startM N xs) μ = some (.rt x, μ')) : bodyI N m xs μ = some (.ok x, μ') := by
  unfold bodyI
  rw [h]
theorem bodyI_nx_at {N : Nat} {m : MS} {xs : List MV} {δ : Sl} {μ μ' : Mu} (h : m (startM N xs) μ = some (.nx δ, μ')) : bodyI N m xs μ = some (.ok (.sh .none), μ') := by
  unfold bodyI
  rw [h]
end PD

set_option Elab.async false
set_option linter.all false
set_option maxRecDepth 100000
set_option maxHeartbeats 1000000
namespace PD
open PySem PySem.Spec PyProof.Rows L2
/-! ### texts of f-strings -/
/-- one field -/
def mFmt (m : Sl → M MV) : Sl → M MV := fun δ => (m δ).bind fun x => match x with
  | .sh (.int i) => if i.natAbs.log2 < 1920 then M.ret (.sh (.str (toString i))) else fun _ => none
  | .sh (.str y) => if y.length ≤ sizeLine then M.ret (.sh (.str y)) else fun _ => none
  | _ => fun _ => none
/-- the fields one behind the other -/
def mJoin : List (Sl → M MV) → Str → Sl → M MV
  | [], acc, _ => M.ret (.sh (.str acc))
  | m :: r, acc, δ => (m δ).bind fun x => match x with
    | .sh (.str y) => if (acc ++ y).length ≤ sizeLine then mJoin r (acc ++ y) δ else fun _ => none
    | _ => fun _ => none
section
variable {K : PySem.W.Frag} {cl : Nat → Value} {W : WX} {te : TE} {me : Sl → M MV}
theorem pm_fmt (he : PEm K cl W te me) : PEm K cl W (tFmt te) (mFmt me) := fun σ δ p s =>
  Does.bind (t := te σ) (k := fun (x : V) (H1 : Hp) (Q : V → Hp → Prop) => (∃ y : Str, x = V.str y ∧ y.length ≤ sizeLine ∧ Q (V.str y) H1) ∨ ∃ i : Int, x = V.int i ∧ i.natAbs.log2 < 1920 ∧ Q (V.str (toString i)) H1) (he σ δ p s) fun q g x mx rx => by
    intro μ w r μ' e Q hq
    split at e
    · split at e
      · rename_i h
        cases e
        exact .inr ⟨_, rp_int rx, h, hq q (Gr.refl q) w _ (.sh (.str _))⟩
      · cases e
    · split at e
      · rename_i h
        cases e
        exact .inl ⟨_, rp_str rx, h, hq q (Gr.refl q) w _ (.sh (.str _))⟩
      · cases e
    · cases e
/-- the fields' judgements -/
inductive JFm (K : PySem.W.Frag) (cl : Nat → Value) (W : WX) : List TE → List (Sl → M MV) → Prop where
  | nil : JFm K cl W [] []
  | cons {t : TE} {m : Sl → M MV} {ts : List TE} {ms : List (Sl → M MV)} (h : PEm K cl W t m) (r : JFm K cl W ts ms) : JFm K cl W (t :: ts) (m :: ms)
theorem jf_run {ts : List TE} {ms : List (Sl → M MV)} (h : JFm K cl W ts ms) : ∀ (acc : Str), PEm K cl W (fun σ H Q => tJs ts acc σ H fun out H1 => Q (.str out) H1) (mJoin ms acc) := by
  induction h with
  | nil => exact fun acc σ δ p s => Does.ret (.sh (.str _))
  | @cons t m ts ms h r ih =>
    exact fun acc σ δ p s => Does.bind (t := t σ) (k := fun (x : V) (H1 : Hp) (Q : V → Hp → Prop) => ∃ y : Str, x = V.str y ∧ (acc ++ y).length ≤ sizeLine ∧ tJs ts (acc ++ y) σ H1 fun out H2 => Q (V.str out) H2) (h σ δ p s) fun q g x mx rx => by
      intro μ w r' μ' e Q hq
      split at e
      · split at e
        · rename_i hl
          exact ⟨_, rp_str rx, hl, ih _ σ δ q (s.mono g) μ w r' μ' e Q hq⟩
        · cases e
      · cases e
theorem pm_join {ts : List TE} {ms : List (Sl → M MV)} (h : JFm K cl W ts ms) : PEm K cl W (fun σ H Q => tJs ts Str.empty σ H fun out H1 => Q (.str out) H1) (mJoin ms Str.empty) := jf_run h Str.empty
/-! ### raise X(e) -/
def mRaise1 (c : Nat) (m : Sl → M MV) : MS := fun δ => withV (m δ) δ fun _ μ => some (.ex c δ, μ)
theorem sm_raise1 {c : Nat} {C : Addr} (hc : cl c = .ref C) (he : PEm K cl W te me) : PSm K cl W (fun _ σ H => te σ H fun _ H1 => W (.ref C) none σ H1) (mRaise1 c me) := fun σ δ p s =>
  SDo.bind (t := te σ) (k := fun _ _ H1 => W (.ref C) none σ H1) (he σ δ p s) s fun q g x mx rx => SDo.now fun D h => by
    have := h σ (s.mono g)
    rw [hc] at this
    exact this
/-! ### try -/
def tryH : List ((Nat → Option Bool) × MS) → Nat → MS
  | [], c => fun δ μ => some (.ex c δ, μ)
  | (f, m) :: r, c => match f c with
    | none => fun _ _ => none
    | some true => m
    | some false => tryH r c
def mTry (b : MS) (hs : List ((Nat → Option Bool) × MS)) : MS := fun δ μ => match b δ μ with
  | some (.ex c δ', μ') => tryH hs c δ' μ'
  | r => r
inductive TryOk (K : PySem.W.Frag) (cl : Nat → Value) (W : WX) : List (Value × (Addr → Value → Option Addr → TS)) → List ((Nat → Option Bool) × MS) → Prop where
  | nil : TryOk K cl W [] []
  | cons {cv : Value} {ts : TS} {f : Nat → Option Bool} {m : MS} {l : List (Value × (Addr → Value → Option Addr → TS))} {hs : List ((Nat → Option Bool) × MS)}
      (hf : ∀ c b, f c = some b → PySem.W.exmOne K (cl c) cv = some b) (hm : PSm K cl W ts m) (r : TryOk K cl W l hs) : TryOk K cl W ((cv, fun _ _ _ => ts) :: l) ((f, m) :: hs)
theorem try_wish {l : List (Value × (Addr → Value → Option Addr → TS))} {hs : List ((Nat → Option Bool) × MS)} (h : TryOk K cl W l hs) {c : Nat} {δ : Sl} {μ : Mu} {r : Out} {μ' : Mu} (e : tryH hs c δ μ = some (r, μ')) {D : Ends} {q : Pt} (w : Wd K q μ)
    (hq : ∀ q', Gr q q' → Wd K q' μ' → EndS K cl W D q' r) {σ : Sg} (s : Sls K q σ δ) : wMany K W D l (cl c) none σ q.H := by
  induction h with
  | nil =>
    cases e
    exact hq q (Gr.refl q) w σ s
  | @cons cv ts f m l hs hf hm r ih =>
    unfold tryH at e
    cases h : f c with
    | none =>
      rw [h] at e
      cases e
    | some b =>
      rw [h] at e
      cases b with
      | true => exact ⟨true, hf _ _ h, fun _ a _ => hm σ δ q s μ w _ _ e D hq, fun z => by cases z⟩
      | false => exact ⟨false, hf _ _ h, (fun z => by cases z), fun _ => ih e⟩
theorem sm_try_many {tb : WX → TS} {mb : MS} {l : List (Value × (Addr → Value → Option Addr → TS))} {hs : List ((Nat → Option Bool) × MS)} (hb : ∀ W', PSm K cl W' (tb W') mb) (h : TryOk K cl W l hs) :
    PSm K cl W (fun D σ H => tb (wMany K W D l) D σ H) (mTry mb hs) := fun σ δ p s μ w r μ' e D hq => by
  unfold mTry at e
  cases e1 : mb δ μ with
  | none =>
    rw [e1] at e
    cases e
  | some rr =>
    obtain ⟨o, μ1⟩ := rr
    rw [e1] at e
    refine hb (wMany K W D l) σ δ p s μ w o μ1 e1 D fun q g w' => ?_
    cases o with
    | ex c δ' => exact fun σ' s' => try_wish h e w' (fun q' g' w2 => hq q' (g.trans w' g') w2) s'
    | nx δ' =>
      cases e
      exact hq q g w'
    | rt x =>
      cases e
      exact hq q g w'
    | bk δ' =>
      cases e
      exact hq q g w'
    | ct δ' =>
      cases e
      exact hq q g w'
/-- except X as n (slot i): the suite is told at the place where the exception is held -/
def mTryAs (i : Nat) (b : MS) (f : Nat → Option Bool) (m : Nat → MS) : MS := fun δ μ => match b δ μ with
  | some (.ex c δ', μ') => match f c with
    | none => none
    | some false => some (.ex c δ', μ')
    | some true => match m c (δ'.set i none) μ' with
      | some (.nx δ2, μ2) => some (.nx (δ2.set i none), μ2)
      | some (.bk δ2, μ2) => some (.bk (δ2.set i none), μ2)
      | some (.ct δ2, μ2) => some (.ct (δ2.set i none), μ2)
      | r => r
  | r => r
theorem Sls.held {p : Pt} {σ : Sg} {δ : Sl} {i : Nat} {x : Option V} (s : Sls K p σ δ) : Sls K p (σ.set i x) (δ.set i none) := by
  refine ⟨by rw [List.length_set, List.length_set]; exact s.1, fun j y h => ?_⟩
  by_cases hj : i = j
  · subst hj
    by_cases hl : i < δ.length
    · rw [List.getElem?_set_self hl] at h
      cases h
    · rw [List.getElem?_eq_none (by rw [List.length_set]; omega)] at h
      cases h
  · rw [List.getElem?_set_ne hj] at h ⊢
    exact s.2 j y h
theorem sm_try_as {tb : WX → TS} {mb : MS} {cv : Value} {i : Nat} {ts : Addr → Value → Option Addr → TS} {f : Nat → Option Bool} {m : Nat → MS} (hb : ∀ W', PSm K cl W' (tb W') mb)
    (hf : ∀ c b, f c = some b → PySem.W.exmOne K (cl c) cv = some b)
    (hm : ∀ (c : Nat) (a : Addr) (σ : Sg) (δ : Sl) (p : Pt), f c = some true → Sls K p σ δ → (i < σ.length → σ[i]? = some (some (.ref a))) → SDo K cl W (fun D H => ts a (cl c) none D σ H) (m c δ) p) :
    PSm K cl W (fun D σ H => tb (wAs K cv i ts W D) D σ H) (mTryAs i mb f m) := fun σ δ p s μ w r μ' e D hq => by
  unfold mTryAs at e
  cases e1 : mb δ μ with
  | none =>
    rw [e1] at e
    cases e
  | some rr =>
    obtain ⟨o, μ1⟩ := rr
    rw [e1] at e
    refine hb (wAs K cv i ts W D) σ δ p s μ w o μ1 e1 D fun q g w' => ?_
    cases o with
    | ex c δ' =>
      refine fun σ' s' => ?_
      dsimp only at e
      cases h : f c with
      | none =>
        rw [h] at e
        cases e
      | some b =>
       rw [h] at e
       cases b with
       | false =>
        cases e
        exact ⟨false, hf _ _ h, (fun z => by cases z), fun _ => hq q g w' σ' s'⟩
       | true =>
        dsimp only at e
        refine ⟨true, hf _ _ h, fun _ a _ => ?_, fun z => by cases z⟩
        cases e2 : m c (δ'.set i none) μ1 with
        | none =>
          rw [e2] at e
          cases e
        | some r2 =>
          obtain ⟨o2, μ2⟩ := r2
          rw [e2] at e
          refine hm c a (σ'.set i (some (.ref a))) (δ'.set i none) q h s'.held (fun hl => List.getElem?_set_self (by simpa using hl)) μ1 w' o2 μ2 e2 _ fun q2 g2 w2 => ?_
          cases o2 with
          | nx δ2 =>
            cases e
            exact fun σ2 s2 => hq q2 (g.trans w' g2) w2 _ s2.held
          | bk δ2 =>
            cases e
            exact fun σ2 s2 => hq q2 (g.trans w' g2) w2 _ s2.held
          | ct δ2 =>
            cases e
            exact fun σ2 s2 => hq q2 (g.trans w' g2) w2 _ s2.held
          | rt x =>
            cases e
            exact hq q2 (g.trans w' g2) w2
          | ex c2 δ2 =>
            cases e
            exact hq q2 (g.trans w' g2) w2
    | nx δ' =>
      cases e
      exact hq q g w'
    | rt x =>
      cases e
      exact hq q g w'
    | bk δ' =>
      cases e
      exact hq q g w'
    | ct δ' =>
      cases e
      exact hq q g w'
end
end PD

set_option Elab.async false
set_option linter.all false
set_option maxRecDepth 100000
set_option maxHeartbeats 2000000
namespace PD
open PySem PySem.Spec PyProof.Rows L2 L2H HotX
/-! ### a list's end while an exception is handled -/
section
variable {prog : Program} {w : World} {B : Around} {t : Shared}
theorem list_end_hot {F : Value → Shared → Prop} {I L hx : Addr} {k : Nat} {ys : Array Value} {G : Option Value → Shared → Prop} (hot : HotAt B hx t.heap) (hI : t.heap.IsListIter I L k) (hL : t.heap.IsList L ys) (hn : ys[k]? = none) (hIx : hx ≠ I)
    (fin : ∀ g, (∀ b o, b ≠ I → t.heap.get? b = some o → g.get? b = some o) → G none { t with heap := g }) : wpAny (model prog w) B (pyNext (.ref I)) G F t := by
  obtain ⟨oi, gi, ci, di⟩ := id hI
  obtain ⟨ol, gl, _, nl, dl⟩ := hL
  obtain ⟨hB, o1, v1, g1, d1, c1⟩ := hot
  unfold pyNext; refine wpAny_bind (wpAny_attempt (wpAny_callSpecial?_slot (name := Str.ofString "__next__") hI.typeIs slot_listiter_next (wpAny_call_entry slot_listiter_next hI.typeIs entry_listiter_next ?_ (args_listiter_next _))))
  show wpAny _ _ (field (.ref I) 0 >>= _) _ _ t
  refine wpAny_bind (wpAny_field gi di (x := .ref L) rfl ?_)
  show wpAny _ _ (if (Value.ref L == Value.none) = true then _ else _) _ _ t
  rw [if_neg (show ¬ ((Value.ref L == Value.none) = true) by simp)]
  show wpAny _ _ (field (.ref I) 1 >>= _) _ _ t
  refine wpAny_bind (wpAny_field gi di (x := .int k 0) rfl ?_)
  show wpAny _ _ (seqItems? (.ref L) >>= _) _ _ t
  refine wpAny_bind (wpAny_seqItems gl dl ?_)
  simp only [Int.toNat_natCast, hn]; refine wpAny_bind (wpAny_rule (wpAny_bind (wpAny_setField gi di (by simp) ?_)))
  show wpAny _ _ (newExc (.type "StopIteration") [] >>= _) _ _ _; refine wpAny_bind ?_; simp only [newExc, newTuple]
  refine wpAny_bind (wpAny_newObj_type ?_ (by size_fits)); refine wpAny_bind (m := firstArgMember _ _) (wpAny_of_eq (a := Value.none) (by first | rfl | (simp only [firstArgMember]; rfl)) ?_); refine wpAny_newObj_type ?_ (by size_fits)
  have old : (t.heap.update I (Obj.mapFields (·.setIfInBounds 0 Value.none))).get? hx = some o1 := (Heap.get?_update_other _ _ (Ne.symm hIx)).trans g1
  refine raiseNew_hot ⟨hB, o1, v1, Heap.get?_push_of_some _ (Heap.get?_push_of_some _ old), d1, c1⟩ (Nat.ne_of_lt (Heap.lt_size (Heap.get?_push_of_some _ old))) (Heap.get?_push_size _ rfl) rfl (by first | (simp; done) | (simp; omega) | (simp only [Array.size_append]; simp; omega)) ?_
  refine wpAny_bind (wpAny_isInstance (T := "StopIteration") (b := true) ⟨_, Heap.get?_update_self _ (Heap.get?_push_size _ rfl) rfl, rfl⟩ isSubtype_stop ?_); refine wpAny_pure (fin _ fun b o hb e => ?_)
  have e2 : (t.heap.update I (Obj.mapFields (·.setIfInBounds 0 Value.none))).get? b = some o := (Heap.get?_update_other _ _ (Ne.symm hb)).trans e
  rw [Heap.get?_update_other _ _ (Nat.ne_of_gt (Heap.lt_size (Heap.get?_push_of_some _ e2)))]
  exact (Heap.get?_push_of_some _ (Heap.get?_push_of_some _ e2))
end
/-! ### [e for x in xs if x], xs truths, while an exception is handled -/
section
variable {X : Cx}
def tOnes (tl : TE) : TE := fun σ H Q => tl σ H fun x H1 => ∃ (a : Addr) (bs : List Bool), x = .ref a ∧ H1 a = some (.lst (bs.map V.bl)) ∧ bs.length ≤ 1000 ∧
  ∀ D, H1 D = none → Q (.ref D) (upd H1 D (.lst (List.replicate (bs.count true) (V.int 1))))
theorem count_take {bs : List Bool} {i : Nat} {b : Bool} (h : bs[i]? = some b) : (bs.take (i + 1)).count true = (bs.take i).count true + (if b = true then 1 else 0) := by
  rw [List.take_add_one, h, List.count_append]
  cases b <;> rfl
theorem pe_ones {elt tg iter : Expr} {ifs : List Expr} {scope : Scope} {own : List (Str × Nat)} {pos : Pos} {tl : TE} {tt : TT} {te : TE} {j : Nat} (hot : HotC X) (hN : X.N.Nodup) (hl : PE X iter tl) (bk : BlkOk X.N X.env.scope scope own)
    (hg : ∀ (s : Shared) (H : Hp) (C : Addr) (cl : List (Str × Addr)) (fp : List Addr), PG (X.blk s H scope (compEnvC scope cl C X.env) fp) tg (gName j))
    (ht : ∀ (s : Shared) (H : Hp) (C : Addr) (cl : List (Str × Addr)) (fp : List Addr), PTs (X.blk s H scope (compEnvC scope cl C X.env) fp) ifs tt)
    (he : ∀ (s : Shared) (H : Hp) (C : Addr) (cl : List (Str × Addr)) (fp : List Addr), PE (X.blk s H scope (compEnvC scope cl C X.env) fp) elt te)
    (htt : ∀ (b : Bool) (σ : Sg) (H : Hp) (Q : Bool → Hp → Prop), σ[j]? = some (some (.bl b)) → Q b H → tt σ H Q) (hte : ∀ (σ : Sg) (H : Hp) (Q : VK), Q (.int 1) H → te σ H Q) (hj : j ∈ own.map (·.2)) (hjl : j < X.N.length)
    (hs : ∀ x, foldedSetIterable iter X.env x = pure x := by intro _; rfl) : PE X (.ListComp elt [⟨tg, iter, ifs, 0⟩] scope pos) (tOnes tl) := by
  refine ⟨fun pins s σ H Q I h => ?_⟩
  rw [eval_ListComp]
  have fr : ∀ y ∈ scope.names, y.2 = .free → ∃ c, X.env.cells.lookup y.1 = some c := fun y hy e => (bk.free y hy e).elim (fun k => I.ok.has _ (.inl k)) (fun k => I.ok.has _ (.inr k))
  refine wpAny_comprehension_free (use := none) rfl hs (closure_ok fr) bk.kind (fun y hy e => by rw [bk.uniq y hy, e]) (thn (hl.run pins s σ H _ I h) fun v s1 hv => ?_)
  obtain ⟨x, H1, I1, r1, a, bs, rfl, ha, hbl, q⟩ := hv
  cases r1
  obtain ⟨its, rv, pl, _⟩ := I1.list (xs := bs.map V.bl) (a := a) (.inl (.of ha))
  refine wpAny_pyIter_list pl.isList ?_
  generalize hit : s1.heap.objs.size = it
  generalize hs2 : ({ s1 with heap := s1.heap.push { cls := .type "list_iterator", data := .fields #[.ref a, .int 0 0] } } : Shared) = s2
  have e2 : s2.heap = s1.heap.push { cls := .type "list_iterator", data := .fields #[.ref a, .int 0 0] } := by rw [← hs2]
  have I2 : Inv X pins σ H1 s2 := by
    rw [← hs2]
    exact I1.kept (t' := s1.toks) fun b o e => Heap.get?_push_of_some _ e
  have it2 : s2.heap.IsListIter it a 0 := by
    rw [e2, ← hit]
    exact ⟨_, Heap.get?_push_size _ rfl, rfl, rfl⟩
  have itn : H1 it = none := I1.hok.fresh (Nat.le_of_eq hit)
  have itlt : it < s2.heap.objs.size := by
    rw [e2, Heap.size_push, hit]
    exact Nat.lt_succ_self _
  refine wpAny_newObj_type (newEnv_comp ?_) (by show 0 ≤ sizeLine; decide)
  generalize hD : s2.heap.objs.size = D
  have Dn : H1 D = none := I2.hok.fresh (Nat.le_of_eq hD)
  have itD : it ≠ D := by rw [← hD]; exact Nat.ne_of_lt itlt
  generalize hs3 : ({ s2 with heap := s2.heap.push { cls := .type "list", data := .seq ([] : List Value).toArray } } : Shared) = s3
  have e3 : s3.heap = s2.heap.push { cls := .type "list", data := .seq ([] : List Value).toArray } := by rw [← hs3]
  have I3 : Inv X pins σ (upd H1 D (.lst [])) s3 := by
    rw [← hs3]
    exact I2.laid (t' := s2.toks) (fun b o e => Heap.get?_push_of_some _ e) (Nat.le_of_eq hD) ⟨Nat.zero_le _, [], 0, .nil, by rw [← hD]; exact Heap.get?_push_size _ rfl⟩
  have it3 : s3.heap.IsListIter it a 0 := it2.at fun o e => by rw [e3]; exact Heap.get?_push_of_some _ e
  have fp1 : FpOk X pins (upd H1 D (.lst [])) it := I1.fpOk (Nat.le_of_eq hit) (by rw [upd_ne itD]; exact itn)
  have f3 : ∀ b ∈ [it], FpOk X pins (upd H1 D (.lst [])) b ∧ b < s3.heap.objs.size := fun b hb => by
    rw [List.mem_singleton.mp hb]
    exact ⟨fp1, by rw [e3, Heap.size_push]; exact Nat.lt_succ_of_lt itlt⟩
  have I4 := block_start I3 bk hN f3
  have pg := hg s3 (upd H1 D (.lst [])) s3.heap.objs.size (cellsFrom (s3.heap.objs.size + 1) scope.names (cloFrom X.env.cells scope.names [])) [it]
  have pt := ht s3 (upd H1 D (.lst [])) s3.heap.objs.size (cellsFrom (s3.heap.objs.size + 1) scope.names (cloFrom X.env.cells scope.names [])) [it]
  have pe := he s3 (upd H1 D (.lst [])) s3.heap.objs.size (cellsFrom (s3.heap.objs.size + 1) scope.names (cloFrom X.env.cells scope.names [])) [it]
  show codeAny _ _ (.compStart (.ListComp elt [⟨tg, iter, ifs, 0⟩] scope pos) 0 (.ref it) (.ref D) (compEnvC scope (cellsFrom (s3.heap.objs.size + 1) scope.names (cloFrom X.env.cells scope.names [])) s3.heap.objs.size X.env)) (compPost (model X.prog X.w) X.A X.xe none _ (.ref D) s3.heap.objs.size) { s3 with heap := pushCells (s3.heap.push { cls := .type "dict", data := .dict #[] }) scope.names }
  generalize hce : compEnvC scope (cellsFrom (s3.heap.objs.size + 1) scope.names (cloFrom X.env.cells scope.names [])) s3.heap.objs.size X.env = ce at I4 pg pt pe ⊢
  have cL : ce.locals = s3.heap.objs.size := by rw [← hce]; rfl
  generalize hs4 : ({ s3 with heap := pushCells (s3.heap.push { cls := .type "dict", data := .dict #[] }) scope.names } : Shared) = s4 at I4 ⊢
  have it4 : s4.heap.IsListIter it a 0 := it3.at fun o e => by rw [← hs4]; exact pushCells_keeps _ _ _ _ (Heap.get?_push_of_some _ e)
  -- the handled exception stands through the block
  obtain ⟨p, ⟨hp1, v1, hp2, hp3⟩, hp⟩ := hot
  have pin3 := I3.pin p (List.mem_append_left _ hp)
  have pne : p.1 ≠ it := fun z => fp1.2.2.2.2.2 p (List.mem_append_left _ hp) z
  have stat : ∀ {σ' : Sg} {H' : Hp} {s' : Shared}, Inv (X.blk s3 (upd H1 D (.lst [])) scope ce [it]) [] σ' H' s' → H' it = none → ∀ b ∈ [it], FpOk (X.blk s3 (upd H1 D (.lst [])) scope ce [it]) [] H' b := fun {σ' H' s'} J hn b hb => by
    rw [List.mem_singleton.mp hb]
    have m : it ∈ [it] := List.mem_singleton.mpr rfl
    exact ⟨hn, (J.ok.exf it m).1, J.ok.exfs it m, .inl m, fun x c e => (J.ok.exf it m).2 x c e, fun p hp => absurd (show p ∈ ([] : List (Addr × Obj)) ++ [] from hp) (by simp)⟩
  have hotJ : ∀ {σ' : Sg} {H' : Hp} {s' : Shared}, Inv (X.blk s3 (upd H1 D (.lst [])) scope ce [it]) [] σ' H' s' → ∃ o, s'.heap.get? p.1 = some o ∧ ∃ vs : Array Value, o.data = .fields vs ∧ vs[2]? = some .none := fun {σ' H' s'} J => by
    obtain ⟨sl, z⟩ := J.base.any pin3.1 pin3.2.1 (by simpa using pne)
    exact ⟨_, z, v1, hp2, hp3⟩
  have loop : codeAny (model X.prog X.w) X.A (.compLoop (.ListComp elt [⟨tg, iter, ifs, 0⟩] scope pos) 0 (.ref it) (.ref D) ce) (compPost (model X.prog X.w) X.A X.xe none (EP X pins σ Q) (.ref D) s3.heap.objs.size) s4 := by
    refine compLoop_any (fun n s' => ∃ i, i ≤ bs.length ∧ n = bs.length - i ∧ Inv (X.blk s3 (upd H1 D (.lst [])) scope ce [it]) [] (wipe σ (own.map (·.2))) (upd H1 D (.lst (List.replicate ((bs.take i).count true) (V.int 1)))) s' ∧ s'.heap.IsListIter it a i) ?_ bs.length ⟨0, Nat.zero_le _, rfl, I4, it4⟩
    rintro n s5 ⟨i, hi, rfl, I5, it5⟩
    have aD : a ≠ D := fun z => by rw [z, Dn] at ha; cases ha
    have ha5 : (upd H1 D (.lst (List.replicate ((bs.take i).count true) (V.int 1)))) a = some (.lst (bs.map V.bl)) := by rw [upd_ne aD]; exact ha
    have in5 : (upd H1 D (.lst (List.replicate ((bs.take i).count true) (V.int 1)))) it = none := by rw [upd_ne itD]; exact itn
    obtain ⟨ys, rv5, pl5, _⟩ := I5.list (xs := bs.map V.bl) (a := a) (.inl (.of ha5))
    have ylen := rv5.length
    rw [List.length_map] at ylen
    have f5 := stat I5 in5 it (List.mem_singleton.mpr rfl)
    by_cases hlt : i < bs.length
    · have hb : bs[i]? = some bs[i] := List.getElem?_eq_getElem hlt
      obtain ⟨u, hu, ru⟩ := rv5.get (show (bs.map V.bl)[i]? = some (V.bl bs[i]) by rw [List.getElem?_map, hb]; rfl)
      refine wpAny_pyNext_list_item it5 pl5.isList (x := u) (by simpa using hu) fun h6 it6 sb6 => ?_
      have I6 : Inv (X.blk s3 (upd H1 D (.lst [])) scope ce [it]) [] (wipe σ (own.map (·.2))) (upd H1 D (.lst (List.replicate ((bs.take i).count true) (V.int 1)))) { s5 with heap := h6 } := I5.turned (t' := s5.toks) (fun b o hb e => (sb6.2 b hb).trans e) f5.1 f5.2.1 f5.2.2.2.1 f5.2.2.2.2.1 f5.2.2.2.2.2
      obtain ⟨o6, g6, c6, d6⟩ := id it6
      refine go_of (s := { s5 with heap := h6 }) g6 c6 d6 (by decide) ?_
      have I6p := I6.pinned (stat I6 in5) (fun b hb => ⟨o6, by rw [List.mem_singleton.mp hb]; exact g6, fun v z => by rw [d6] at z; cases z⟩)
      refine thnF (pg.run _ _ _ _ (V.bl bs[i]) u (fun σ' H' => σ' = (wipe σ (own.map (·.2))).set j (some (V.bl bs[i])) ∧ H' = upd H1 D (.lst (List.replicate ((bs.take i).count true) (V.int 1)))) I6p ru ⟨rfl, rfl⟩) fun _ s7 h7 => ?_
      obtain ⟨_, _, I7, rfl, rfl⟩ := h7
      have jl : j < (wipe σ (own.map (·.2))).length := by rw [wipe_length, I.len]; exact hjl
      refine thnF (pt.run _ s7 _ _ (fun b' H' => b' = bs[i] ∧ H' = upd H1 D (.lst (List.replicate ((bs.take i).count true) (V.int 1)))) I7 (htt bs[i] _ _ _ (List.getElem?_set_self jl) ⟨rfl, rfl⟩)) fun b' s8 h8 => ?_
      obtain ⟨_, I8, rfl, rfl⟩ := h8
      have fin : ∀ {s9 : Shared} {H9 : Hp}, H9 = upd H1 D (.lst (List.replicate ((bs.take (i + 1)).count true) (V.int 1))) → Inv (X.blk s3 (upd H1 D (.lst [])) scope ce [it]) ([] ++ pinsAt [it] h6) ((wipe σ (own.map (·.2))).set j (some (V.bl bs[i]))) H9 s9 →
          ∃ m, m < bs.length - i ∧ ∃ k, k ≤ bs.length ∧ m = bs.length - k ∧ Inv (X.blk s3 (upd H1 D (.lst [])) scope ce [it]) [] (wipe σ (own.map (·.2))) (upd H1 D (.lst (List.replicate ((bs.take k).count true) (V.int 1)))) s9 ∧ s9.heap.IsListIter it a k := fun {s9 H9} e9 I9 => by
        subst e9
        have pin9 := I9.pin (it, o6) (List.mem_append_right _ (List.mem_append_right _ (mem_pinsAt (List.mem_singleton.mpr rfl) g6)))
        refine ⟨bs.length - (i + 1), by omega, i + 1, hlt, rfl, (I9.unpinned (pins := [])).weak (by rw [List.length_set]) (fun k v e => ?_), it6.at fun o e => by rw [g6] at e; cases e; exact pin9.1⟩
        by_cases hk : j = k
        · subst hk
          exact absurd hj (wipe_some e).2
        · rw [List.getElem?_set_ne hk]
          exact e
      cases hbi : bs[i] with
      | false =>
        simp only [Bool.false_eq_true, if_false]
        refine fin ?_ I8
        rw [count_take hb, hbi]
        rfl
      | true =>
        simp only [if_true]
        refine thnF (pe.run _ s8 _ _ (fun y H' => y = V.int 1 ∧ H' = upd H1 D (.lst (List.replicate ((bs.take i).count true) (V.int 1)))) I8 (hte _ _ _ ⟨rfl, rfl⟩)) fun z s9 h9 => ?_
        obtain ⟨_, _, I9, r9, rfl, rfl⟩ := h9
        refine app_ok (X := X.blk s3 (upd H1 D (.lst [])) scope ce [it]) I9 upd_same (by rw [List.length_replicate]; have := List.count_le_length (a := true) (l := bs.take i); have h2 := List.length_take_le i bs; rw [sizeLine_eq]; omega) r9 fun s10 I10 => fin ?_ I10
        rw [upd_upd, count_take hb, hbi, if_pos rfl, List.replicate_succ']
    · have ei : i = bs.length := by omega
      obtain ⟨o, g, vs, d, c⟩ := hotJ I5
      refine list_end_hot ⟨hp1, o, vs, g, d, c⟩ it5 pl5.isList (by simp; omega) pne fun h6 k6 => ?_
      have I6 : Inv (X.blk s3 (upd H1 D (.lst [])) scope ce [it]) [] (wipe σ (own.map (·.2))) (upd H1 D (.lst (List.replicate ((bs.take i).count true) (V.int 1)))) { s5 with heap := h6 } := I5.turned (t' := s5.toks) (fun b o hb e => k6 b o hb e) f5.1 f5.2.1 f5.2.2.2.1 f5.2.2.2.2.1 f5.2.2.2.2.2
      have I7 : Inv X pins σ (upd H1 D (.lst (List.replicate ((bs.take i).count true) (V.int 1)))) { s5 with heap := h6 } := I3.call' (ch := [it]) I6.os I6.base I6.hok I6.bare fun b hb => by
        rw [List.mem_singleton.mp hb]
        exact ⟨fp1.2.2.2.1, fp1.2.1, fp1.2.2.2.2.1, fp1.2.2.2.2.2⟩
      have nC : (upd H1 D (.lst (List.replicate ((bs.take i).count true) (V.int 1)))) s3.heap.objs.size = none := by
        rw [← cL]
        exact I6.free
      obtain ⟨m, hm, _⟩ := I6.loc
      have hm : Heap.Ns h6 ce.locals m := hm
      rw [cL] at hm
      have fC := I3.fpOk (b := s3.heap.objs.size) (Nat.le_refl _) nC
      refine ⟨m, hm, fun h7 sb7 => ⟨.ref D, _, I7.turned (t' := s5.toks) (fun b o hb e => (sb7.2 b hb).trans e) fC.1 fC.2.1 fC.2.2.2.1 fC.2.2.2.2.1 fC.2.2.2.2.2, rfl, ?_⟩⟩
      have z := q D Dn
      rw [ei, List.take_length]
      exact z
  exact codeAny_compStart_list loop (wpAny_pyIter_listiter it4 loop)
end
end PD

set_option Elab.async false
set_option linter.all false
set_option maxRecDepth 100000
set_option maxHeartbeats 2000000
namespace PD
open PySem PySem.Spec PyProof.Rows L2 L2H HotX
/-! ### isinstance of an exception that the context bears -/
section
variable {X : Cx}
theorem isi_pinned {p : Addr × Obj} {D : Addr} (C : ExcC X.K D) (hp : p ∈ X.pn) (h1 : p.2.cls = .ref D) (h2 : p.2.dict = none) (h3 : ∃ vs, p.2.data = .fields vs) : CallR X (.builtin "isinstance") (rIsE X.K D p.1) := by
  intro pl s σ H xs us Q I r h
  obtain ⟨c, cv, b, rfl, hcv, e, q⟩ := h
  obtain ⟨u1, u2, rfl, r1, r2⟩ := vals2 r
  obtain rfl : u1 = Value.ref p.1 := r1
  obtain rfl := hcv _ r2
  obtain ⟨g, _⟩ := I.pin p (List.mem_append_left _ hp)
  obtain ⟨vs, h3⟩ := h3
  have J : PySem.W.InstAt s.heap p.1 p.2 D none := by
    obtain ⟨pa, oc, od, oda, osl⟩ := p
    dsimp only at h1 h2 h3
    subst h1 h2 h3
    exact ⟨g, rfl, rfl, trivial⟩
  exact PySem.W.kia_one (PySem.W.handS_kitx_exc C.hg C.hk C.hs C.hd C.ha C.hn C.ht C.hm) I.kIn J e (fun z => nomatch z) fun tk => ⟨.bl b, H, I.kept (t' := tk) fun _ _ z => z, rfl, q⟩
/-! ### f(e), e the exception that a suite holds -/
def tHeld (a : Addr) (good : Prop) (t : TA) : TE := fun σ H Q => t σ H fun vs H1 => vs = [.ref a] ∧ good ∧ ∀ H', (∀ b o, H1 b = some o → H' b = some o) → Q (.bl true) H'
theorem pe_held {p : Addr × Obj} {x qual : Str} {q pos : Pos} {e : Expr} {st : Stmt} {f : Addr} {fd : FuncData} {N : List Str} {n0 : Str} {t : TA} {good : Prop} {CX : CXT} (F : Fun X.K x qual st f fd) (S : FnScope N [n0] (defScope st)) (hb : Binds X.K fd [n0] [])
    (hg : Gl X x) (hm : X.mg x = some (.ref f)) (hp : p ∈ X.pn) (hot : Hot1 X.A p) (hr : RoomH 1 X.A) (ha : PA X [e] t)
    (body : ∀ (cdv : Value) (A : Around) (outer : List Env) (s : Shared) (H : Hp) (E : XK) (Q : VK), good → Hot1 A p → RoomH 0 (A.deeper (envOfC qual (defScope st) s.heap.objs.size f cdv)) → (∀ H', (∀ b o, H b = some o → H' b = some o) → Q (.bl true) H') →
      ∃ ts, PSs (cxH CX X.prog X.w X.K X.mg X.base N qual (defScope st) f cdv A outer s H E p) (defBody st) ts ∧ ts { nx := fun _ H' => Q .non H', rt := Q } (L2.start N [.ref p.1]) H)
    (hxe : ∀ (H : Hp) (s : Shared) (e : Value) (s' : Shared), CX X.stack H s (fun _ _ _ => False) e s' → X.xe e s')
    (hdb : (x == ("__debug__" : Str)) = false := by decide) (he : starEach (e :: []) X.env = (false, eval e X.env) :: starEach [] X.env := by rfl) (hpl : (backTo pos (starEach [] X.env)).any (·.1) = false := by rfl) :
    PE X (.Call (.Name x q) [e] [] pos) (tHeld p.1 good t) := by
  refine ⟨fun pl s σ H Q I h => ?_⟩
  refine wpAny_Call_Name_kw (ld_glob I hg hm ?_ hdb)
  refine PySem.W.callWith_K (h₀ := X.base) I.ok.mod.kin F.kp (thn (ha.run pos pl s σ H _ I h) fun us s1 hu => ?_) he hpl
  obtain ⟨vs, H1, I1, r, rfl, hgood, hq⟩ := hu
  refine ⟨I1.kIn, ?_⟩
  have P1 := I1.pin p (List.mem_append_left _ hp)
  have hpin : PinOk X.stack H1 s1 p := ⟨P1.1, P1.2.1, fun hm => (List.mem_cons.mp (I1.stkSub p.1 hm)).elim P1.2.2.1 P1.2.2.2.1, P1.2.2.2.2⟩
  have e0 := I1.env0
  obtain ⟨oc, od, kV, doc, pm, an, cdv, ct, osl, hfd, lk, hcd⟩ := F.ex
  have hus : us.length = 1 := by rw [← r.length]; rfl
  have bd := hb s1 us I1.kIn (by rw [List.append_nil]; exact hus)
  rw [List.append_nil] at bd
  subst hfd
  have KX : X.K.In s1.heap := I1.kIn
  have lim : s1.heap.NoLimit := e0.mod.nolimit.keeps fun b o e => (e0.bs b o e).1
  refine wpAny_call (codeAny_mono (?_ : codeAny (model X.prog X.w) X.A (.call (.ref f) ⟨us, []⟩) (CR CX X.stack X.prog X.w H1 s1 Q (fun _ _ _ => False)) s1) fun rr s' hq => ?_)
  · have hk : ∀ y ∈ [n0].zip us, (defScope st).names.lookup y.1 = some .local ∨ ((defScope st).names.lookup y.1 = some .cell ∧ ((cellsFrom (s1.heap.objs.size + 1) (defScope st).names []).lookup y.1).isSome = true) := fun ⟨n, v⟩ hy =>
      (S.par n (List.of_mem_zip hy).1).elim .inl fun z => .inr ⟨z, PySem.W.cellsFrom_some _ _ _ (.inl z)⟩
    refine codeAny_call_function hr.depth (KX _ _ lk) rfl S.co S.gen rfl (PySem.W.codeRec_of KX hcd) (bd _ _ _ _ (wpAny_newFunctionEnv_cells S.kind hk fun env hen s2 y => ?_))
    subst hen
    refine ⟨lim.keeps y.toInCall.keep, codeAny_func ?_⟩
    obtain ⟨ts, hts, ht⟩ := body cdv X.A X.stack s1 H1 (fun _ _ _ => False) Q hgood hot (hr.deeper _) hq
    have J := inv_startH (CX := CX) (qual := qual) (f := f) (cd := cdv) (E := fun _ _ _ => False) S hpin e0 (show [V.ref p.1].length = [n0].length from rfl) r y
    refine wpAny_mono (hts.run [] s2 _ H1 _ J ht) (fun fl s' hs => ?_) fun e s' hs => hs
    cases fl with
    | ret u =>
      obtain ⟨v, σ', H', J', rv, z⟩ := hs
      exact ⟨v, H', J'.os, J'.bare, J'.base, J'.hok, rv, z⟩
    | next =>
      obtain ⟨σ', H', J', z⟩ := hs
      exact ⟨V.non, H', J'.os, J'.bare, J'.base, J'.hok, rfl, z⟩
    | brk =>
      obtain ⟨_, _, _, z⟩ := hs
      exact z.elim
    | cont =>
      obtain ⟨_, _, _, z⟩ := hs
      exact z.elim
  · cases rr with
    | error e => exact hxe H1 s1 e s' hq
    | ok fl =>
      cases fl with
      | ret u => exact I1.after hq
      | next => exact hq.elim
      | brk => exact hq.elim
      | cont => exact hq.elim
end
/-! ### what the law's own look at an exception comes to -/
section
variable {K : PySem.W.Frag}
def tIs (K : PySem.W.Frag) (D a : Addr) (c : V) : TE := tCB (rIsE K D a) (tCons (tVar 0) (tCons (tC c) tNil))
theorem is_ok {D a : Addr} {c : V} {cv : Value} {b : Bool} {σ : Sg} {H : Hp} {Q : VK} (h0 : σ[0]? = some (some (.ref a))) (hc : ∀ u, RelV c u → u = cv) (hk : PySem.W.kitOne K (.ref D) cv = some b) (q : Q (.bl b) H) : tIs K D a c σ H Q :=
  ⟨.ref a, h0, c, cv, b, rfl, hc, hk, q⟩
theorem put_keeps {H H0 : Hp} {p : Addr} {o : HO} (k : ∀ b u, H0 b = some u → H b = some u) (n : H p = none) : ∀ b u, H0 b = some u → upd H p o b = some u := fun b u e => by
  have e1 := k b u e
  rw [upd_ne (fun z => by rw [z, n] at e1; cases e1)]
  exact e1
/-- four looks, two more, and two that decide: just one of the six is true -/
theorem alone_wish {D a : Addr} {c1 c2 c3 c4 c5 c6 c7 c8 : V} {v1 v2 v3 v4 v5 v6 v7 v8 : Value} {b1 b2 b3 b4 b5 b6 : Bool} {H : Hp} {Q : VK} {Dn : Ends} (hD : Dn.rt = Q)
    (h1 : ∀ u, RelV c1 u → u = v1) (h2 : ∀ u, RelV c2 u → u = v2) (h3 : ∀ u, RelV c3 u → u = v3) (h4 : ∀ u, RelV c4 u → u = v4) (h5 : ∀ u, RelV c5 u → u = v5) (h6 : ∀ u, RelV c6 u → u = v6) (h7 : ∀ u, RelV c7 u → u = v7) (h8 : ∀ u, RelV c8 u → u = v8)
    (k1 : PySem.W.kitOne K (.ref D) v1 = some b1) (k2 : PySem.W.kitOne K (.ref D) v2 = some b2) (k3 : PySem.W.kitOne K (.ref D) v3 = some b3) (k4 : PySem.W.kitOne K (.ref D) v4 = some b4)
    (k5 : PySem.W.kitOne K (.ref D) v5 = some b5) (k6 : PySem.W.kitOne K (.ref D) v6 = some b6) (k7 : PySem.W.kitOne K (.ref D) v7 = some true) (k8 : PySem.W.kitOne K (.ref D) v8 = some true)
    (hc : [b1, b2, b3, b4, b5, b6].count true = 1) (q : ∀ H', (∀ b o, H b = some o → H' b = some o) → Q (.bl true) H') :
    tSeq (tAsg (tLst (tCons (tIs K D a c1) (tCons (tIs K D a c2) (tCons (tIs K D a c3) (tCons (tIs K D a c4) tNil))))) (gName 1)) (tSeq (tAsg (tOp (rAdd4 K) (tVar 1) (tLst (tCons (tIs K D a c5) (tCons (tIs K D a c6) tNil)))) (gName 1))
      (tRet (tAndV (tIs K D a c7) (tAndV (tIs K D a c8) (tOp rEq (tCB (rLen3 K) (tCons (tOnes (tVar 1)) tNil)) (tC (.int 1))))))) Dn [some (.ref a), none, none] H := by
  refine is_ok rfl h1 k1 (is_ok rfl h2 k2 (is_ok rfl h3 k3 (is_ok rfl h4 k4 ⟨by rw [sizeLine_eq]; simp, fun p1 n1 => ?_⟩)))
  have g1 := put_keeps (H0 := H) (o := .lst [.bl b1, .bl b2, .bl b3, .bl b4]) (fun _ _ e => e) n1
  refine ⟨.ref p1, rfl, is_ok rfl h5 k5 (is_ok rfl h6 k6 ⟨by rw [sizeLine_eq]; simp, fun p2 n2 => ?_⟩)⟩
  have g2 := put_keeps (o := .lst [.bl b5, .bl b6]) g1 n2
  have ne12 : p1 ≠ p2 := fun z => by rw [← z, upd_same] at n2; cases n2
  refine .inl (.inr ⟨p1, p2, _, _, rfl, rfl, (upd_ne ne12).trans upd_same, upd_same, by rw [sizeLine_eq]; simp, fun p3 n3 => ?_⟩)
  have g3 := put_keeps (o := .lst ([.bl b1, .bl b2, .bl b3, .bl b4] ++ [.bl b5, .bl b6])) g2 n3
  refine is_ok rfl h7 k7 ⟨true, rfl, ?_⟩
  rw [if_pos rfl]
  refine is_ok rfl h8 k8 ⟨true, rfl, ?_⟩
  rw [if_pos rfl]
  refine ⟨.ref p3, rfl, p3, [b1, b2, b3, b4, b5, b6], rfl, upd_same, by simp, fun p4 n4 => ?_⟩
  have g4 := put_keeps (o := .lst (List.replicate ([b1, b2, b3, b4, b5, b6].count true) (V.int 1))) g3 n4
  refine .inl ⟨p4, _, rfl, .inl (.inl (.of upd_same)), rfl, ?_⟩
  rw [hc, hD]
  exact q _ (by rw [hc] at g4; exact g4)
end
end PD

set_option Elab.async false
set_option linter.all false
set_option maxRecDepth 100000
set_option maxHeartbeats 2000000
namespace PD
open PySem PySem.Spec PyProof.Rows L2 L2H HotX
/-! ### defs whose exceptions' contexts are told -/
theorem okN {P : Program} {w : World} {K : PySem.W.Frag} {mg : Str → Option Value} {base : Heap} {x qual : Str} {st : Stmt} {f : Addr} {fd : FuncData} {N ps : List Str} {k : Nat} {sp : Sp} (F : Fun K x qual st f fd) (S : FnScope N ps (defScope st))
    (len : ∀ vs H Q E, sp vs H Q E → vs.length = ps.length)
    (go : ∀ (cdv : Value) (A : Around) (outer : List Env) (s : Shared) (H : Hp) (vs : List V) (Q : VK) (E : XK), Room k (A.deeper (envOfC qual (defScope st) s.heap.objs.size f cdv)) → sp vs H Q E →
      ∃ t, PSs (cxOf (L2N.CX P w) P w K mg base N qual (defScope st) f cdv A outer s H E) (defBody st) t ∧ t { nx := fun _ H' => Q .non H', rt := Q } (L2.start N vs) H) : FnOk P w K mg base (L2N.CX P w) (k + 1) f fd ps sp := by
  obtain ⟨oc, od, kV, dc, pm, an, cdv, ct, osl, rfl, lk, hcd⟩ := F.ex
  exact fn_of lk hcd S len fun A outer s H vs Q E => go cdv A outer s H vs Q E
theorem takes0N {X : Cx} : L2N.Takes X (fun _ _ _ _ => False) := fun _ _ y => by
  obtain ⟨_, _, _, _, _, _, _, _, _, _, _, _, _, _, _, _, z⟩ := y
  exact z.elim
theorem cxN_end {P : Program} {w : World} {l : List Env} {H : Hp} {s : Shared} {e : Value} {s' : Shared} (h : L2N.CX P w l H s (fun _ _ _ => False) e s') : False := by
  obtain ⟨_, _, _, _, _, _, _, _, _, _, _, _, z⟩ := h
  exact z.elim
/-- raise C(e) -/
theorem pmk_one {X : Cx} {C : Addr} {bmB : List Value} {B newId initId : String} {x : Str} {e : Expr} {ta : TE} {p pos : Pos} (F : ExcBaseFacts B newId initId bmB) (q : PySem.W.excIn X.K C bmB newId = true) (gC : X.mg x = some (.ref C)) (kC : PySem.W.keepIn X.K (.ref C) = true)
    (r : Raises X (.ref C)) (hg : Gl X x) (he : PE X e ta) (hs : starEach [e] X.env = (false, eval e X.env) :: starEach [] X.env := by rfl) (hdb : (x == ("__debug__" : Str)) = false := by decide) :
    L2N.PMk X (.Call (.Name x p) [e] [] pos) (fun σ H Q => ta σ H fun _ H1 => Q (.ref C) none H1) := by
  intro pl s σ H Q I h
  refine wpAny_Call_Name_kw (ld_glob I hg gC (PySem.W.callWith_K (h₀ := X.base) I.ok.mod.kin kC ?_ hs (by rfl)) hdb)
  rw [hs]
  show wpAny _ _ (spliced ((false, eval e X.env) :: backTo pos (starEach [] X.env))) _ _ _
  refine Calls.spliced_cons (thn (he.run pl s σ H _ I h) fun u s1 hu => Calls.spliced_nil ?_)
  obtain ⟨v, H1, I1, ru, q1⟩ := hu
  refine ⟨I1.kIn, ?_⟩
  show wpAny _ X.A (call (.ref C) [u]) _ _ _
  obtain ⟨bm, N, nm, qn, bs, hdct, sn, sub, ab, col, dd, k0, k1, k2, k3, k5, mN, c1, c2, c3, T⟩ := exc_obj I1.kIn q
  exact wpAny_call_exc_subT F T c1 c2 c3 (fun g u' hm => L2N.mk_of I1 hm r q1 (I1.hok.gone hm.new)) (by rw [sizeLine_eq]; simp)
/-! ### the law's look at an exception, called from the suite that holds it -/
/-- an exception's class of which just one of six looks is true, and two others too -/
structure AloneOk (K : PySem.W.Frag) (v1 v2 v3 v4 v5 v6 v7 v8 : Value) (cls : Value) (d : Option Addr) : Prop where
  no : d = none
  ex : ∃ (D : Addr) (b1 b2 b3 b4 b5 b6 : Bool), cls = .ref D ∧ ExcC K D ∧ PySem.W.kitOne K (.ref D) v1 = some b1 ∧ PySem.W.kitOne K (.ref D) v2 = some b2 ∧ PySem.W.kitOne K (.ref D) v3 = some b3 ∧ PySem.W.kitOne K (.ref D) v4 = some b4 ∧
    PySem.W.kitOne K (.ref D) v5 = some b5 ∧ PySem.W.kitOne K (.ref D) v6 = some b6 ∧ PySem.W.kitOne K (.ref D) v7 = some true ∧ PySem.W.kitOne K (.ref D) v8 = some true ∧ [b1, b2, b3, b4, b5, b6].count true = 1
theorem hot_of {a : Addr} {oe : Obj} {cls : Value} {d : Option Addr} {A : Around} (hz : L2N.Zn cls d oe) (hf : ∃ vs, oe.data = .fields vs) : Hot1 (A.mark (some (.ref a))) (a, oe) := by
  obtain ⟨vs, e⟩ := hf
  exact ⟨rfl, vs, e, hz.2.2 vs e⟩
/-- return f(e) -/
def mHeldRet (i : Nat) (good : Nat → Bool) (c : Nat) : MS := fun δ μ => if i < δ.length ∧ good c = true then some (.rt (.sh (.bool true)), μ) else none
section
variable {K : PySem.W.Frag} {cl : Nat → Value} {W : WX}
theorem sm_heldRet {i : Nat} {good : Nat → Bool} {P : Value → Option Addr → Prop} (hg : ∀ c, good c = true → P (cl c) none) {c : Nat} {a : Addr} {σ : Sg} {δ : Sl} {p : Pt} (s : Sls K p σ δ) (ha : i < σ.length → σ[i]? = some (some (.ref a))) :
    SDo K cl W (fun D H => tRet (tHeld a (P (cl c) none) (tCons (tVar i) tNil)) D σ H) (mHeldRet i good c δ) p := by
  intro μ w r μ' e D hq
  unfold mHeldRet at e
  split at e
  · rename_i h
    cases e
    refine ⟨.ref a, ha (by rw [s.len]; exact h.1), rfl, hg c h.2, fun H' k => ?_⟩
    have g : Gr p ⟨H', p.Hs, p.ρ⟩ := ⟨fun b o e _ => k b o e, Sub.refl _, fun _ _ _ z => z, ⟨[], by simp⟩, fun b m => .inl m⟩
    have w' : Wd K ⟨H', p.Hs, p.ρ⟩ μ := ⟨fun b o e => k b o (w.ex b o e), w.nd, w.out, w.len, fun n ys h => by
      obtain ⟨b, us, h1, h2, h3⟩ := w.cel n ys h
      exact ⟨b, us, h1, k _ _ h2, h3.mono g⟩⟩
    exact hq _ g w' _ (.sh (.bl true))
  · cases e
end
end PD

set_option Elab.async false
set_option linter.all false
set_option maxRecDepth 100000
set_option maxHeartbeats 1000000
namespace PD
open PySem PySem.Spec PyProof.Rows L2
/-! ### slices -/
def cutM (xs : List MV) (lo hi : Option Int) : List MV := (xs.drop (HT.sIx xs.length 0 lo)).take (HT.sIx xs.length xs.length hi - HT.sIx xs.length 0 lo)
abbrev rSl3 (K : PySem.W.Frag) : V → Option Int → Option Int → Hp → VK → Prop := fun x lo hi H Q => (rSlS x lo hi H Q ∨ rSlL K x lo hi H Q) ∨ L2.rSlA K x lo hi H Q
theorem sl_all {X : Cx} : SlR X (rSl3 X.K) := (sl_str.or sl_list).or sl_tupA
def POm (K : PySem.W.Frag) (cl : Nat → Value) (W : WX) (to : TO) (m : Sl → M (Option Int)) : Prop := ∀ (σ : Sg) (δ : Sl) (p : Pt), Sls K p σ δ → Does K cl W σ (fun _ a b => a = b) (to σ) (m δ) p
def mNoPart : Sl → M (Option Int) := fun _ => M.ret none
def mPart (m : Sl → M MV) : Sl → M (Option Int) := fun δ => (m δ).bind fun x => match x with
  | .sh (.int i) => M.ret (some i)
  | _ => fun _ => none
def mSl (b : Bool) (m : Sl → M MV) (lo hi : Sl → M (Option Int)) : Sl → M MV := fun δ => (m δ).bind fun x => (lo δ).bind fun l => (hi δ).bind fun h => match x with
  | .sh (.str z) => if z.length ≤ sizeLine then M.ret (.sh (.str (cutS z l h))) else fun _ => none
  | x => fun μ => match lview μ x with
    | some xs => M.mkL b (cutM xs l h) μ
    | none => match tview x with
      | some xs => some (.ok (if HT.sIx xs.length 0 l = 0 ∧ HT.sIx xs.length xs.length h = xs.length then x else mkT (cutM xs l h)), μ)
      | none => none
section
variable {K : PySem.W.Frag} {cl : Nat → Value} {W : WX} {te : TE} {me : Sl → M MV} {tl th : TO} {ml mh : Sl → M (Option Int)}
theorem om_none : POm K cl W tNoPart mNoPart := fun σ δ p s => Does.ret rfl
theorem om_some (he : PEm K cl W te me) : POm K cl W (tPart te) (mPart me) := fun σ δ p s =>
  Does.bind (t := te σ) (k := fun (x : V) (H1 : Hp) (Q : Option Int → Hp → Prop) => ∃ i, x = V.int i ∧ Q (some i) H1) (he σ δ p s) fun q g x mx rx => by
    intro μ w r μ' e Q hq
    split at e
    · cases e
      exact ⟨_, rp_int rx, hq q (Gr.refl q) w _ rfl⟩
    · cases e
theorem cut_all {p : Pt} {vs : List V} {xs : List MV} (r : RpAll K p vs xs) (lo hi : Option Int) : RpAll K p (cutV vs lo hi) (cutM xs lo hi) := by
  unfold cutV cutM
  rw [r.length]
  exact (r.drop _).take _
theorem pm_sl {b : Bool} (he : PEm K cl W te me) (hl : POm K cl W tl ml) (hh : POm K cl W th mh) : PEm K cl W (tSl (rSl3 K) te tl th) (mSl b me ml mh) := fun σ δ p s =>
  Does.bind (t := te σ) (k := fun (x : V) (H1 : Hp) (Q : V → Hp → Prop) => tl σ H1 fun l H2 => th σ H2 fun u H3 => rSl3 K x l u H3 Q) (he σ δ p s) fun q1 g1 x mx rx =>
  Does.bind (t := tl σ) (k := fun (l : Option Int) (H2 : Hp) (Q : V → Hp → Prop) => th σ H2 fun u H3 => rSl3 K x l u H3 Q) (hl σ δ q1 (s.mono g1)) fun q2 g2 l _ el =>
  Does.bind (t := th σ) (k := fun (u : Option Int) (H3 : Hp) (Q : V → Hp → Prop) => rSl3 K x l u H3 Q) (hh σ δ q2 ((s.mono g1).mono g2)) fun q3 g3 u _ eu => by
    subst el eu
    have rx3 := (rx.mono g2).mono g3
    intro μ w r μ' e Q hq
    split at e
    · split at e
      · rename_i z hz
        cases e
        exact .inl (.inl ⟨z, rp_str rx3, hz, hq q3 (Gr.refl q3) w _ (.sh (.str _))⟩)
      · cases e
    · dsimp only at e
      cases h : lview μ mx with
      | some xs =>
        rw [h] at e
        obtain ⟨a, us, rfl, h1, h2⟩ := lview_ok w rx3 h
        exact .inl (.inr ⟨a, us, rfl, h1, Does.mkL (cl := cl) (W := W) (σ := σ) (t := fun H Q => ∀ l', H l' = none → Q (V.ref l') (upd H l' (.lst (cutV us l u)))) (cut_all h2 l u) (fun Q hq => hq) μ w r μ' e Q hq⟩)
      | none =>
        rw [h] at e
        dsimp only at e
        cases h' : tview mx with
        | some xs =>
          rw [h'] at e
          obtain ⟨a, us, rfl, h1, h2⟩ := tview_ok rx3 h'
          dsimp only at e
          refine .inr ⟨a, us, rfl, .of (w.ex _ _ h1), ?_⟩
          rw [h2.length]
          split at e
          · rename_i hn
            cases e
            exact ⟨fun _ => hq q3 (Gr.refl q3) w _ rx3, fun z => absurd hn z⟩
          · rename_i hn
            refine ⟨fun z => absurd z hn, fun _ => ?_⟩
            exact Does.mkT (cl := cl) (W := W) (σ := σ) (t := fun H Q => ∀ l', H l' = none → Q (V.ref l') (upd H l' (.tup (cutV us l u)))) (cut_all h2 l u) (fun Q hq => hq) μ w r μ' e Q hq
        | none =>
          rw [h'] at e
          cases e
/-! ### int(x) -/
def mInt : List MV → M MV
  | [.sh (.int i)] => M.ret (.sh (.int i))
  | [.sh (.bool k)] => M.ret (.sh (.int (if k then 1 else 0)))
  | _ => fun _ => none
theorem rc_int : RCm K cl (fun xs H Q => (∃ i, xs = [.int i] ∧ Q (.int i) H) ∨ ∃ k, xs = [.bl k] ∧ Q (.int (if k then 1 else 0)) H) mInt := by
  intro W σ p vs ms r
  unfold mInt
  split
  · obtain ⟨v, rfl, rx⟩ := rp1 r
    obtain rfl := rp_int rx
    intro μ w r μ' e Q hq
    cases e
    exact .inl ⟨_, rfl, hq p (Gr.refl p) w _ (.sh (.int _))⟩
  · obtain ⟨v, rfl, rx⟩ := rp1 r
    intro μ w r μ' e Q hq
    cases e
    cases rx with
    | sh q =>
      cases q
      exact .inr ⟨_, rfl, hq p (Gr.refl p) w _ (.sh (.int _))⟩
  · exact Does.none
end
/-! ### own classes: what the written part says of them -/
section
variable {K : PySem.W.Frag} {C D : Addr} {cls : Value} {b : Bool}
theorem own_cls (h2 : PySem.W.isClsIn K C = true) (h3 : PySem.W.typeIn K (.ref C) = some (.type "type")) : ((PySem.W.clsIn K C).isSome && PySem.W.typeIn K (.ref C) == some (.type "type")) = true := by
  have h : (PySem.W.clsIn K C).isSome = true := h2
  rw [h, h3]
  rfl
theorem exm_own (h1 : PySem.W.subIn K (.ref C) (.type "BaseException") = some true) (h2 : PySem.W.isClsIn K C = true) (h3 : PySem.W.typeIn K (.ref C) = some (.type "type")) (h4 : PySem.W.subIn K cls (.ref C) = some b) : PySem.W.exmOne K cls (.ref C) = some b := by
  have e1 : (PySem.W.subIn K (.ref C) (.type "BaseException") == some true) = true := by rw [h1]; rfl
  show (if (PySem.W.subIn K (.ref C) (.type "BaseException") == some true) = true then (if ((PySem.W.clsIn K C).isSome && PySem.W.typeIn K (.ref C) == some (.type "type")) = true then PySem.W.subIn K cls (.ref C) else none) else none) = _
  rw [if_pos e1, if_pos (own_cls h2 h3), h4]
theorem kit_own (h2 : PySem.W.isClsIn K C = true) (h3 : PySem.W.typeIn K (.ref C) = some (.type "type")) (h4 : PySem.W.subIn K (.ref D) (.ref C) = some b) (h5 : PySem.W.subIn K (.ref D) (.ref D) = some true) : PySem.W.kitOne K (.ref D) (.ref C) = some b := by
  unfold PySem.W.kitOne
  by_cases h : D = C
  · subst h
    rw [h5] at h4
    cases h4
    rw [if_pos (by simp)]
  · rw [if_neg (by simpa using h)]
    unfold PySem.W.kitCls
    dsimp only
    rw [if_pos (own_cls h2 h3), h4]
theorem kit_blt {T : String} (h : PySem.W.subIn K (.ref D) (.type T) = some true) (hm : PySem.W.kitMeta T = true) : PySem.W.kitOne K (.ref D) (.type T) = some true := by
  unfold PySem.W.kitOne
  rw [if_neg (by intro z; cases (beq_iff_eq.mp z))]
  unfold PySem.W.kitCls
  dsimp only
  rw [if_pos hm, h]
end
end PD

set_option Elab.async false
set_option linter.all false
set_option maxRecDepth 100000
set_option maxHeartbeats 1000000
namespace PD
open PySem PySem.Spec PyProof.Rows L2
/-! ### t * k, k nought and one too -/
theorem tuple_mul1 (l : Addr) (items : Array Value) (n : Nat) (sl : Array (Option Value)) (dd : Option Addr) (u : Tok) :
    Meets (Builtin.«tuple.__mul__» ⟨[.ref l, .int 1 u], []⟩) (fun _ R s => s.heap.get? l = some { cls := .type "tuple", dict := dd, data := .seq items n, slots := sl } ∧ R (.ok (.ret (Value.ref l))) s) :=
  .of_wp fun prog w A R s h => by
    obtain ⟨hp, g, d, tk, os⟩ := s
    obtain ⟨hl, h⟩ := h
    have f1 := AutoSeq1.idx_int
    have c0 : (decide ((1 : Int) < -(2 ^ 63)) || decide ((1 : Int) ≥ 2 ^ 63)) = false := by decide
    have c1 : (items.isEmpty || (1 : Int) == 1) = true := by simp
    wp_walk using wpAny_loadPart' hl
    repeat (first
      | (refine wpAny_ite_false (decide_eq_false (by rw [c0]; exact Bool.false_ne_true)) ?_; wp_walk using wpAny_loadPart' hl)
      | (refine wpAny_ite_true (decide_eq_true c1) ?_; wp_walk using wpAny_loadPart' hl))
    exact ⟨_, rfl, h⟩
theorem tuple_mul0 (l : Addr) (items : Array Value) (n : Nat) (sl : Array (Option Value)) (dd : Option Addr) (u : Tok) (hn : items.isEmpty = false) :
    Meets (Builtin.«tuple.__mul__» ⟨[.ref l, .int 0 u], []⟩) (fun _ R s => s.heap.get? l = some { cls := .type "tuple", dict := dd, data := .seq items n, slots := sl } ∧
      R (.ok (.ret (Value.ref s.heap.objs.size))) { s with heap := s.heap.push { cls := Value.type "tuple", data := Data.seq #[] }, toks := s.toks }) :=
  .of_wp fun prog w A R s h => by
    obtain ⟨hp, g, d, tk, os⟩ := s
    obtain ⟨hl, h⟩ := h
    have f1 := AutoSeq1.idx_int
    have c0 : (decide ((0 : Int) < -(2 ^ 63)) || decide ((0 : Int) ≥ 2 ^ 63)) = false := by decide
    have c1 : (items.isEmpty || (0 : Int) == 1) = false := by rw [hn]; rfl
    have c2 : (decide ((0 : Int) ≤ 0) || items.isEmpty) = true := by simp
    wp_walk using wpAny_loadPart' hl
    repeat (first
      | (refine wpAny_ite_false (decide_eq_false (by rw [c0]; exact Bool.false_ne_true)) ?_; wp_walk using wpAny_loadPart' hl)
      | (refine wpAny_ite_false (decide_eq_false (by rw [c1]; exact Bool.false_ne_true)) ?_; wp_walk using wpAny_loadPart' hl)
      | (refine wpAny_ite_true (decide_eq_true c2) ?_; wp_walk using wpAny_loadPart' hl))
    exact ⟨_, rfl, h⟩
abbrev rRepA (K : PySem.W.Frag) : R2 := fun x y H Q => ∃ l k xs, x = .ref l ∧ y = .int k ∧ SqT K H l xs ∧ xs ≠ [] ∧ 0 ≤ k ∧ k ≤ 1000 ∧ xs.length ≤ 1000 ∧ (k = 1 → Q (.ref l) H) ∧ (k ≠ 1 → ∀ p, H p = none → Q (.ref p) (upd H p (.tup (List.replicate k.toNat xs).flatten)))
theorem op_repA {X : Cx} : OpR X (binaryOp .Mult) (rRepA X.K) := by
  intro pins s σ H x y v u Q I rx ry h
  obtain ⟨l, k, xs, rfl, rfl, hT, hne, h1, h2, hz, q1, q2⟩ := h
  by_cases hk : 2 ≤ k
  · exact op_repT pins s σ H _ _ v u Q I rx ry ⟨l, k, xs, rfl, rfl, hT, hne, hk, h2, hz, q2 (by omega)⟩
  cases rx
  obtain ⟨t, rfl⟩ := ry
  obtain ⟨its, r, ⟨⟨cls, dd, data, sl⟩, ho, hc, n, hd⟩, hs⟩ := I.tuple hT
  simp only at hc hd
  subst hc hd
  have hle : its.length = xs.length := r.length.symm
  have hi : its.toArray.isEmpty = false := by
    cases its with
    | nil =>
      cases xs with
      | nil => exact absurd rfl hne
      | cons a b => cases hle
    | cons a b => rfl
  have hk' : k = 0 ∨ k = 1 := by omega
  rcases hk' with rfl | rfl
  · refine wpAny_binaryOp_repeat_ref (T := "tuple") (U := "int") (by decide) ⟨_, ho, rfl⟩ (fun s' => typeIs_int s' 0 t) noFill_tuple_mul F.fills_int_mul F.slot_int_rmul repeat_tuple F.slot_int_index.lookup
      (call_meets F.slot_int_rmul (typeIs_int s 0 t) F.entry_int_rmul (F.args_int_rmul_2 _ _) (int_rmul_tuple 0 t l its.toArray n dd sl)
        ⟨ho, rfl, ⟨_, ho, rfl⟩, call_meets F.slot_tuple_mul ⟨_, ho, rfl⟩ F.entry_tuple_mul (F.args_tuple_mul_2 _ _) (tuple_mul0 l its.toArray n sl dd t hi) ⟨ho, ?_⟩⟩)
    refine ⟨.ref s.heap.objs.size, _, I.laid (t' := s.toks) (o := .tup []) (fun b ob q => Heap.get?_push_of_some _ q) (Nat.le_refl _) ?_, rfl, q2 (by decide) _ (I.hok.fresh (Nat.le_refl _))⟩
    exact ⟨by rw [sizeLine_eq]; simp, [], .nil, IsTup.new _ _⟩
  · exact wpAny_binaryOp_repeat_ref (T := "tuple") (U := "int") (by decide) ⟨_, ho, rfl⟩ (fun s' => typeIs_int s' 1 t) noFill_tuple_mul F.fills_int_mul F.slot_int_rmul repeat_tuple F.slot_int_index.lookup
      (call_meets F.slot_int_rmul (typeIs_int s 1 t) F.entry_int_rmul (F.args_int_rmul_2 _ _) (int_rmul_tuple 1 t l its.toArray n dd sl)
        ⟨ho, rfl, ⟨_, ho, rfl⟩, call_meets F.slot_tuple_mul ⟨_, ho, rfl⟩ F.entry_tuple_mul (F.args_tuple_mul_2 _ _) (tuple_mul1 l its.toArray n sl dd t) ⟨ho, ⟨.ref l, H, I, rfl, q1 rfl⟩⟩⟩)
/-- (..) * k -/
def mRepT (x y : MV) : M MV := match y with
  | .sh (.int k) => match tview x with
    | some xs => if xs.isEmpty = false ∧ 0 ≤ k ∧ k ≤ 1000 ∧ xs.length ≤ 1000 then M.ret (if k = 1 then x else mkT (List.replicate k.toNat xs).flatten) else fun _ => none
    | none => fun _ => none
  | _ => fun _ => none
section
variable {K : PySem.W.Frag} {cl : Nat → Value} {W : WX}
theorem r2_repT : R2m K cl (rRepA K) mRepT := by
  intro W σ p x y mx my rx ry
  unfold mRepT
  split
  · rename_i k
    obtain rfl := rp_int ry
    split
    · rename_i xs h
      refine Does.if fun hd => ?_
      intro μ w r μ' e Q hq
      obtain ⟨a, vs, rfl, ha, rv⟩ := tview_ok rx h
      have e1 := rv.length
      refine ⟨a, k, vs, rfl, rfl, .of (w.ex _ _ ha), ?_, hd.2.1, hd.2.2.1, by omega, fun hk => ?_, fun hk => ?_⟩
      · intro hn
        subst hn
        cases xs with
        | nil => exact absurd hd.1 (by decide)
        | cons x r => cases e1
      · rw [if_pos hk] at e
        cases e
        exact hq p (Gr.refl p) w _ rx
      · rw [if_neg hk] at e
        cases e
        intro l hl
        obtain ⟨q, eq, g, w', r'⟩ := newT w (rv.rep k.toNat) l hl
        have := hq q g w' _ r'
        rw [eq] at this
        exact this
    · exact Does.none
  · exact Does.none
/-! ### a def called with the exception that a suite holds, within an expression -/
theorem pm_held {i : Nat} {a : Addr} {good : Prop} {σ0 : Sg} (ha : σ0[i]? = some (some (.ref a))) (hg : good) : PEm K cl W (fun _ H Q => tHeld a good (tCons (tVar i) tNil) σ0 H Q) (mC (.bool true)) := by
  intro σ δ p s μ w r μ' e Q hq
  cases e
  refine ⟨.ref a, ha, rfl, hg, fun H' k => ?_⟩
  have g : Gr p ⟨H', p.Hs, p.ρ⟩ := ⟨fun b o e _ => k b o e, Sub.refl _, fun _ _ _ z => z, ⟨[], by simp⟩, fun b m => .inl m⟩
  have w' : Wd K ⟨H', p.Hs, p.ρ⟩ μ := ⟨fun b o e => k b o (w.ex b o e), w.nd, w.out, w.len, fun n ys h => by
    obtain ⟨b, us, h1, h2, h3⟩ := w.cel n ys h
    exact ⟨b, us, h1, k _ _ h2, h3.mono g⟩⟩
  exact hq _ g w' _ (.sh (.bl true))
/-- xs.append(f(e)), xs in slot j -/
def mHeldApp (j i : Nat) (good : Nat → Bool) (c : Nat) : MS := fun δ μ => if i < δ.length ∧ good c = true then mDrop (mCellM fAppend (mVar j) (mCons (mC (.bool true)) mNil)) δ μ else none
theorem sm_heldApp {j i : Nat} {good : Nat → Bool} {P : Value → Option Addr → Prop} (hg : ∀ c, good c = true → P (cl c) none) {c : Nat} {a : Addr} {σ : Sg} {δ : Sl} {p : Pt} (s : Sls K p σ δ) (ha : i < σ.length → σ[i]? = some (some (.ref a))) :
    SDo K cl W (fun D H => tDrop (tBM K "list" rAppend (tVar j) (tCons (tHeld a (P (cl c) none) (tCons (tVar i) tNil)) tNil)) D σ H) (mHeldApp j i good c δ) p := by
  intro μ w r μ' e D hq
  unfold mHeldApp at e
  split at e
  · rename_i h
    exact sm_drop (pm_cellM cm_append pm_var (am_cons (pm_held (σ0 := σ) (ha (by rw [s.len]; exact h.1)) (hg c h.2)) am_nil)) σ δ p s μ w r μ' e D hq
  · cases e
end
end PD

set_option Elab.async false
set_option linter.all false
set_option maxRecDepth 100000
set_option maxHeartbeats 2000000
namespace PD
open PySem PySem.Spec PyProof.Rows L2
/-! ### enumerate(t), t a tuple -/
def IteT (K : PySem.W.Frag) (a : Addr) : It :=
  ⟨fun i H => ∃ (xs : List V) (x : V), SqT K H a xs ∧ xs[i]? = some x, fun i H v H' => ∃ T x, v = .ref T ∧ H T = none ∧ H' = upd H T (.tup [.int (i : Nat), x]) ∧ ∀ xs, SqT K H a xs → xs[i]? = some x, fun i H => ∃ xs : List V, SqT K H a xs ∧ xs.length ≤ i⟩
theorem ty_ne {a b : String} (h : a ≠ b) : ¬ (Value.type a = Value.type b) := fun z => h (by injection z)
/-- an iterator that stands behind the last item -/
theorem draws_end {prog : Program} {w : World} {A : Around} (hh : A.handled = none) {it t : Addr} (hne : t ≠ it) {items : Array Value} {n : Nat} (hn : items[n]? = none) :
    Draws prog w A it [it, t] n (fun _ _ => False) (fun i h => i = n ∧ h.IsTupleIter it t i ∧ h.IsTuple t items) where
  live := fun _ _ st => let ⟨o, ho, _⟩ := st.2.1; ⟨o, ho⟩
  frame := fun _ _ _ st hk => ⟨st.1, st.2.1.at fun o e => hk it (by simp) o e, st.2.2.at fun o e => hk t (by simp) o e⟩
  item := fun i s Q E hi st _ => absurd st.1 (by omega)
  done := fun s Q E st hE => wpAny_nextOf_tuple_end hh st.2.1 st.2.2 hn hE
theorem turn_enumT {P : Program} {w : World} {K : PySem.W.Frag} {elts : List Expr} {kk : Nat} {tpos : Pos} (a e it : Addr) :
    Turn P w K (.Tuple elts kk tpos) (IteT K a) [e, it] e (fun i h => (∃ old, IsEnum h e it ((i : Nat) : Int) old) ∧ h.IsTupleIter it a i ∧ e ≠ it) where
  mem := by simp
  obj := fun i h st b hb => by
    obtain ⟨⟨old, he⟩, ⟨o, ho, hc, hd⟩, _⟩ := st
    rcases (by simpa using hb : b = e ∨ b = it) with z | z
    · rw [z]
      exact ⟨_, he, fun v q => by cases q⟩
    · rw [z]
      exact ⟨o, ho, fun v q => by rw [hd] at q; cases q⟩
  keep := fun i h h' st k => by
    obtain ⟨⟨old, he⟩, hi, hne⟩ := st
    exact ⟨⟨old, k e (by simp) _ he⟩, hi.at fun o q => k it (by simp) o q, hne⟩
  item := by
    intro X hP hw hK hc i pins s σ H E I hf st hg
    subst hP hw hK
    obtain ⟨⟨old, he⟩, hit, hne⟩ := st
    obtain ⟨xs, x, hq, hx⟩ := hg
    obtain ⟨its, rv, p, hz⟩ := I.tuple hq
    obtain ⟨u, hu, ru⟩ := rv.get hx
    have hTa : s.heap.IsTuple a its.toArray := p
    have hea : e ≠ a := fun z => by
      obtain ⟨o, ho, hcl, _⟩ := hTa
      rw [← z, he] at ho
      cases ho
      exact ty_ne (by decide) hcl
    have hia : a ≠ it := fun z => by
      obtain ⟨o, ho, hcl, _⟩ := hTa
      obtain ⟨o2, ho2, hcl2, _⟩ := hit
      rw [z, ho2] at ho
      cases ho
      rw [hcl2] at hcl
      exact ty_ne (by decide) hcl
    have hel : e < s.heap.objs.size := Heap.lt_size he
    have hil : it < s.heap.objs.size := by
      obtain ⟨_, q, _⟩ := hit
      exact Heap.lt_size q
    have hix : i < its.toArray.size := by
      have := (List.getElem?_eq_some_iff.mp hu).1
      simpa using this
    refine wpAny_pyNext_enum_itemD (Draws.tuple (A := X.A.in1) (I.ok.hd hc) it a hia its.toArray) he ⟨hit, hTa⟩ hix hne (by simp [hne, hea]) fun y h' tk hP ho hst hT hsz hk => ?_
    have ey : y = u := by
      have h1 : its.toArray[i]? = some u := by simpa using hu
      rw [hP] at h1
      exact Option.some.inj h1
    subst ey
    refine ⟨_, rfl, wpAny_letOwnedTupleGo_enum (s := { s with heap := h', toks := tk + 1 }) ho fun h'' he' sb => ?_⟩
    have hT2 : h''.get? s.heap.objs.size = some { cls := .type "tuple", data := .seq #[.int i tk, y] } := (sb.2 _ (Nat.ne_of_gt hel)).trans hT
    have new : ObjOk X.prog X.w (upd H s.heap.objs.size (.tup [.int (i : Nat), x])) h'' s.heap.objs.size (.tup [.int (i : Nat), x]) :=
      ⟨by show 2 ≤ sizeLine; decide, [.int i tk, y], .cons ⟨_, rfl⟩ (.cons ru .nil), ⟨_, hT2, rfl, _, rfl⟩⟩
    have I1 : Inv X pins σ (upd H s.heap.objs.size (.tup [.int (i : Nat), x])) { s with heap := h'', toks := tk + 1 } :=
      I.turnedNew (t' := tk + 1) (ch := [e, it]) (fun b ob hb q => by
        have hb1 : b ≠ e := fun z => hb (by simp [z])
        have hb2 : b ≠ it := fun z => hb (by simp [z])
        exact (sb.2 b hb1).trans (hk b ob hb1 hb2 q)) hf (Nat.le_refl _) new
    refine ⟨.ref s.heap.objs.size, _, I1, rfl, ⟨_, x, rfl, I.hok.fresh (Nat.le_refl _), rfl, fun ys hy => by rw [I.tuple_inj hy hq]; exact hx⟩, ⟨⟨y, ?_⟩, hst.1.at fun o q => (sb.2 it (Ne.symm hne)).trans q, hne⟩, fun b hb => ?_⟩
    · rw [show ((i + 1 : Nat) : Int) = (i : Int) + 1 by omega]
      exact he'
    · have hb' : b < s.heap.objs.size := by
        rcases (by simpa using hb : b = e ∨ b = it) with z | z
        · rw [z]
          exact hel
        · rw [z]
          exact hil
      rw [upd_ne (Nat.ne_of_lt hb')]
      exact (hf b hb).1
  done := by
    intro X hP hw hK hc i pins s σ H E I hf st hg
    subst hP hw hK
    obtain ⟨⟨old, he⟩, hit, hne⟩ := st
    obtain ⟨xs, hq, hx⟩ := hg
    obtain ⟨its, rv, p, hz⟩ := I.tuple hq
    have hTa : s.heap.IsTuple a its.toArray := p
    have hia : a ≠ it := fun z => by
      obtain ⟨o, ho, hcl, _⟩ := hTa
      obtain ⟨o2, ho2, hcl2, _⟩ := hit
      rw [z, ho2] at ho
      cases ho
      rw [hcl2] at hcl
      exact ty_ne (by decide) hcl
    obtain ⟨f0, f1, f2, f3, f4, f5⟩ := hf it (by simp)
    have hl := rv.length
    have hn : its.toArray[i]? = none := by
      rw [Array.getElem?_eq_none_iff, List.size_toArray]
      omega
    exact wpAny_pyNext_enum_endD (draws_end (A := X.A.in1) (I.ok.hd hc) hia hn) he ⟨rfl, hit, hTa⟩ fun h' eb => ⟨rfl, I.turned (t' := s.toks) (fun b o hb q => eb b o hb q) f0 f1 f3 f4 f5⟩
  self := fun A i s Q E st h => by
    obtain ⟨⟨_, he⟩, _⟩ := st
    exact wpAny_pyIter_enum he h
theorem new_enumT (t : Addr) (items : Array Value) :
    Meets (Builtin.«enumerate.__new__» ⟨[.type "enumerate", .ref t], []⟩) (fun _ R s => s.heap.IsTuple t items ∧
      R (.ok (.ret (.ref (s.heap.push { cls := .type "tuple_iterator", data := .fields #[.ref t, .int 0 0] }).objs.size))) { s with heap := (s.heap.push { cls := .type "tuple_iterator", data := .fields #[.ref t, .int 0 0] }).push { cls := .type "enumerate", data := .fields #[.none, .bool false, .ref s.heap.objs.size, rawInt 0, .none, .none] } }) :=
  .of_wp fun prog w A R s h => by
    obtain ⟨hp, g, d, tk, os⟩ := s
    obtain ⟨h1, h⟩ := h
    have hsub := sub_enumerate
    have q1 : ∀ {A' : Around} {E : Value → Shared → Prop} {Q : Value → Shared → Prop}, Q (.ref hp.objs.size) ⟨hp.push { cls := .type "tuple_iterator", data := .fields #[.ref t, .int 0 0] }, g, d, tk, os⟩ → wpAny (model prog w) A' (pyIter (.ref t)) Q E ⟨hp, g, d, tk, os⟩ :=
      fun q => (begins_tuple t items).iter prog w _ _ ⟨hp, g, d, tk, os⟩ _ h1 q
    wp_walk using q1
    refine wpAny_stack_any fun st => wpAny_pure ?_
    split
    · rename_i c _ _ _ _ _
      cases (c == Value.type "enumerate") <;> (wp_walk using q1; exact ⟨_, rfl, h⟩)
    · wp_walk using q1
      exact ⟨_, rfl, h⟩
theorem call_enumT {prog : Program} {w : World} {A : Around} {E : Value → Shared → Prop} {s : Shared} {t : Addr} {items : Array Value} {Q : Value → Shared → Prop} (ht : s.heap.IsTuple t items)
    (h : ∀ h', IsEnum h' (s.heap.objs.size + 1) s.heap.objs.size 0 .none → h'.IsTupleIter s.heap.objs.size t 0 → (∀ b o, s.heap.get? b = some o → h'.get? b = some o) → Q (.ref (s.heap.objs.size + 1)) { s with heap := h' }) :
    wpAny (model prog w) A (call (.type "enumerate") [.ref t]) Q E s := by
  refine callType_new F.called_enumerate (by decide) (F.typeCall_enumerate_1 _) (F.newCall_enumerate_1 _) (fun obj => F.args_object_init_2 obj _) F.entry_enumerate_new (new_enumT t items) ⟨ht, ?_⟩
  have hz : (s.heap.push { cls := .type "tuple_iterator", data := .fields #[.ref t, .int 0 0] }).objs.size = s.heap.objs.size + 1 := by rw [Heap.size_push]
  show _ ∧ _
  rw [hz]
  have he : IsEnum ((s.heap.push { cls := .type "tuple_iterator", data := .fields #[.ref t, .int 0 0] }).push { cls := .type "enumerate", data := .fields #[.none, .bool false, .ref s.heap.objs.size, rawInt 0, .none, .none] }) (s.heap.objs.size + 1) s.heap.objs.size 0 .none := by
    have := Heap.get?_push_size (s.heap.push { cls := .type "tuple_iterator", data := .fields #[.ref t, .int 0 0] }) (o := { cls := .type "enumerate", data := .fields #[.none, .bool false, .ref s.heap.objs.size, rawInt 0, .none, .none] }) rfl
    rw [hz] at this
    exact this
  refine ⟨⟨_, he, rfl⟩, h _ he ⟨_, Heap.get?_push_of_some _ (Heap.get?_push_size _ rfl), rfl, rfl⟩ fun b o x => ?_⟩
  exact Heap.get?_push_of_some _ (Heap.get?_push_of_some _ x)
def iEnumT (K : PySem.W.Frag) (ta : TA) : TI := fun σ H R => ta σ H fun vs H1 => ∃ a xs, vs = [.ref a] ∧ SqT K H1 a xs ∧ R (IteT K a) H1
theorem pi_enumT {X : Cx} {e : Expr} {ta : TA} {p pos tpos : Pos} {elts : List Expr} {kk : Nat} (hg : Gl X "enumerate") (hm : X.mg "enumerate" = none) (ha : PA X [e] ta) (hs : starEach [e] X.env = [(false, eval e X.env)] := by rfl) :
    PI X (.Tuple elts kk tpos) (.Call (.Name "enumerate" p) [e] [] pos) (iEnumT X.K ta) := by
  refine ⟨fun pins s σ H R I h => ?_⟩
  refine Call_ (ld_blt I hg hm boot_enumerate (PyProof.Rows.callWith_type1 (thn (ha.run pos pins s σ H _ I h) fun us s1 hu => ?_) hs rfl))
  obtain ⟨vs, H1, I1, r1, a, xs, ex, hq, q⟩ := hu
  subst ex
  cases r1 with
  | cons r rr =>
    cases rr
    cases r
    obtain ⟨its, rv, p', hz⟩ := I1.tuple hq
    refine call_enumT (show s1.heap.IsTuple a its.toArray from p') fun h' he hit hk => wpAny_pyIter_enum he ?_
    have I2 : Inv X pins σ H1 { s1 with heap := h' } := I1.kept (t' := s1.toks) hk
    refine ⟨s1.heap.objs.size + 1, [s1.heap.objs.size + 1, s1.heap.objs.size], _, _, H1, rfl, I2, turn_enumT a (s1.heap.objs.size + 1) s1.heap.objs.size, ⟨⟨.none, he⟩, hit, Nat.succ_ne_self _⟩, fun b hb => ?_, q⟩
    have hle : s1.heap.objs.size ≤ b := by
      rcases (by simpa using hb : b = s1.heap.objs.size + 1 ∨ b = s1.heap.objs.size) with z | z <;> rw [z]
      · exact Nat.le_add_right _ _
      · exact Nat.le_refl _
    exact I1.fpOk hle (I1.hok.fresh hle)
def mEnumT (a : Sl → M (List MV)) : Sl → M Src := fun δ => (a δ).bind fun xs => M.opt (match xs with
  | [x] => (tview x).map fun ys => .st (enumI 0 ys)
  | _ => none)
theorem it_enumT {K : PySem.W.Frag} {p : Pt} {a : Addr} {vs : List V} {xs : List MV} (r : RpAll K p vs xs) (st : ∀ q μ', Gr p q → Wd K q μ' → SqT K q.H a vs) : ItOk K (IteT K a) (enumI 0 xs) p where
  go := fun q' μ g w i hi => by
    rw [enumI_length] at hi
    exact ⟨vs, vs[i]'(by rw [r.length]; exact hi), st q' μ g w, List.getElem?_eq_getElem _⟩
  stop := fun q' μ g w i hi => by
    rw [enumI_length] at hi
    exact ⟨vs, st q' μ g w, by rw [r.length]; exact hi⟩
  yld := fun q' μ g w i x hx v H' hy => by
    rw [enumI_get] at hx
    cases e : xs[i]? with
    | none =>
      rw [e] at hx
      cases hx
    | some y =>
      rw [e] at hx
      obtain ⟨T, u, rfl, hT, rfl, hv⟩ := hy
      obtain ⟨u', hu', ru⟩ := r.get e
      have e2 := hv vs (st q' μ g w)
      rw [hu'] at e2
      cases e2
      obtain ⟨q2, e2, g2, w2, r2⟩ := newT w (vs := [.int (i : Nat), u]) (xs := [.sh (.int (i : Int)), y]) (.cons (.sh (.int _)) (.cons (ru.mono g) .nil)) T hT
      have hx' := Option.some.inj hx
      rw [Nat.zero_add] at hx'
      subst hx'
      exact ⟨q2, e2, g2, w2, r2⟩
theorem im_enumT {K : PySem.W.Frag} {cl : Nat → Value} {W : WX} {ta : TA} {m : Sl → M (List MV)} (ha : PAm K cl W ta m) : PIm K cl W (iEnumT K ta) (mEnumT m) := fun σ δ p s =>
  Does.bind (t := ta σ) (k := fun vs H1 R => ∃ a xs, vs = [.ref a] ∧ SqT K H1 a xs ∧ R (IteT K a) H1) (ha σ δ p s) fun q g vs ms rs => Does.opt fun b e => by
    intro μ w r μ' e' Q hq
    cases e'
    split at e
    · rename_i x
      obtain ⟨v, rfl, r1⟩ := rp1 rs
      cases e1 : tview x with
      | none =>
        rw [e1] at e
        cases e
      | some ys =>
        rw [e1] at e
        cases e
        obtain ⟨a, us, rfl, h1, h2⟩ := tview_ok r1 e1
        have st : ∀ q2 μ', Gr q q2 → Wd K q2 μ' → SqT K q2.H a us := fun q2 μ' g2 w2 => .of (w2.ex _ _ (g2.hx _ _ h1))
        exact ⟨a, us, rfl, st q μ (Gr.refl _) w, hq q (Gr.refl q) w _ (it_enumT h2 st)⟩
    · cases e
/-! ### sum(t), t a tuple of ints -/
abbrev rSumT (K : PySem.W.Frag) : List V → Hp → VK → Prop := fun vs H Q => ∃ (a : Addr) (ns : List Int), vs = [V.ref a] ∧ SqT K H a (ns.map V.int) ∧ Q (.int ns.sum) H
end PD

set_option Elab.async false
set_option linter.all false
set_option maxRecDepth 100000
set_option maxHeartbeats 2000000
namespace PD
open PySem PySem.Spec PyProof.Rows L2
/-! ### sum(t), t a tuple of ints -/
theorem cr_sumT {X : Cx} (hc : X.calm = true) : CallR X (.builtin "sum") (rSumT X.K) := by
  intro pins s σ H vs us Q I r h
  obtain ⟨a, ns, rfl, hs, q⟩ := h
  obtain ⟨its, rv, p, hz⟩ := I.tuple hs
  rw [Vals.ref1 r]
  have hT : s.heap.IsTuple a its.toArray := p
  obtain ⟨xs, e⟩ := rv.ints.allInts.items
  have hn : numsOf (intItems xs).toList = ns := by
    rw [← e]
    exact rv.ints.numsOf
  rw [nums_intItems] at hn
  rw [e] at hT
  refine PySem.W.ktm_sumG (I.ok.hd hc) hT fun h' tk t' hk => ?_
  refine ⟨.int _, H, I.kept hk, ⟨t', ?_⟩, q⟩
  rw [preSum_eq, List.take_of_length_le (by simp), hn]
def mSumT : List MV → M MV
  | [x] => M.opt (((tview x).bind intsD).map fun ns => .sh (.int ns.sum))
  | _ => fun _ => none
theorem rc_sumT {K : PySem.W.Frag} {cl : Nat → Value} : RCm K cl (rSumT K) mSumT := by
  intro W σ p vs ms r
  unfold mSumT
  split
  · rename_i x
    obtain ⟨v, rfl, rx⟩ := rp1 r
    refine Does.opt fun b e => ?_
    intro μ w r' μ' e' Q hq
    cases e'
    cases e1 : tview x with
    | none =>
      rw [e1] at e
      cases e
    | some xs =>
      rw [e1] at e
      cases e2 : intsD xs with
      | none =>
        simp only [Option.bind, e2] at e
        cases e
      | some ns =>
        simp only [Option.bind, e2] at e
        cases e
        obtain ⟨a, us, rfl, h1, h2⟩ := tview_ok rx e1
        obtain rfl := intsD_ok h2 e2
        exact ⟨a, ns, rfl, .of (w.ex _ _ h1), hq p (Gr.refl p) w _ (.sh (.int _))⟩
  · exact Does.none
end PD

set_option Elab.async false
set_option linter.all false
set_option maxRecDepth 100000
set_option maxHeartbeats 2000000
namespace PD
open PySem PySem.Spec PyProof.Rows L2
/-! ### xs.index(i), min(xs), xs a list of ints -/
def mIndexI (o : Sl → M MV) (a : Sl → M (List MV)) : Sl → M MV := fun δ => (o δ).bind fun x => (M.look fun μ => (lview μ x).map fun _ => ()).bind fun _ => (a δ).bind fun ys => M.look fun μ => match (lview μ x).bind intsD, ys with
  | some ns, [.sh (.int i)] => (ns.findIdx? (· == i)).map fun j => .sh (.int (j : Nat))
  | _, _ => none
section
variable {K : PySem.W.Frag} {cl : Nat → Value} {W : WX}
theorem flat_ints (ns : List Int) : (ns.map V.int).all flatV = true := by
  induction ns with
  | nil => rfl
  | cons i r ih => exact ih
theorem pm_indexI {to : TE} {mo : Sl → M MV} {ta : TA} {ma : Sl → M (List MV)} (ho : PEm K cl W to mo) (ha : PAm K cl W ta ma) : PEm K cl W (tBM K "list" (rIndex K) to ta) (mIndexI mo ma) := fun σ δ p s =>
  Does.bind (t := to σ) (k := fun x H1 Q => tyV K "list" x H1 ∧ ta σ H1 fun xs H2 => rIndex K x xs H2 Q) (ho σ δ p s) fun q g x mx rx => by
    intro μ w r' μ' e Q hq
    rcases M.bind_some e with ⟨c, e1, _⟩ | ⟨u, μ1, e1, e2⟩
    · exfalso
      unfold M.look at e1
      dsimp only at e1
      cases h : lview μ mx with
      | none =>
        rw [h] at e1
        cases e1
      | some xs =>
        rw [h] at e1
        cases e1
    · unfold M.look at e1
      dsimp only at e1
      cases h : lview μ mx with
      | none =>
        rw [h] at e1
        cases e1
      | some xs =>
        rw [h] at e1
        cases e1
        obtain ⟨a, us, rfl, h1, h2⟩ := lview_ok w rx h
        refine ⟨.inl ⟨rfl, us, h1⟩, ?_⟩
        refine Does.bind (R' := Rp K) (t := ta σ) (k := fun xs H2 Q => rIndex K (.ref a) xs H2 Q) (ha σ δ q (s.mono g)) (fun q2 g2 vs ys rs => ?_) μ w r' μ' e2 Q hq
        refine Does.look fun μ2 w2 b e3 Q2 hq2 => ?_
        split at e3
        · rename_i ns i hns
          cases h4 : lview μ2 mx with
          | none =>
            rw [h4] at hns
            cases hns
          | some zs =>
            rw [h4] at hns
            obtain ⟨a2, us2, ea, h5, h6⟩ := lview_ok w2 (rx.mono g2) h4
            cases ea
            obtain rfl := intsD_ok h6 hns
            obtain ⟨v, rfl, rv⟩ := rp1 rs
            obtain rfl := rp_int rv
            cases hf : ns.findIdx? (· == i) with
            | none =>
              rw [hf] at e3
              cases e3
            | some j =>
              rw [hf] at e3
              cases e3
              obtain ⟨hj, hj1, hj2⟩ := List.findIdx?_eq_some_iff_getElem.mp hf
              refine ⟨a, ns.map V.int, .int i, j, .int ns[j], rfl, rfl, h5, rfl, flat_ints ns, by rw [List.getElem?_map, List.getElem?_eq_getElem hj]; rfl, hj1, fun m z' hm hz => ?_, hq2 _ (.sh (.int _))⟩
              rw [List.getElem?_map, List.getElem?_eq_getElem (by omega)] at hz
              cases hz
              have := hj2 m hm
              show (ns[m] == i) = false
              simpa using this
        · cases e3
def minL : List Int → Int
  | [] => 0
  | [x] => x
  | x :: y :: r => min x (minL (y :: r))
theorem minL_ok : ∀ {ns : List Int}, ns ≠ [] → minL ns ∈ ns ∧ ∀ y ∈ ns, minL ns ≤ y
  | [], h => absurd rfl h
  | [x], _ => ⟨List.mem_cons_self, fun y hy => by
    rw [List.mem_singleton.mp hy]
    exact Int.le_refl _⟩
  | x :: y :: r, _ => by
    obtain ⟨h1, h2⟩ := minL_ok (ns := y :: r) (by simp)
    show min x (minL (y :: r)) ∈ _ ∧ ∀ z ∈ _, min x (minL (y :: r)) ≤ z
    refine ⟨?_, fun z hz => ?_⟩
    · by_cases h : x ≤ minL (y :: r)
      · rw [Int.min_eq_left h]
        exact List.mem_cons_self
      · rw [Int.min_eq_right (by omega)]
        exact List.mem_cons_of_mem _ h1
    · rcases List.mem_cons.mp hz with rfl | hz
      · exact Int.min_le_left _ _
      · exact Int.le_trans (Int.min_le_right _ _) (h2 z hz)
abbrev fMinL : List MV → M MV := mIntsL fun ns => if ns.isEmpty = true then none else some (.int (minL ns))
theorem rc_minL : RCm K cl (rMin K) fMinL := by
  intro W σ p vs ms r
  show Does K cl W σ (Rp K) _ (mIntsL _ ms) p
  unfold mIntsL
  split
  · rename_i x
    obtain ⟨v, rfl, rx⟩ := rp1 r
    refine Does.look fun μ w b e Q hq => ?_
    split at e
    · rename_i ns h
      cases e1 : lview μ x with
      | none =>
        rw [e1] at h
        cases h
      | some xs =>
        rw [e1] at h
        obtain ⟨a, us, rfl, h1, h2⟩ := lview_ok w rx e1
        obtain rfl := intsD_ok h2 h
        cases hn : ns with
        | nil =>
          rw [hn] at e
          cases e
        | cons i r =>
          have hne : ns ≠ [] := by rw [hn]; simp
          have he : ns.isEmpty = false := by rw [hn]; rfl
          dsimp only at e
          rw [he, if_neg (by decide)] at e
          cases e
          obtain ⟨m1, m2⟩ := minL_ok hne
          refine ⟨a, ns, rfl, h1, List.length_pos_iff.mpr hne, fun m hm hmin => ?_⟩
          have : m = minL ns := by
            have a1 := hmin _ m1
            have a2 := m2 _ hm
            omega
          rw [this]
          exact hq _ (.sh (.int _))
    · cases e
  · exact Does.none
end
end PD

set_option Elab.async false
set_option linter.all false
set_option maxRecDepth 100000
set_option maxHeartbeats 2000000
namespace PD
open PySem PySem.Spec PyProof.Rows L2
/-! ### texts: asked, cut, joined, made of numbers and read as numbers -/
/-- a method of a text alone that answers by a truth -/
def mStr0 (g : Str → Bool) (o : Sl → M MV) : Sl → M MV := fun δ => (o δ).bind fun x => match x with
  | .sh (.str a) => M.ret (.sh (.bool (g a)))
  | _ => fun _ => none
/-- a method of a text with what it is given -/
def mStrM (f : Str → List MV → M MV) (o : Sl → M MV) (a : Sl → M (List MV)) : Sl → M MV := fun δ => (o δ).bind fun x => match x with
  | .sh (.str z) => (a δ).bind fun ys => f z ys
  | _ => fun _ => none
def fStr1 (g : Str → Str → Bool) : Str → List MV → M MV
  | a, [.sh (.str b)] => M.ret (.sh (.bool (g a b)))
  | _, _ => fun _ => none
def strsD : List MV → Option (List Str)
  | [] => some []
  | .sh (.str s) :: r => (strsD r).map (s :: ·)
  | _ :: _ => none
def fJoin : Str → List MV → M MV
  | a, [y] => M.look fun μ => match (lview μ y).bind strsD with
    | some zs => if (zs.map (·.length)).sum + zs.length * a.length ≤ 16777216 then some (.sh (.str (Txt.join a zs))) else none
    | none => none
  | _, _ => fun _ => none
def fSplit : Str → List MV → M MV
  | a, [.sh (.str b)] => if (b.length == 0) = false ∧ a.length ≤ 1000000 then M.mkL false ((Txt.split a b).map fun z => .sh (.str z)) else fun _ => none
  | _, _ => fun _ => none
def mIntStr : List MV → M MV
  | [.sh (.str a)] => match PySem.intText? a with
    | some n => if a.length ≤ 640 then M.ret (.sh (.int n)) else fun _ => none
    | none => fun _ => none
  | _ => fun _ => none
def mStrInt : List MV → M MV
  | [.sh (.int i)] => if i.natAbs.log2 < 1920 then M.ret (.sh (.str (toString i))) else fun _ => none
  | _ => fun _ => none
def boolsD : List MV → Option (List Bool)
  | [] => some []
  | .sh (.bool b) :: r => (boolsD r).map (b :: ·)
  | _ :: _ => none
def mAll : List MV → M MV
  | [y] => M.look fun μ => ((lview μ y).bind boolsD).map fun bs => .sh (.bool (bs.all id))
  | _ => fun _ => none
section
variable {K : PySem.W.Frag} {cl : Nat → Value} {W : WX} {to : TE} {mo : Sl → M MV} {ta : TA} {ma : Sl → M (List MV)} {r : V → List V → Hp → VK → Prop}
theorem pm_str0 {g : Str → Bool} (hr : ∀ a H (Q : VK), Q (.bl (g a)) H → r (.str a) [] H Q) (ho : PEm K cl W to mo) : PEm K cl W (tBM0 K "str" r to) (mStr0 g mo) := fun σ δ p s =>
  Does.bind (t := to σ) (k := fun x H1 Q => tyV K "str" x H1 ∧ r x [] H1 Q) (ho σ δ p s) fun q g1 x mx rx => by
    intro μ w r' μ' e Q hq
    split at e
    · rename_i a
      obtain rfl := rp_str rx
      cases e
      exact ⟨rfl, hr a q.H Q (hq q (Gr.refl q) w _ (.sh (.bl _)))⟩
    · cases e
def StrR (K : PySem.W.Frag) (r : V → List V → Hp → VK → Prop) (f : Str → List MV → M MV) : Prop :=
  ∀ (cl : Nat → Value) (W : WX) (σ : Sg) (p : Pt) (a : Str) (vs : List V) (ys : List MV), RpAll K p vs ys → Does K cl W σ (Rp K) (fun H Q => r (.str a) vs H Q) (f a ys) p
theorem pm_strM {f : Str → List MV → M MV} (hr : StrR K r f) (ho : PEm K cl W to mo) (ha : PAm K cl W ta ma) : PEm K cl W (tBM K "str" r to ta) (mStrM f mo ma) := fun σ δ p s =>
  Does.bind (t := to σ) (k := fun x H1 Q => tyV K "str" x H1 ∧ ta σ H1 fun xs H2 => r x xs H2 Q) (ho σ δ p s) fun q g1 x mx rx => by
    intro μ w r' μ' e Q hq
    split at e
    · rename_i a
      obtain rfl := rp_str rx
      exact ⟨rfl, Does.bind (R' := Rp K) (t := ta σ) (k := fun xs H2 Q => r (.str a) xs H2 Q) (ha σ δ q (s.mono g1)) (fun q2 g2 vs ys rs => hr cl W σ q2 a vs ys rs) μ w r' μ' e Q hq⟩
    · cases e
theorem sr_str1 {g : Str → Str → Bool} {r : V → List V → Hp → VK → Prop} (hr : ∀ a b H (Q : VK), Q (.bl (g a b)) H → r (.str a) [.str b] H Q) : StrR K r (fStr1 g) := by
  intro cl W σ p a vs ys rs μ w r' μ' e Q hq
  unfold fStr1 at e
  split at e
  · obtain ⟨v, rfl, rv⟩ := rp1 rs
    obtain rfl := rp_str rv
    cases e
    exact hr _ _ p.H Q (hq p (Gr.refl p) w _ (.sh (.bl _)))
  · cases e
theorem strsD_ok {p : Pt} : ∀ {vs : List V} {xs : List MV} {zs : List Str}, RpAll K p vs xs → strsD xs = some zs → vs = zs.map V.str
  | _, _, zs, .nil, e => by
    have e' : [] = zs := Option.some.inj e
    subst e'
    rfl
  | _, _, zs, .cons (x := x) (xs := xs) h r, e => by
    unfold strsD at e
    split at e
    · rename_i heq
      cases heq
    · rename_i i r' heq
      cases heq
      cases e1 : strsD xs with
      | none =>
        rw [e1] at e
        cases e
      | some ns' =>
        rw [e1] at e
        cases e
        rw [rp_str h, strsD_ok r e1]
        rfl
    · cases e
theorem sr_join : StrR K (fun x xs H Q => ∃ a p, ∃ ys : List Str, x = .str a ∧ xs = [.ref p] ∧ (SqL K H p (ys.map V.str) ∨ SqT K H p (ys.map V.str)) ∧
    (ys.map (·.length)).sum + ys.length * a.length ≤ 16777216 ∧ Q (.str (Txt.join a ys)) H) fJoin := by
  intro cl W σ p a vs ys rs
  unfold fJoin
  split
  · rename_i y
    obtain ⟨v, rfl, rv⟩ := rp1 rs
    refine Does.look fun μ w b e Q hq => ?_
    split at e
    · rename_i zs h
      split at e
      · rename_i hz
        cases e
        cases e1 : lview μ y with
        | none =>
          rw [e1] at h
          cases h
        | some xs =>
          rw [e1] at h
          obtain ⟨l, us, rfl, h1, h2⟩ := lview_ok w rv e1
          obtain rfl := strsD_ok h2 h
          exact ⟨a, l, zs, rfl, rfl, .inl h1, hz, hq _ (.sh (.str _))⟩
      · cases e
    · cases e
  · exact Does.none
theorem rp_strs {p : Pt} : ∀ zs : List Str, RpAll K p (zs.map V.str) (zs.map fun z => MV.sh (.str z))
  | [] => .nil
  | z :: r => .cons (.sh (.str z)) (rp_strs r)
theorem sr_split : StrR K (fun x xs H Q => ∃ a b, x = .str a ∧ xs = [.str b] ∧ (b.length == 0) = false ∧ a.length + 2 ≤ sizeLine ∧ rNewStrs (Txt.split a b) H Q) fSplit := by
  intro cl W σ p a vs ys rs
  unfold fSplit
  split
  · rename_i b
    obtain ⟨v, rfl, rv⟩ := rp1 rs
    obtain rfl := rp_str rv
    refine Does.if fun h => ?_
    exact Does.mkL (rp_strs _) fun Q hq => ⟨a, b, rfl, rfl, h.1, by rw [sizeLine_eq]; omega, hq⟩
  · exact Does.none
theorem rc_intStr : RCm K cl (fun xs H Q => ∃ a n, xs = [.str a] ∧ PySem.intText? a = some n ∧ a.length ≤ 640 ∧ Q (.int n) H) mIntStr := by
  intro W σ p vs ms r μ w r' μ' e Q hq
  unfold mIntStr at e
  split at e
  · rename_i a
    obtain ⟨v, rfl, rv⟩ := rp1 r
    obtain rfl := rp_str rv
    cases h : PySem.intText? a with
    | none =>
      rw [h] at e
      cases e
    | some n =>
      rw [h] at e
      dsimp only at e
      by_cases hl : a.length ≤ 640
      · rw [if_pos hl] at e
        cases e
        exact ⟨a, n, rfl, h, hl, hq p (Gr.refl p) w _ (.sh (.int _))⟩
      · rw [if_neg hl] at e
        cases e
  · cases e
theorem rc_strInt : RCm K cl (fun xs H Q => ∃ i, xs = [.int i] ∧ i.natAbs.log2 < 1920 ∧ Q (.str (toString i)) H) mStrInt := by
  intro W σ p vs ms r μ w r' μ' e Q hq
  unfold mStrInt at e
  split at e
  · rename_i i
    obtain ⟨v, rfl, rv⟩ := rp1 r
    obtain rfl := rp_int rv
    split at e
    · rename_i hl
      cases e
      exact ⟨i, rfl, hl, hq p (Gr.refl p) w _ (.sh (.str _))⟩
    · cases e
  · cases e
theorem rp_blB {p : Pt} {v : V} {b : Bool} (r : Rp K p v (.sh (.bool b))) : v = .bl b := by
  cases r with
  | sh q => cases q; rfl
theorem boolsD_ok {p : Pt} : ∀ {vs : List V} {xs : List MV} {zs : List Bool}, RpAll K p vs xs → boolsD xs = some zs → vs = zs.map V.bl
  | _, _, zs, .nil, e => by
    have e' : [] = zs := Option.some.inj e
    subst e'
    rfl
  | _, _, zs, .cons (x := x) (xs := xs) h r, e => by
    unfold boolsD at e
    split at e
    · rename_i heq
      cases heq
    · rename_i i r' heq
      cases heq
      cases e1 : boolsD xs with
      | none =>
        rw [e1] at e
        cases e
      | some ns' =>
        rw [e1] at e
        cases e
        rw [rp_blB h, boolsD_ok r e1]
        rfl
    · cases e
theorem rc_all : RCm K cl (rAll K) mAll := by
  intro W σ p vs ms r
  unfold mAll
  split
  · rename_i y
    obtain ⟨v, rfl, rv⟩ := rp1 r
    refine Does.look fun μ w b e Q hq => ?_
    cases e1 : lview μ y with
    | none =>
      rw [e1] at e
      cases e
    | some xs =>
      rw [e1] at e
      cases e2 : boolsD xs with
      | none =>
        rw [show (some xs).bind boolsD = none from e2] at e
        cases e
      | some bs =>
        rw [show (some xs).bind boolsD = some bs from e2] at e
        cases e
        obtain ⟨l, us, rfl, h1, h2⟩ := lview_ok w rv e1
        obtain rfl := boolsD_ok h2 e2
        exact ⟨l, bs, rfl, h1, hq _ (.sh (.bl _))⟩
  · exact Does.none
end
end PD

set_option Elab.async false
set_option linter.all false
set_option maxRecDepth 100000
set_option maxHeartbeats 2000000
namespace PD
open PySem PySem.Spec PyProof.Rows L2
/-- not x as a value, x told by its truth -/
def mNotTV (m : Sl → M MV) : Sl → M MV := fun δ => (mTru m δ).bind fun b => M.ret (.sh (.bool (!b)))
/-- a list that changes gets all of another such -/
def mExtend (o : Sl → M MV) (a : Sl → M (List MV)) : Sl → M MV := fun δ => (o δ).bind fun x => match x with
  | .cell n => (a δ).bind fun ys => match ys with
    | [.cell k] => fun μ => match μ[n]?, μ[k]? with
      | some xs, some zs => if xs.length + zs.length ≤ 100000 then some (.ok (.sh .none), μ.set n (xs ++ zs)) else none
      | _, _ => none
    | _ => fun _ => none
  | _ => fun _ => none
section
variable {K : PySem.W.Frag} {cl : Nat → Value} {W : WX} {te to : TE} {m mo : Sl → M MV} {ta : TA} {ma : Sl → M (List MV)}
theorem pm_notT (ha : PEm K cl W te m) : PEm K cl W (tNotT K te) (mNotTV m) := fun σ δ p s =>
  Does.bind (t := fun H Q => te σ H fun x H' => ∃ k, TruV K x H' k ∧ Q k H') (k := fun (b : Bool) (H1 : Hp) (Q : VK) => Q (.bl (!b)) H1) (tm_tru ha σ δ p s) fun q g a b e => by
    subst e
    exact Does.ret (.sh (.bl _))
theorem pm_extend (ho : PEm K cl W to mo) (ha : PAm K cl W ta ma) : PEm K cl W (tBM K "list" rExtend to ta) (mExtend mo ma) := fun σ δ p s =>
  Does.bind (t := to σ) (k := fun x H1 Q => tyV K "list" x H1 ∧ ta σ H1 fun xs H2 => rExtend x xs H2 Q) (ho σ δ p s) fun q g x mx rx => by
    cases rx with
    | cell h =>
      rename_i n l
      intro μ w r' μ' e Q hq
      obtain ⟨us, hl⟩ := w.lst (List.mem_of_getElem? h)
      refine ⟨.inl ⟨rfl, us, .of hl⟩, ?_⟩
      refine Does.bind (R' := Rp K) (t := ta σ) (k := fun xs H2 Q => rExtend (.ref l) xs H2 Q) (ha σ δ q (s.mono g)) (fun q2 g2 ws ys rs => ?_) μ w r' μ' e Q hq
      intro μ2 w2 r2 μ2' e2 Q2 hq2
      split at e2
      · rename_i k
        obtain ⟨v, rfl, rv0⟩ := rp1 rs
        cases rv0 with
        | cell hk =>
          rename_i l2
          split at e2
          · rename_i xs zs e3 e4
            split at e2
            · rename_i hz
              cases e2
              obtain ⟨a, vs, ha', hH, rv⟩ := w2.cel n xs e3
              rw [g2.at h] at ha'
              cases ha'
              obtain ⟨b, us2, hb', hH2, rv2⟩ := w2.cel k zs e4
              rw [hk] at hb'
              cases hb'
              have l1 := rv.length
              have l2' := rv2.length
              obtain ⟨w3, g3⟩ := w2.setCell (g2.at h) (rv.append rv2)
              exact ⟨_, _, vs, us2, rfl, rfl, hH, hH2, by rw [sizeLine_eq]; omega, hq2 _ g3 w3 .non (.sh .non)⟩
            · cases e2
          · cases e2
      · cases e2
    | sh h => exact Does.none
    | tp h _ => exact Does.none
    | scr h => exact Does.none
end
end PD

set_option Elab.async false
set_option linter.all false
set_option maxRecDepth 100000
set_option maxHeartbeats 2000000
namespace PySem
open Sem (wp)
section
variable {prog : Program} {w : World} {A : Around} {E : Value → Shared → Prop} {s : Shared}
/-- a walk from its second item on -/
theorem WalksS.shift {I : Addr} {fp wr : List Addr} {G : Array GenState → Array GenState → Prop} {n : Nat} {P : Nat → Value → Prop} {St : Nat → Shared → Prop} (W : WalksS prog w A I fp wr G (n + 1) P St) :
    WalksS prog w A I fp wr G n (fun i => P (i + 1)) (fun i => St (i + 1)) where
  sub := W.sub
  grefl := W.grefl
  gtrans := W.gtrans
  frame := fun i => W.frame (i + 1)
  item := fun i s Q E hi st hQ => W.item (i + 1) s Q E (by omega) st hQ
  done := W.done
  self := fun i => W.self (i + 1)
/-- x, *rest of a list -/
theorem unpackItems_star {l : Addr} {vs : Array Value} {x : Value} {rest : List Value} {Q : List Value → Shared → Prop} (hh : A.handled = none) (hl : s.heap.IsList l vs) (hv : vs.toList = x :: rest) (hsz : vs.size ≤ sizeLine)
    (hQ : ∀ (h' : Heap) (tk : Nat), s.toks ≤ tk → (∀ b o, s.heap.get? b = some o → h'.get? b = some o) → Q [x, .ref h'.objs.size] { s with heap := h'.push { cls := .type "list", data := .seq rest.toArray }, toks := tk }) :
    wpAny (model prog w) A (unpackItems (.ref l) 2 (some 1)) Q E s := by
  have hs1 : vs.size = rest.length + 1 := by
    have := congrArg List.length hv
    simpa using this
  have hlt : l < s.heap.objs.size := by obtain ⟨_, e, _⟩ := hl; exact Heap.lt_size e
  have hx0 : ∀ v, vs[0]? = some v → v = x := fun v h => by
    have : vs.toList[0]? = some v := by simpa using h
    rw [hv] at this
    exact (Option.some.inj this).symm
  have W : WalksS prog w A.in1 s.heap.objs.size [s.heap.objs.size, l] [s.heap.objs.size] (fun a b => b = a) (rest.length + 1) (fun i v => vs[i]? = some v) (fun i s' => s'.heap.IsListIter s.heap.objs.size l i ∧ s'.heap.IsList l vs) := by
    rw [← hs1]
    exact (Walks.list (A := A.in1) hh _ l (Nat.ne_of_lt hlt) vs).toS
  unfold unpackItems
  refine wpAny_bind ?_
  unfold notIterableAtAll
  refine wpAny_bind (wpAny_specialOf hl.typeIs slot_list_iter.lookup ?_)
  refine wpAny_pure ?_
  simp only [Bool.false_eq_true, if_false]
  refine wpAny_bind (wpAny_holding (wpAny_pyIter_list hl ?_))
  have st0 : (s.heap.push { cls := .type "list_iterator", data := .fields #[.ref l, .int 0 0] }).IsListIter s.heap.objs.size l 0 ∧ (s.heap.push { cls := .type "list_iterator", data := .fields #[.ref l, .int 0 0] }).IsList l vs := ⟨⟨_, Heap.get?_push_size _ rfl, rfl, rfl⟩, hl.push _⟩
  refine wpAny_bind (wpAny_holding ?_)
  show wpAny _ _ (pyNext (.ref s.heap.objs.size) >>= _) _ _ _
  refine wpAny_bind (W.of_in1.item 0 _ _ _ (Nat.succ_pos _) st0 fun v s3 hv0 st3 m3 => ?_)
  obtain rfl := hx0 v hv0
  refine wpAny_bind (wpAny_holding (wpAny_pure ?_))
  refine wpAny_pure ?_
  rw [if_neg (by simp)]
  have hb : ∀ b ∈ [s.heap.objs.size, l], b < s3.heap.objs.size := fun b hb => by
    rcases List.mem_cons.mp hb with rfl | hb
    · obtain ⟨o, e, _⟩ := st3.1
      exact Heap.lt_size e
    · rw [List.mem_singleton.mp hb]
      obtain ⟨o, e, _⟩ := st3.2
      exact Heap.lt_size e
  refine wpAny_bind (wpAny_holding (wpAny_collect_iter (T := "list_iterator") (.inr (.inr (.inl rfl))) W.shift (fun i s' h => h.1.typeIs) st3 hb List.mem_cons_self (fun s4 acc m4 hacc => ?_) (by omega)))
  obtain ⟨ha1, ha2⟩ := hacc
  have hacc2 : acc.toList = rest := by
    refine List.ext_getElem? fun i => ?_
    by_cases hi : i < rest.length
    · have h1 : acc[i]? = some (acc[i]'(by omega)) := Array.getElem?_eq_getElem (by omega)
      have h2 := ha2 i _ h1
      have h3 : vs.toList[i + 1]? = some (acc[i]'(by omega)) := by simpa using h2
      rw [hv] at h3
      rw [Array.getElem?_toList, h1]
      exact h3.symm
    · rw [List.getElem?_eq_none (by rw [Array.length_toList]; omega), List.getElem?_eq_none (by omega)]
  rw [hacc2]
  rw [if_neg (by omega)]
  refine wpAny_bind (wpAny_newList ?_)
  refine wpAny_pure ?_
  have m := m3.trans W.gtrans m4
  obtain ⟨h', tk, e4, hk⟩ := PySem.W.moved_old (s := s) rfl rfl m
  have htk : s.toks ≤ s4.toks := m.toks
  subst e4
  have hq := hQ h' tk htk hk
  rw [show rest.length - (2 - 1 - 1) = rest.length by omega, List.take_length, List.drop_length]
  exact hq
end
end PySem
namespace PD
open PySem PySem.Spec PyProof.Rows L2
/-- x, *rest = a list -/
def gStar (K : PySem.W.Frag) (t : TGs) : TG := fun v σ H Q => ∃ a x rest, v = .ref a ∧ SqL K H a (x :: rest) ∧ ∀ l, H l = none → t [x, .ref l] σ (upd H l (.lst rest)) Q
theorem pg_star {X : Cx} {t1 t2 : Expr} {k : Nat} {p pos : Pos} {t : TGs} (hc : X.calm = true) (h : PGs X [t1, t2] t)
    (hn : (assignEach [t1, .Starred t2 p] X.env).length = 2 := by rfl) (hst : (assignEach [t1, .Starred t2 p] X.env).findIdx? (·.1) = some 1 := by rfl)
    (hm : (assignEach [t1, .Starred t2 p] X.env).map (·.2) = (assignEach [t1, t2] X.env).map (·.2) := by rfl) : PG X (.Tuple [t1, .Starred t2 p] k pos) (gStar X.K t) := by
  refine ⟨fun pins s σ H v u Q I r hw => ?_⟩
  obtain ⟨a, x, rest, rfl, hq, hw⟩ := hw
  cases r
  obtain ⟨its, rv, pl, hz⟩ := I.list hq
  cases rv with
  | @cons _ y _ ys rx rr =>
    rw [arm_assign_Tuple]
    refine wpAny_bind (wpAny_standAt ?_)
    unfold unpack
    rw [hn, hst, hm]
    have hl := rr.length
    refine wpAny_bind (wpAny_holding (unpackItems_star (I.ok.hd hc) pl.isList (x := y) (rest := ys) (by simp) (by simp at hz ⊢; omega) fun h' tk htk hk => ?_))
    have I1 : Inv X pins σ H { s with heap := h', toks := tk } := I.kept (t' := tk) hk
    have hp := I1.hok.fresh (Nat.le_refl h'.objs.size)
    have I2 := I1.laid (a := h'.objs.size) (o := .lst rest) (h' := h'.push { cls := .type "list", data := .seq ys.toArray }) (t' := tk) (fun b u q => Heap.get?_push_of_some _ q) (Nat.le_refl _) ⟨by simp at hz; omega, ys, _, rr, Heap.get?_push_size _ rfl⟩
    exact h.run pins _ σ _ _ _ Q I2 (.cons rx (.cons (show RelV (.ref h'.objs.size) (.ref h'.objs.size) from rfl) .nil)) (hw _ hp)
def mStar (i j : Nat) (me : Sl → M MV) : MS := fun δ => withV (me δ) δ fun x μ => match x with
  | .sh (.list (d :: ds)) => some (.nx ((δ.set i (some (.sh d))).set j (some (.sh (.list ds)))), μ)
  | _ => none
section
variable {K : PySem.W.Frag} {cl : Nat → Value} {W : WX} {te : TE} {me : Sl → M MV} {i j : Nat}
theorem allSh_mapS : ∀ ds : List PyData, allSh (ds.map .sh) = some ds
  | [] => rfl
  | d :: r => by
    show (allSh (r.map .sh)).map (d :: ·) = _
    rw [allSh_mapS r]
    rfl
theorem sm_star (he : PEm K cl W te me) : PSm K cl W (tAsg te (gStar K (gCons (gName i) (gCons (gName j) gNil)))) (mStar i j me) := fun σ δ p s =>
  SDo.bind (t := te σ) (k := fun x D H1 => gStar K (gCons (gName i) (gCons (gName j) gNil)) x σ H1 D.nx) (he σ δ p s) s fun q gq x mx rx => by
    intro μ w r μ' e D hq
    split at e
    · rename_i d ds
      cases e
      obtain ⟨a, us, rfl, h1, h2⟩ := lview_ok w rx (show lview μ (.sh (.list (d :: ds))) = some ((d :: ds).map .sh) from rfl)
      cases h2 with
      | cons r1 rr =>
        refine ⟨a, _, _, rfl, h1, fun l hl => ?_⟩
        obtain ⟨q2, e2, g2, w2, r2⟩ := newL (b := false) w rr (show mkL false (ds.map .sh) μ = some (.sh (.list ds), μ) by
          unfold mkL
          rw [if_neg (by decide), allSh_mapS]
          rfl) l hl
        refine ⟨_, _, rfl, ⟨_, _, rfl, ⟨rfl, ?_⟩⟩⟩
        rw [← e2]
        exact hq q2 g2 w2 _ (((((s.mono gq).mono g2).set (r1.mono g2) i)).set r2 j)
    · cases e
end
end PD

set_option Elab.async false
set_option linter.all false
set_option maxRecDepth 100000
set_option maxHeartbeats 2000000
namespace PD
open PySem PySem.Spec PyProof.Rows L2
/-! ### enumerate(xs, start=1) -/
/-- the same drawing, counted from one -/
theorem draws_up {prog : Program} {w : World} {A : Around} {it : Addr} {fp : List Addr} {n : Nat} {P : Nat → Value → Prop} {St : Nat → Heap → Prop} (D : Draws prog w A it fp n P St) : Draws prog w A it fp (n + 1) (fun j => P (j - 1)) (fun j h => 1 ≤ j ∧ St (j - 1) h) where
  live := fun j h st => D.live (j - 1) h st.2
  frame := fun j h h' st k => ⟨st.1, D.frame (j - 1) h h' st.2 k⟩
  item := fun j s Q E hj st hQ => D.item (j - 1) s Q E (by have := st.1; omega) st.2 fun x h' tk a b c => hQ x h' tk a ⟨by omega, by
    rw [show j + 1 - 1 = j - 1 + 1 by have := st.1; omega]
    exact b⟩ c
  done := fun s Q E st hE => D.done s Q E st.2 hE
theorem draws_endL {prog : Program} {w : World} {A : Around} (hh : A.handled = none) {it l : Addr} (hne : l ≠ it) {items : Array Value} {n : Nat} (hn : items.size ≤ n) (D : Draws prog w A it [it, l] items.size (fun i v => items[i]? = some v) (fun i h => h.IsListIter it l i ∧ h.IsList l items))
    (hd : ∀ (s : Shared) (Q : Value → Shared → Prop) (E : Value → Shared → Prop), s.heap.IsListIter it l n → s.heap.IsList l items →
      (∀ h' e, Heap.ExtBut it s.heap h' → (∃ o, h'.get? e = some o ∧ o.cls = .type "StopIteration") → E (.ref e) { s with heap := h' }) → wpAny (model prog w) A (Builtin.SmallTypes.nextOf (.ref it)) Q E s) :
    Draws prog w A it [it, l] n (fun _ _ => False) (fun i h => i = n ∧ h.IsListIter it l i ∧ h.IsList l items) where
  live := fun i h st => D.live i h st.2
  frame := fun i h h' st k => ⟨st.1, D.frame i h h' st.2 k⟩
  item := fun i s Q E hi st _ => absurd st.1 (by omega)
  done := fun s Q E st hE => hd s Q E st.2.1 st.2.2 hE
def Ite1 (K : PySem.W.Frag) (a : Addr) : It :=
  ⟨fun i H => ∃ (xs : List V) (x : V), SqL K H a xs ∧ xs[i]? = some x, fun i H v H' => ∃ T x, v = .ref T ∧ H T = none ∧ H' = upd H T (.tup [.int ((i + 1 : Nat) : Int), x]) ∧ ∀ xs, SqL K H a xs → xs[i]? = some x, fun i H => ∃ xs : List V, SqL K H a xs ∧ xs.length ≤ i⟩
theorem turn_enum1 {P : Program} {w : World} {K : PySem.W.Frag} {elts : List Expr} {kk : Nat} {tpos : Pos} (a e it : Addr) :
    Turn P w K (.Tuple elts kk tpos) (Ite1 K a) [e, it] e (fun i h => (∃ old, IsEnum h e it ((i + 1 : Nat) : Int) old) ∧ h.IsListIter it a i ∧ e ≠ it) where
  mem := by simp
  obj := fun i h st b hb => by
    obtain ⟨⟨old, he⟩, ⟨o, ho, hc, hd⟩, _⟩ := st
    rcases (by simpa using hb : b = e ∨ b = it) with z | z
    · rw [z]
      exact ⟨_, he, fun v q => by cases q⟩
    · rw [z]
      exact ⟨o, ho, fun v q => by rw [hd] at q; cases q⟩
  keep := fun i h h' st k => by
    obtain ⟨⟨old, he⟩, hi, hne⟩ := st
    exact ⟨⟨old, k e (by simp) _ he⟩, hi.at fun o q => k it (by simp) o q, hne⟩
  item := by
    intro X hP hw hK hc i pins s σ H E I hf st hg
    subst hP hw hK
    obtain ⟨⟨old, he⟩, hit, hne⟩ := st
    obtain ⟨xs, x, hq, hx⟩ := hg
    obtain ⟨its, rv, p, hz⟩ := I.list hq
    obtain ⟨u, hu, ru⟩ := rv.get hx
    have hTa : s.heap.IsList a its.toArray := p.isList
    have hea : e ≠ a := fun z => by
      obtain ⟨o, ho, hcl, _⟩ := hTa
      rw [← z, he] at ho
      cases ho
      exact ty_ne (by decide) hcl
    have hia : a ≠ it := fun z => by
      obtain ⟨o, ho, hcl, _⟩ := hTa
      obtain ⟨o2, ho2, hcl2, _⟩ := hit
      rw [z, ho2] at ho
      cases ho
      rw [hcl2] at hcl
      exact ty_ne (by decide) hcl
    have hel : e < s.heap.objs.size := Heap.lt_size he
    have hil : it < s.heap.objs.size := by
      obtain ⟨_, q, _⟩ := hit
      exact Heap.lt_size q
    have hix : i < its.toArray.size := by
      have := (List.getElem?_eq_some_iff.mp hu).1
      simpa using this
    refine wpAny_pyNext_enum_itemD (draws_up (Draws.list (A := X.A.in1) (I.ok.hd hc) it a hia its.toArray)) he ⟨Nat.succ_pos i, hit, hTa⟩ (Nat.succ_lt_succ hix) hne (by simp [hne, hea]) fun y h' tk hP ho hst hT hsz hk => ?_
    have ey : y = u := by
      have h1 : its.toArray[i]? = some u := by simpa using hu
      have hP2 : its.toArray[i]? = some y := hP
      rw [hP2] at h1
      exact Option.some.inj h1
    subst ey
    refine ⟨_, rfl, wpAny_letOwnedTupleGo_enum (s := { s with heap := h', toks := tk + 1 }) ho fun h'' he' sb => ?_⟩
    have hT2 : h''.get? s.heap.objs.size = some { cls := .type "tuple", data := .seq #[.int ((i + 1 : Nat) : Int) tk, y] } := (sb.2 _ (Nat.ne_of_gt hel)).trans hT
    have new : ObjOk X.prog X.w (upd H s.heap.objs.size (.tup [.int ((i + 1 : Nat) : Int), x])) h'' s.heap.objs.size (.tup [.int ((i + 1 : Nat) : Int), x]) :=
      ⟨by show 2 ≤ sizeLine; decide, [.int ((i + 1 : Nat) : Int) tk, y], .cons ⟨_, rfl⟩ (.cons ru .nil), ⟨_, hT2, rfl, _, rfl⟩⟩
    have I1 : Inv X pins σ (upd H s.heap.objs.size (.tup [.int ((i + 1 : Nat) : Int), x])) { s with heap := h'', toks := tk + 1 } :=
      I.turnedNew (t' := tk + 1) (ch := [e, it]) (fun b ob hb q => by
        have hb1 : b ≠ e := fun z => hb (by simp [z])
        have hb2 : b ≠ it := fun z => hb (by simp [z])
        exact (sb.2 b hb1).trans (hk b ob hb1 hb2 q)) hf (Nat.le_refl _) new
    refine ⟨.ref s.heap.objs.size, _, I1, rfl, ⟨_, x, rfl, I.hok.fresh (Nat.le_refl _), rfl, fun ys hy => by rw [I.list_inj hy hq]; exact hx⟩, ⟨⟨y, ?_⟩, hst.2.1.at fun o q => (sb.2 it (Ne.symm hne)).trans q, hne⟩, fun b hb => ?_⟩
    · rw [show ((i + 1 + 1 : Nat) : Int) = ((i + 1 : Nat) : Int) + 1 by omega]
      exact he'
    · have hb' : b < s.heap.objs.size := by
        rcases (by simpa using hb : b = e ∨ b = it) with z | z
        · rw [z]
          exact hel
        · rw [z]
          exact hil
      rw [upd_ne (Nat.ne_of_lt hb')]
      exact (hf b hb).1
  done := by
    intro X hP hw hK hc i pins s σ H E I hf st hg
    subst hP hw hK
    obtain ⟨⟨old, he⟩, hit, hne⟩ := st
    obtain ⟨xs, hq, hx⟩ := hg
    obtain ⟨its, rv, p, hz⟩ := I.list hq
    have hTa : s.heap.IsList a its.toArray := p.isList
    have hia : a ≠ it := fun z => by
      obtain ⟨o, ho, hcl, _⟩ := hTa
      obtain ⟨o2, ho2, hcl2, _⟩ := hit
      rw [z, ho2] at ho
      cases ho
      rw [hcl2] at hcl
      exact ty_ne (by decide) hcl
    obtain ⟨f0, f1, f2, f3, f4, f5⟩ := hf it (by simp)
    have hl := rv.length
    have hn : its.toArray[i]? = none := by
      rw [Array.getElem?_eq_none_iff, List.size_toArray]
      omega
    exact wpAny_pyNext_enum_endD (draws_endL (A := X.A.in1) (I.ok.hd hc) hia (by rw [List.size_toArray]; omega : its.toArray.size ≤ i) (Draws.list (A := X.A.in1) (I.ok.hd hc) it a hia its.toArray) (fun s Q E a b hE => wpAny_nextOf_list_end (I.ok.hd hc) a b hn hE)) he ⟨rfl, hit, hTa⟩ fun h' eb => ⟨rfl, I.turned (t' := s.toks) (fun b o hb q => eb b o hb q) f0 f1 f3 f4 f5⟩
  self := fun A i s Q E st h => by
    obtain ⟨⟨_, he⟩, _⟩ := st
    exact wpAny_pyIter_enum he h
end PD

set_option Elab.async false
set_option linter.all false
set_option maxRecDepth 100000
set_option maxHeartbeats 2000000
namespace PD
open PySem PySem.Spec PyProof.Rows L2
/-- a built-in type called with keywords -/
theorem type_kw {M : Model} {A : Around} {E : Value → Shared → Prop} {s : Shared} {env : Env} {pos : Pos} {T : String} {e : Expr} {rest : List Expr} {kws : List Keyword} {Q : Value → Shared → Prop}
    (h : wpAny M A (spliced (backTo pos (starEach (e :: rest) env))) (fun vs s1 => wpAny M A (evalAll ((backToKw pos (keywordEach kws env)).map (·.2)))
      (fun kvs s2 => wpAny M A (call (.type T) vs (((backToKw pos (keywordEach kws env)).filterMap (·.1)).zip kvs)) Q E s2) E s1) E s)
    (he : backTo pos (starEach (e :: rest) env) = (false, eval e env) :: backTo pos (starEach rest env)) (hp : (backTo pos (starEach (e :: rest) env)).any (·.1) = false)
    (ha : (backToKw pos (keywordEach kws env)).all (·.1.isSome) = true) (hk : (backToKw pos (keywordEach kws env)).any (·.1.isNone) = false) :
    wpAny M A (callWith pos (.type T) [] (backTo pos (starEach (e :: rest) env)) (backToKw pos (keywordEach kws env))) Q E s := by
  have hE : wpAny M A (evalArgs (.type T) true (backTo pos (starEach (e :: rest) env)) (backToKw pos (keywordEach kws env))) (fun a s1 => wpAny M A (call (.type T) ([] ++ a.pos) a.kw) Q E s1) E s := by
    rw [he] at h ⊢
    exact evalArgs_kwB ha h
  unfold callWith
  refine wpAny_bind (wpAny_holding (wpAny_mono hE (fun a s1 h1 => wpAny_bind (wpAny_standAt ?_)) fun _ _ x => x))
  simp only [hp, hk, Bool.or_self]
  refine wpAny_bind (wpAny_pure (wpAny_bind (wpAny_mono h1 (fun r s2 hr => ?_) fun _ _ x => x)))
  exact wpAny_bind (wpAny_holding (wpAny_point (wpAny_pure hr)))
def iEnum1 (K : PySem.W.Frag) (ta : TA) : TI := fun σ H R => ta σ H fun vs H1 => ∃ a xs, vs = [.ref a] ∧ SqL K H1 a xs ∧ R (Ite1 K a) H1
theorem pi_enum1 {X : Cx} {e : Expr} {ta : TA} {p pos tpos cp kp : Pos} {elts : List Expr} {kk kc : Nat} (hg : Gl X "enumerate") (hm : X.mg "enumerate" = none) (ha : PA X [e] ta)
    (he : backTo pos (starEach [e] X.env) = (false, eval e X.env) :: backTo pos (starEach [] X.env) := by rfl) (hp : (backTo pos (starEach [e] X.env)).any (·.1) = false := by rfl) :
    PI X (.Tuple elts kk tpos) (.Call (.Name "enumerate" p) [e] [⟨some "start", .Constant (.int 1) kc cp, kp⟩] pos) (iEnum1 X.K ta) := by
  refine ⟨fun pins s σ H R I h => ?_⟩
  refine wpAny_Call_Name_kw (ld_blt I hg hm boot_enumerate (type_kw (thn (ha.run pos pins s σ H _ I h) fun us s1 hu => ?_) he hp rfl rfl))
  obtain ⟨vs, H1, I1, r1, a, xs, ex, hq, q⟩ := hu
  subst ex
  refine thn ((pk_cons (X := X) (te := fun _ H Q => Q (.int 1) H) (t := tNil) pe_int pk_nil).run pos pins s1 σ H1 (fun zs H2 => zs = [.int 1] ∧ H2 = H1) I1 ⟨rfl, rfl⟩) fun ws s2 hw => ?_
  obtain ⟨zs, H2, I2, r2, rfl, rfl⟩ := hw
  cases r1 with
  | cons r rr =>
    cases rr
    cases r
    cases r2 with
    | cons rk rkk =>
      cases rkk
      obtain ⟨tk, rfl⟩ := rk
      obtain ⟨its, rv, p', hz⟩ := I2.list hq
      show wpAny _ _ (call (.type "enumerate") [.ref a] [(Str.ofString "start", .int 1 tk)]) _ _ s2
      refine enum_begins_start (begins_list a its.toArray) p'.isList (by decide) (by decide) fun h' he' hit hsz hk => wpAny_pyIter_enum he' ?_
      have I3 : L2.Inv X pins σ H2 { s2 with heap := h' } := I2.kept (t' := s2.toks) hk
      refine ⟨s2.heap.objs.size + 1, [s2.heap.objs.size + 1, s2.heap.objs.size], _, _, H2, rfl, I3, turn_enum1 a (s2.heap.objs.size + 1) s2.heap.objs.size, ⟨⟨.none, he'⟩, ⟨_, hit, rfl, rfl⟩, Nat.succ_ne_self _⟩, fun b hb => ?_, q⟩
      have hle : s2.heap.objs.size ≤ b := by
        rcases (by simpa using hb : b = s2.heap.objs.size + 1 ∨ b = s2.heap.objs.size) with z | z <;> rw [z]
        · exact Nat.le_add_right _ _
        · exact Nat.le_refl _
      exact I2.fpOk hle (I2.hok.fresh hle)
/-- the mirror -/
def mEnum1 (a : Sl → M (List MV)) : Sl → M Src := fun δ => (a δ).bind fun xs => M.look fun μ => match xs with
  | [.cell _] => none
  | [x] => (lview μ x).map fun ys => .st (enumI 1 ys)
  | _ => none
theorem it_enum1 {K : PySem.W.Frag} {p : Pt} {a : Addr} {vs : List V} {xs : List MV} (r : RpAll K p vs xs) (st : ∀ q μ', Gr p q → Wd K q μ' → SqL K q.H a vs) : ItOk K (Ite1 K a) (enumI 1 xs) p where
  go := fun q' μ g w i hi => by
    rw [enumI_length] at hi
    exact ⟨vs, vs[i]'(by rw [r.length]; exact hi), st q' μ g w, List.getElem?_eq_getElem _⟩
  stop := fun q' μ g w i hi => by
    rw [enumI_length] at hi
    exact ⟨vs, st q' μ g w, by rw [r.length]; exact hi⟩
  yld := fun q' μ g w i x hx v H' hy => by
    obtain ⟨T, y, rfl, hT, rfl, hv⟩ := hy
    rw [enumI_get, Nat.add_comm 1 i] at hx
    cases e1 : xs[i]? with
    | none =>
      rw [e1] at hx
      cases hx
    | some z =>
      rw [e1] at hx
      cases hx
      obtain ⟨u, hu, ru⟩ := r.get e1
      have e := hv vs (st q' μ g w)
      rw [hu] at e
      cases e
      obtain ⟨q2, e2, g2, w2, r2⟩ := newT w (.cons (.sh (.int ((i + 1 : Nat) : Int))) (.cons (ru.mono g) .nil)) T hT
      exact ⟨q2, e2, g2, w2, r2⟩
theorem im_enum1 {K : PySem.W.Frag} {cl : Nat → Value} {W : WX} {ta : TA} {m : Sl → M (List MV)} (ha : PAm K cl W ta m) : PIm K cl W (iEnum1 K ta) (mEnum1 m) := fun σ δ p s =>
  Does.bind (t := ta σ) (k := fun vs H1 R => ∃ a xs, vs = [.ref a] ∧ SqL K H1 a xs ∧ R (Ite1 K a) H1) (ha σ δ p s) fun q g vs ms rs => Does.look fun μ w b e Q hq => by
    split at e
    · cases e
    · rename_i x hn
      obtain ⟨v, rfl, r1⟩ := rp1 rs
      cases e1 : lview μ x with
      | none =>
        rw [e1] at e
        cases e
      | some ys =>
        rw [e1] at e
        cases e
        obtain ⟨a, us, rfl, r, st⟩ := lview_stay (ν := μ) (q := q) w r1 e1 fun n z => hn n (by rw [z])
        exact ⟨a, us, rfl, st q μ (Gr.refl _) w, hq _ (it_enum1 r st)⟩
    · cases e
end PD

set_option Elab.async false
set_option linter.all false
set_option maxRecDepth 100000
set_option maxHeartbeats 2000000
namespace PD
open PySem
/-! ### what is joined at a sign comes apart at it -/
theorem first_eq {c : Nat} : ∀ {u v A B : List Nat}, c ∉ u → c ∉ v → u ++ c :: A = v ++ c :: B → u = v ∧ A = B
  | [], [], A, B, _, _, e => ⟨rfl, by simpa using e⟩
  | [], x :: v, A, B, _, hv, e => by
    exfalso
    have : c = x := (List.cons.inj e).1
    exact hv (by rw [this]; exact List.mem_cons_self)
  | x :: u, [], A, B, hu, _, e => by
    exfalso
    have : x = c := (List.cons.inj e).1
    exact hu (by rw [this]; exact List.mem_cons_self)
  | x :: u, y :: v, A, B, hu, hv, e => by
    obtain ⟨e1, e2⟩ := List.cons.inj e
    obtain ⟨h1, h2⟩ := first_eq (fun z => hu (List.mem_cons_of_mem _ z)) (fun z => hv (List.mem_cons_of_mem _ z)) e2
    exact ⟨by rw [e1, h1], h2⟩
theorem join_two' (c : Nat) (x y : Str) (r : List Str) : (Str.join ⟨#[c]⟩ (x :: y :: r)).cps.toList = x.cps.toList ++ c :: (Str.join ⟨#[c]⟩ (y :: r)).cps.toList := by
  show ((x.cps ++ #[c]) ++ (Str.join ⟨#[c]⟩ (y :: r)).cps).toList = _
  rw [Array.toList_append, Array.toList_append, List.append_assoc]
  rfl
theorem join_one' (s x : Str) : Str.join s [x] = x := rfl
theorem str_ext {a b : Str} (h : a.cps.toList = b.cps.toList) : a = b := by
  cases a
  cases b
  congr 1
  exact Array.toList_inj.mp h
theorem join_uniq (c : Nat) : ∀ (P Q : List Str), P ≠ [] → Q ≠ [] → (∀ p ∈ P, c ∉ p.cps.toList) → (∀ q ∈ Q, c ∉ q.cps.toList) → Str.join ⟨#[c]⟩ P = Str.join ⟨#[c]⟩ Q → P = Q
  | [], _, h, _, _, _, _ => absurd rfl h
  | _ :: _, [], _, h, _, _, _ => absurd rfl h
  | [x], [y], _, _, _, _, e => by
    rw [join_one', join_one'] at e
    rw [e]
  | [x], y :: z :: r, _, _, hp, _, e => by
    exfalso
    have e1 := congrArg (fun s : Str => s.cps.toList) e
    rw [join_one', join_two'] at e1
    exact hp x List.mem_cons_self (by rw [e1]; exact List.mem_append_right _ List.mem_cons_self)
  | x :: z :: r, [y], _, _, _, hq, e => by
    exfalso
    have e1 := congrArg (fun s : Str => s.cps.toList) e
    rw [join_one', join_two'] at e1
    exact hq y List.mem_cons_self (by rw [← e1]; exact List.mem_append_right _ List.mem_cons_self)
  | x :: z :: r, y :: w :: t, _, _, hp, hq, e => by
    have e1 := congrArg (fun s : Str => s.cps.toList) e
    rw [join_two', join_two'] at e1
    obtain ⟨h1, h2⟩ := first_eq (hp x List.mem_cons_self) (hq y List.mem_cons_self) e1
    have ih := join_uniq c (z :: r) (w :: t) (by simp) (by simp) (fun p h => hp p (List.mem_cons_of_mem _ h)) (fun q h => hq q (List.mem_cons_of_mem _ h)) (str_ext h2)
    rw [str_ext h1, ih]
theorem split_join (c : Nat) (P : List Str) (hne : P ≠ []) (hf : ∀ p ∈ P, c ∉ p.cps.toList) : Txt.split (Txt.join ⟨#[c]⟩ P) ⟨#[c]⟩ = P := by
  refine join_uniq c _ P (fun e => ?_) hne (fun p hp => StrLaws.split_free _ c p hp) hf ?_
  · have := PyProof.Rows.split_pos (Txt.join ⟨#[c]⟩ P) ⟨#[c]⟩
    rw [e] at this
    simp at this
  · rw [StrLaws.join_split]
    exact StrLaws.glued_eq_join _ _
end PD

set_option Elab.async false
set_option linter.all false
set_option maxRecDepth 100000
set_option maxHeartbeats 2000000
namespace PD
open PySem NumText
abbrev numT (n : Int) : Str := Str.ofString (toString n)
abbrev dg (m : Nat) : List Nat := (Nat.toDigits 10 m).map Char.toNat
theorem numT_nat (m : Nat) : (numT ((m : Nat) : Int)).cps.toList = dg m := PySem.W.KIN.signs_num m
theorem dg_all (m : Nat) : AllDigits (dg m) := by
  intro c hc
  obtain ⟨ch, hch, rfl⟩ := List.mem_map.mp hc
  have h := Nat.isDigit_of_mem_toDigits (by decide) (by decide) hch
  unfold Char.isDigit at h
  simp only [Bool.and_eq_true, decide_eq_true_eq, ge_iff_le] at h
  exact ⟨by have := h.1; exact this, by have := h.2; exact this⟩
theorem dg_ne (m : Nat) : dg m ≠ [] := by
  intro e
  have := congrArg List.length e
  rw [List.length_map] at this
  have h := Nat.length_toDigits_pos (b := 10) (n := m)
  simp at this
theorem dg_val (m : Nat) : digitsVal (dg m) = m := PySem.W.KIN.val_back m
theorem numT_neg (m : Nat) : (numT (Int.negSucc m)).cps.toList = 45 :: dg (m + 1) := by
  unfold numT
  rw [PyProof.Rows.signs_ofString]
  show (("-" ++ Nat.repr (m + 1)) : String).toList.map Char.toNat = _
  rw [String.toList_append, List.map_append, Nat.toList_repr]
  rfl
theorem dg_len {m k : Nat} (h : m < 10 ^ k) (hk : 0 < k) : (dg m).length ≤ k := by
  rw [List.length_map]
  exact (Nat.length_toDigits_le_iff (by decide) hk).mpr h
theorem len_toList (s : Str) : s.length = s.cps.toList.length := by
  unfold Str.length
  simp
/-- a number's text reads as the number -/
theorem int_num {n : Int} (h : n.natAbs < 10 ^ 60) : intText? (numT n) = some n ∧ (numT n).length ≤ 61 := by
  cases n with
  | ofNat m =>
    have e := numT_nat m
    have hl : (numT ((m : Nat) : Int)).length ≤ 60 := by
      rw [len_toList, e]
      exact dg_len h (by decide)
    refine ⟨?_, Nat.le_trans hl (by decide)⟩
    have := intText_digits (x := numT ((m : Nat) : Int)) (by rw [e]; exact dg_all m) (by rw [e]; exact dg_ne m) (Nat.le_trans hl (by decide))
    rw [e, dg_val] at this
    exact this
  | negSucc m =>
    have e := numT_neg m
    have hl : (numT (Int.negSucc m)).length ≤ 61 := by
      rw [len_toList, e, List.length_cons]
      have := dg_len (m := m + 1) (k := 60) h (by decide)
      omega
    refine ⟨?_, hl⟩
    have := intText_neg e (dg_all (m + 1)) (dg_ne (m + 1)) (Nat.le_trans hl (by decide))
    rw [dg_val] at this
    exact this
end PD

set_option Elab.async false
set_option linter.all false
set_option maxRecDepth 100000
set_option maxHeartbeats 2000000
namespace PD
open PySem NumText
theorem isDigit_c {c : Nat} (h1 : 48 ≤ c) (h2 : c ≤ 57) : Unicode.isDigit c = true := by
  have : ∀ i : Fin 10, Unicode.isDigit (48 + i.val) = true := by decide +kernel
  have h := this ⟨c - 48, by omega⟩
  rw [show 48 + (c - 48) = c by omega] at h
  exact h
theorem all_arr {p : Nat → Bool} {a : Array Nat} (h : ∀ c ∈ a.toList, p c = true) : a.all p = true := by
  rw [← Array.all_toList]
  exact List.all_eq_true.mpr h
theorem digits_ask {x : Str} (h : AllDigits x.cps.toList) (hne : x.cps.toList ≠ []) : Txt.isascii x = true ∧ Txt.isdigit x = true := by
  constructor
  · exact all_arr fun c hc => by
      have := h c hc
      exact decide_eq_true (by omega)
  · unfold Txt.isdigit
    rw [Bool.and_eq_true]
    refine ⟨decide_eq_true ?_, all_arr fun c hc => isDigit_c (h c hc).1 (h c hc).2⟩
    rw [len_toList]
    exact List.length_pos_iff.mpr hne
theorem digitsVal_lt : ∀ {n : Nat} {cs : List Nat}, cs.length = n → AllDigits cs → digitsVal cs < 10 ^ n
  | 0, cs, hl, _ => by
    have : cs = [] := List.length_eq_zero_iff.mp hl
    subst this
    decide
  | n + 1, cs, hl, h => by
    have hne : cs ≠ [] := by
      intro e
      rw [e] at hl
      cases hl
    have e := (List.dropLast_concat_getLast hne).symm
    rw [e, digitsVal_snoc]
    have h1 := digitsVal_lt (n := n) (cs := cs.dropLast) (by rw [List.length_dropLast]; omega) fun c hc => h c (List.dropLast_subset cs hc)
    have h2 := h _ (List.getLast_mem hne)
    rw [Nat.pow_succ]
    omega
theorem dg_first {m : Nat} {r : List Nat} (h : dg m = 48 :: r) : m = 0 ∧ r = [] := by
  have hv := dg_val m
  rw [h, digitsVal_zero] at hv
  have ha : AllDigits r := fun c hc => by
    have := dg_all m
    rw [h] at this
    exact this c (List.mem_cons_of_mem _ hc)
  have hlt := digitsVal_lt (n := r.length) rfl ha
  rw [hv] at hlt
  cases r with
  | nil => exact ⟨hv.symm, rfl⟩
  | cons c t =>
    have := dg_len hlt (by simp)
    rw [h] at this
    simp at this
    omega
end PD

set_option Elab.async false
set_option linter.all false
set_option maxRecDepth 100000
set_option maxHeartbeats 2000000
namespace PD
open PySem NumText
theorem starts_sign {x : Str} {a c : Nat} {r : List Nat} (h : x.cps.toList = a :: r) : Txt.startswith x ⟨#[c]⟩ = decide (a = c) := by
  have hl : x.length = r.length + 1 := by
    rw [len_toList, h]
    rfl
  unfold Txt.startswith
  rw [show (⟨#[c]⟩ : Str).length = 1 from rfl, decide_eq_true (show 0 + 1 ≤ x.length by omega), Bool.true_and]
  have he : (x.cps.extract 0 (0 + 1)) = #[a] := by
    apply Array.toList_inj.mp
    rw [Array.toList_extract, h]
    rfl
  show (x.cps.extract 0 (0 + 1) == #[c]) = _
  rw [he]
  by_cases e : a = c
  · rw [e, decide_eq_true rfl]
    simp
  · rw [decide_eq_false e]
    simp [e]
/-- a number from nought on, as its text is asked -/
theorem count_num (m : Nat) : Txt.isascii (numT ((m : Nat) : Int)) = true ∧ Txt.isdigit (numT ((m : Nat) : Int)) = true ∧ (numT ((m : Nat) : Int) = "0" ∨ Txt.startswith (numT ((m : Nat) : Int)) "0" = false) := by
  have e := numT_nat m
  obtain ⟨h1, h2⟩ := digits_ask (x := numT ((m : Nat) : Int)) (by rw [e]; exact dg_all m) (by rw [e]; exact dg_ne m)
  refine ⟨h1, h2, ?_⟩
  cases hd : dg m with
  | nil => exact absurd hd (dg_ne m)
  | cons a r =>
    by_cases h : a = 48
    · subst h
      obtain ⟨hm, _⟩ := dg_first hd
      subst hm
      exact .inl rfl
    · refine .inr ?_
      have := starts_sign (x := numT ((m : Nat) : Int)) (a := a) (c := 48) (r := r) (by rw [e, hd])
      rw [decide_eq_false h] at this
      exact this
/-- .. and any number's: whether a minus stands ahead -/
theorem minus_num (m : Nat) : Txt.startswith (numT ((m : Nat) : Int)) "-" = false ∧ Txt.startswith (numT (Int.negSucc m)) "-" = true := by
  constructor
  · have e := numT_nat m
    cases hd : dg m with
    | nil => exact absurd hd (dg_ne m)
    | cons a r =>
      have ha := (dg_all m) a (by rw [hd]; exact List.mem_cons_self)
      have := starts_sign (x := numT ((m : Nat) : Int)) (a := a) (c := 45) (r := r) (by rw [e, hd])
      rw [decide_eq_false (by omega)] at this
      exact this
  · exact starts_sign (x := numT (Int.negSucc m)) (a := 45) (c := 45) (numT_neg m)
end PD

set_option Elab.async false
set_option linter.all false
set_option maxRecDepth 100000
set_option maxHeartbeats 2000000
namespace PD
open PySem PySem.Spec PyProof.Rows L2
/-! ### a call that looks at what it is given, and hands back new lists -/
/-- what a call hands back, its leaves without lists -/
def peekF : Nat → Mu → MV → Option PyData
  | 0, _, _ => none
  | _ + 1, _, .sh d => if flatD d = true then some d else none
  | n + 1, μ, .cell c => match μ[c]? with
    | some xs => (peekA (peekF n μ) xs).map .list
    | none => none
  | n + 1, μ, .tp xs => (peekA (peekF n μ) xs).map .tuple
  | _ + 1, _, .scr _ => none
def mCallF (k : Nat) (f : List MV → M MV) (ma : Sl → M (List MV)) : Sl → M MV := fun δ => (ma δ).bind fun xs => if xs.length = k then fun μ => match peekSs μ xs with
  | none => none
  | some ys => match f ys [] with
    | some (.ok x, ν) => (peekF 8 ν x).map fun d => (.ok (.sh d), μ)
    | some (.exc c, _) => some (.exc c, μ)
    | none => none else fun _ => none
/-- what stays: shared as before, all tuples, all that is new -/
def heapF (Hs G H2 : Hp) : Hp := fun a => match Hs a with
  | some o => some o
  | none => match G a with
    | some (.tup us) => some (.tup us)
    | some _ => none
    | none => H2 a
section
variable {K : PySem.W.Frag} {cl : Nat → Value} {W : WX} {ta : TA} {ma : Sl → M (List MV)}
theorem peekF_ok {q : Pt} {ν : Mu} {G : Hp} (w : Wd K q ν) (ht : ∀ a vs, q.Hs a = some (.tup vs) → G a = some (.tup vs)) (hc : ∀ a ∈ q.ρ, ∀ o, q.H a = some o → G a = some o) : ∀ (n : Nat) (v : V) (x : MV) (d : PyData), Rp K q v x → peekF n ν x = some d → Dq G v d
  | 0, _, _, _, _, e => by cases e
  | n + 1, v, x, d, r, e => by
    cases r with
    | sh z =>
      unfold peekF at e
      split at e
      · rename_i hf
        cases e
        exact flat_dq ht z hf
      · cases e
    | cell z =>
      rename_i c a
      unfold peekF at e
      cases e1 : ν[c]? with
      | none =>
        rw [e1] at e
        cases e
      | some xs =>
        rw [e1] at e
        obtain ⟨b, vs, h1, h2, h3⟩ := w.cel _ _ e1
        rw [z] at h1
        cases h1
        cases e2 : peekA (peekF n ν) xs with
        | none =>
          simp only [e2] at e
          cases e
        | some ds =>
          simp only [e2, Option.map_some, Option.some.injEq] at e
          subst e
          exact .lst (hc _ (List.mem_of_getElem? z) _ h2) (peekA_ok (fun v x d r e => peekF_ok w ht hc n v x d r e) h3 e2)
    | tp q1 q2 =>
      rename_i a vs xs
      unfold peekF at e
      cases e2 : peekA (peekF n ν) xs with
      | none =>
        simp only [e2] at e
        cases e
      | some ds =>
        simp only [e2, Option.map_some, Option.some.injEq] at e
        subst e
        exact .tup (ht _ _ q1) (peekA_ok (fun v x d r e => peekF_ok w ht hc n v x d r e) q2 e2)
    | scr z => cases e
theorem pm_callF {k : Nat} {f : List MV → M MV} (ha : PAm K cl W ta ma) : PEm K cl W (tCallS (spI K cl k f) (WE W) ta) (mCallF k f ma) := fun σ δ p s =>
  Does.bind (t := ta σ) (k := fun vs H1 Q => spI K cl k f vs H1 Q (WE W σ)) (ha σ δ p s) fun q g vs xs rs => Does.if fun hk => by
    intro μ w r μ' e Q hq
    dsimp only at e
    cases e0 : peekSs μ xs with
    | none =>
      rw [e0] at e
      cases e
    | some ys =>
      rw [e0] at e
      dsimp only at e
      cases e1 : f ys [] with
      | none =>
        rw [e1] at e
        cases e
      | some rr =>
        obtain ⟨res, ν⟩ := rr
        rw [e1] at e
        have wd0 : Wd K (⟨q.H, q.H, []⟩ : Pt) [] := ⟨Sub.refl _, List.nodup_nil, fun a m => (by cases m), rfl, fun n zs h => by simp at h⟩
        refine ⟨by rw [rs.length]; exact hk, ⟨q.H, q.H, []⟩, [], ys, res, ν, rfl, wd0, peekSs_ok w rs e0, e1, fun q2 g2 w2 => ?_⟩
        have st : ∀ a o, q.H a = some o → q2.H a = some o := fun a o h => g2.fr a o h (by simp)
        have hold : ∀ a o, q.Hs a = some o → heapF q.Hs q.H q2.H a = some o := fun a o h => by
          unfold heapF
          rw [h]
        have hlst : ∀ a us, q.H a = some (.lst us) → q.Hs a = none → heapF q.Hs q.H q2.H a = none := fun a us h n => by
          unfold heapF
          rw [n, h]
        have hnew : ∀ a, q.H a = none → heapF q.Hs q.H q2.H a = q2.H a := fun a h => by
          unfold heapF
          have : q.Hs a = none := w.ex.free h
          rw [this, h]
        have htup : ∀ a us, q2.Hs a = some (.tup us) → heapF q.Hs q.H q2.H a = some (.tup us) := fun a us h => by
          have h2 := w2.ex a _ h
          cases hh : q.H a with
          | none =>
            rw [hnew a hh]
            exact h2
          | some o =>
            have h1 := st a _ hh
            rw [h2] at h1
            cases h1
            unfold heapF
            cases hs : q.Hs a with
            | some o' =>
              have h3 := w.ex a _ hs
              rw [hh] at h3
              cases h3
              rfl
            | none => rw [hh]
        have g3 : Gr q ⟨q2.H, heapF q.Hs q.H q2.H, q.ρ⟩ := ⟨fun a o h _ => st a o h, hold, fun a us h n => hlst a us h n, ⟨[], by simp⟩, fun a m => .inl m⟩
        have w3 : Wd K ⟨q2.H, heapF q.Hs q.H q2.H, q.ρ⟩ μ := by
          refine ⟨fun a o h => ?_, w.nd, fun a m => ?_, w.len, fun n zs h => ?_⟩
          · have h' : heapF q.Hs q.H q2.H a = some o := h
            cases hh : q.Hs a with
            | some o' =>
              rw [hold a _ hh] at h'
              cases h'
              exact st a _ (w.ex a _ hh)
            | none =>
              cases hH : q.H a with
              | none =>
                rw [hnew a hH] at h'
                exact h'
              | some o' =>
                unfold heapF at h'
                rw [hh, hH] at h'
                cases o' with
                | tup us =>
                  cases h'
                  exact st a _ hH
                | _ => cases h'
          · obtain ⟨us, hl⟩ := w.lst m
            exact hlst a us hl (w.out a m)
          · obtain ⟨a, us, h1, h2, h3⟩ := w.cel n zs h
            exact ⟨a, us, h1, st a _ h2, h3.mono g3⟩
        cases res with
        | ok x =>
          dsimp only at e
          cases e2 : peekF 8 ν x with
          | none =>
            simp only [e2] at e
            cases e
          | some d =>
            simp only [e2] at e
            cases e
            refine fun v rv => hq _ g3 w3 v (.sh (peekF_ok w2 htup (fun a m o h => ?_) 8 v x d rv e2))
            rcases g2.nw a m with z | z
            · cases z
            · rw [show heapF q.Hs q.H q2.H a = q2.H a from hnew a z]
              exact h
        | exc c =>
          cases e
          exact hq ⟨q2.H, heapF q.Hs q.H q2.H, q.ρ⟩ g3 w3
end
end PD

set_option Elab.async false
set_option linter.all false
set_option maxRecDepth 100000
set_option maxHeartbeats 2000000
namespace PD
open PySem PySem.Spec PyProof.Rows L2
/-! ### a text's signs -/
def signM (c : Nat) : MV := .sh (.str ⟨#[c]⟩)
def mStrS (a : Sl → M MV) : Sl → M Src := fun δ => (a δ).bind fun x => M.opt (match x with
  | .sh (.str z) => some (.st (z.cps.toList.map signM))
  | _ => none)
/-- whether one sign stands nowhere in a text -/
def signNot (z : Str) : List Nat → M MV
  | [c] => M.ret (.sh (.bool (!decide (c ∈ z.cps.toList))))
  | _ => fun _ => none
def fNotSign (x y : MV) : M MV := match x, y with
  | .sh (.str a), .sh (.str z) => signNot z a.cps.toList
  | _, _ => fun _ => none
section
variable {K : PySem.W.Frag} {cl : Nat → Value} {W : WX}
theorem it_str {p : Pt} {z : Str} : ItOk K (Its z) (z.cps.toList.map signM) p where
  go := fun q' μ g w i hi => by
    rw [List.length_map, Array.length_toList] at hi
    exact hi
  stop := fun q' μ g w i hi => by
    rw [List.length_map, Array.length_toList] at hi
    exact hi
  yld := fun q' μ g w i x hx v H' hy => by
    obtain ⟨rfl, c, hc, rfl⟩ := hy
    rw [List.getElem?_map, Array.getElem?_toList, hc] at hx
    cases hx
    exact ⟨q', rfl, Gr.refl _, w, .sh (.str _)⟩
theorem im_str {te : TE} {m : Sl → M MV} (ha : PEm K cl W te m) : PIm K cl W (iStr te) (mStrS m) := fun σ δ p s =>
  Does.bind (t := te σ) (k := fun v H1 R => ∃ x, v = V.str x ∧ R (Its x) H1) (ha σ δ p s) fun q g v mv rv => Does.opt fun b e => by
    intro μ w r μ' e' Q hq
    cases e'
    split at e
    · cases e
      exact ⟨_, rp_str rv, hq q (Gr.refl q) w _ it_str⟩
    · cases e
theorem r2_notSign : R2m K cl (fun x y H Q => ∃ (c : Nat) (z : Str), x = .str ⟨#[c]⟩ ∧ y = .str z ∧ Q (.bl (!decide (c ∈ z.cps.toList))) H) fNotSign := by
  intro W σ p x y mx my rx ry μ w r μ' e Q hq
  unfold fNotSign at e
  split at e
  · rename_i a z
    cases hc : a.cps.toList with
    | nil =>
      rw [hc] at e
      cases e
    | cons c t =>
      cases t with
      | cons d u =>
        rw [hc] at e
        cases e
      | nil =>
        rw [hc] at e
        cases e
        have ha : a = ⟨#[c]⟩ := by
          cases a
          congr 1
          exact Array.toList_inj.mp hc
        subst ha
        exact ⟨c, z, rp_str rx, rp_str ry, hq p (Gr.refl p) w _ (.sh (.bl _))⟩
  · cases e
end
end PD


set_option Elab.async false
set_option linter.all false
set_option maxRecDepth 100000
set_option maxHeartbeats 4000000

namespace LW
open PySem PySem.Spec PyProof.Rows L2 PD

def exF_BadNote : Nat → Option Bool := fun c => match c with
  | 1 => some false
  | 2 => some false
  | 3 => some true
  | _ => none
def exF_NetError : Nat → Option Bool := fun c => match c with
  | 1 => some true
  | 2 => some true
  | 3 => some true
  | _ => none
def exF_NoOrder : Nat → Option Bool := fun c => match c with
  | 1 => some false
  | 2 => some true
  | 3 => some false
  | _ => none
def exF_NoPipe : Nat → Option Bool := fun c => match c with
  | 1 => some true
  | 2 => some false
  | 3 => some false
  | _ => none
def okAlone : Nat → Bool := fun c => match c with
  | 1 => true
  | 2 => true
  | 3 => true
  | _ => false
/-- _is_pipe -/
def m_is_pipe : MS :=
    (mSeq (mAsg (gTupM 3 (gConsM (gNameM 2) (gConsM (gNameM 3) (gConsM (gNameM 4) gNilM)))) (mVar 0))
    (mRet (mAndV (mChain fLe fLt (mC (.int 0)) (mVar 2) (mVar 1)) (mAndV (mChain fLe fLt (mC (.int 0)) (mVar 3) (mVar 1)) (mChain fLe fLe (mC (.int 1)) (mVar 4) (mC (.int 1000)))))))
def is_pipe : List MV → Option (Res PyData) := bodyP 5 m_is_pipe

/-- _is_order -/
def m_is_order : MS :=
    (mSeq (mAsg (gTupM 2 (gConsM (gNameM 3) (gConsM (gNameM 4) gNilM))) (mVar 0))
    (mSeq (mIfS (mTest (mOp2 (mEq false) (mVar 3) (mC (.str "set")))) (mRet (mC (.bool true))) mNext)
    (mSeq (mIfS (mTest (mOp2 (mIn true) (mVar 3) (mTup (mCons (mC (.str "put")) (mCons (mC (.str "take")) (mCons (mC (.str "add")) mNil)))))) (mRet (mC (.bool false))) mNext)
    (mSeq (mIfS (mNot (mTest (mChain fLe fLt (mC (.int 0)) (mVar 4) (mCB mLen (mCons (mVar 1) mNil))))) (mRet (mC (.bool false))) mNext)
    (mSeq (mAsg (gTupM 3 (gConsM (gNameM 5) (gConsM (gNameM 6) (gConsM (gNameM 7) gNilM)))) (mOp2 mIx (mVar 1) (mVar 4)))
    (mSeq (mIfS (mTest (mOp2 (mEq false) (mVar 3) (mC (.str "put")))) (mRet (mOp2 (mEq false) (mVar 2) (mVar 5))) mNext)
    (mRet (mOp2 (mEq false) (mVar 2) (mVar 6)))))))))
def is_order : List MV → Option (Res PyData) := bodyP 8 m_is_order

/-- _copied -/
def m_copied : MS :=
    (mRet (mTup (mCons (mCB (mListOf true) (mCons (mVar 0) mNil)) (mCons (mComp true (mSeqS (mVar 1)) (gNameM 2) mYes (mCB (mListOf true) (mCons (mVar 2) mNil)) [2]) mNil))))
def copied : List MV → M MV := bodyI 3 m_copied

/-- checked -/
def m_checked_b1 : MS :=
    (mIfS (mNot (mTru (mCallP 2 is_pipe (mCons (mVar 4) (mCons (mCB mLen (mCons (mVar 2) mNil)) mNil))))) (mRaise1 1 (mJoin [(mC (.str "pipe ")), (mFmt (mVar 3)), (mC (.str " has a wrong maker, taker or room"))] Str.empty)) mNext)
def m_checked_b2 : MS :=
    (mIfS (mNot (mTru (mCallP 3 is_order (mCons (mVar 7) (mCons (mVar 1) (mCons (mVar 5) mNil)))))) (mRaise1 2 (mJoin [(mC (.str "worker ")), (mFmt (mVar 5)), (mC (.str " cannot be given the order at place ")), (mFmt (mVar 3))] Str.empty)) mNext)
def m_checked_b3 : MS :=
    (mFor (mEnum (mCons (mVar 6) mNil)) (gTupM 2 (gConsM (gNameM 3) (gConsM (gNameM 7) gNilM))) m_checked_b2 [7])
def m_checked : MS :=
    (mSeq (mAsg (gTupM 2 (gConsM (gNameM 1) (gConsM (gNameM 2) gNilM))) (mVar 0))
    (mSeq (mFor (mEnum (mCons (mVar 1) mNil)) (gTupM 2 (gConsM (gNameM 3) (gConsM (gNameM 4) gNilM))) m_checked_b1 [4])
    (mSeq (mFor (mEnum (mCons (mVar 2) mNil)) (gTupM 2 (gConsM (gNameM 5) (gConsM (gNameM 6) gNilM))) m_checked_b3 [5, 6, 7])
    (mRet (mCallI 2 copied (mCons (mVar 1) (mCons (mVar 2) mNil)))))))
def checked : List MV → M MV := bodyI 8 m_checked

/-- _is_count -/
def m_is_count : MS :=
    (mSeq (mIfS (mOr (mNot (mTru (mStr0 Txt.isascii (mVar 0)))) (mNot (mTru (mStr0 Txt.isdigit (mVar 0))))) (mRet (mC (.bool false))) mNext)
    (mRet (mOrV (mOp2 (mEq false) (mVar 0) (mC (.str "0"))) (mNotV (mStrM (fStr1 Txt.startswith) (mVar 0) (mCons (mC (.str "0")) mNil))))))
def is_count : List MV → Option (Res PyData) := bodyP 1 m_is_count

/-- _is_number -/
def m_is_number : MS :=
    (mSeq (mIfS (mTru (mStrM (fStr1 Txt.startswith) (mVar 0) (mCons (mC (.str "-")) mNil))) (mRet (mAndV (mOp2 (mEq true) (mVar 0) (mC (.str "-0"))) (mCallP 1 is_count (mCons (mSl false (mVar 0) (mPart (mC (.int 1))) mNoPart) mNil)))) mNext)
    (mRet (mCallP 1 is_count (mCons (mVar 0) mNil))))
def is_number : List MV → Option (Res PyData) := bodyP 1 m_is_number

/-- _is_line -/
def m_is_line : MS :=
    (mSeq (mIfS (mTest (mOp2 (mEq false) (mVar 0) (mC (.str "worker")))) (mRet (mNotTV (mVar 1))) mNext)
    (mSeq (mIfS (mTest (mOp2 (mEq false) (mVar 0) (mC (.str "pipe")))) (mRet (mAndV (mOp2 (mEq false) (mVar 2) (mC (.int 0))) (mAndV (mOp2 (mEq false) (mCB mLen (mCons (mVar 1) mNil)) (mC (.int 3))) (mCB mAll (mCons (mComp false (mSeqS (mVar 1)) (gNameM 3) mYes (mCallP 1 is_count (mCons (mVar 3) mNil)) [3]) mNil))))) mNext)
    (mSeq (mIfS (mOr (mTest (mOp2 (mEq false) (mVar 2) (mC (.int 0)))) (mTest (mOp2 (mEq true) (mCB mLen (mCons (mVar 1) mNil)) (mC (.int 1))))) (mRet (mC (.bool false))) mNext)
    (mSeq (mIfS (mTest (mOp2 (mEq false) (mVar 0) (mC (.str "set")))) (mRet (mCallP 1 is_number (mCons (mOp2 mIx (mVar 1) (mC (.int 0))) mNil))) mNext)
    (mRet (mAndV (mOp2 (mIn false) (mVar 0) (mTup (mCons (mC (.str "put")) (mCons (mC (.str "take")) (mCons (mC (.str "add")) mNil))))) (mCallP 1 is_count (mCons (mOp2 mIx (mVar 1) (mC (.int 0))) mNil))))))))
def is_line : List MV → Option (Res PyData) := bodyP 4 m_is_line

/-- read -/
def m_read_b1 : MS :=
    (mSeq (mStar 5 6 (mStrM fSplit (mVar 4) (mCons (mC (.str " ")) mNil)))
    (mSeq (mIfS (mNot (mTru (mCallP 3 is_line (mCons (mVar 5) (mCons (mVar 6) (mCons (mCB mLen (mCons (mVar 2) mNil)) mNil)))))) (mRaise1 3 (mJoin [(mC (.str "line ")), (mFmt (mVar 3)), (mC (.str " is none that may stand there"))] Str.empty)) mNext)
    (mSeq (mAsg (gNameM 8) (mComp false (mSeqS (mVar 6)) (gNameM 7) mYes (mCB mIntStr (mCons (mVar 7) mNil)) [7]))
    (mIfS (mTest (mOp2 (mEq false) (mVar 5) (mC (.str "pipe")))) (mDrop (mCellM fAppend (mVar 1) (mCons (mCB mTupleOf (mCons (mVar 8) mNil)) mNil))) (mIfS (mTest (mOp2 (mEq false) (mVar 5) (mC (.str "worker")))) (mDrop (mCellM fAppend (mVar 2) (mCons (mLst true mNil) mNil))) (mDrop (mCellM fAppend (mOp2 mIx (mVar 2) (mOp1 fNeg (mC (.int 1)))) (mCons (mTup (mCons (mVar 5) (mCons (mOp2 mIx (mVar 8) (mC (.int 0))) mNil))) mNil))))))))
def m_read : MS :=
    (mSeq (mAsg (gNameM 1) (mLst true mNil))
    (mSeq (mAsg (gNameM 2) (mLst true mNil))
    (mSeq (mFor (mEnum1 (mCons (mStrM fSplit (mVar 0) (mCons (mC (.str "\n")) mNil)) mNil)) (gTupM 2 (gConsM (gNameM 3) (gConsM (gNameM 4) gNilM))) m_read_b1 [3, 4, 5, 6, 8])
    (mSeq (mIfS (mNot (mTru (mVar 2))) (mRaise1 3 (mC (.str "there is no worker"))) mNext)
    (mRet (mCallF 1 checked (mCons (mTup (mCons (mVar 1) (mCons (mVar 2) mNil))) mNil)))))))
def read : List MV → Option (Res PyData) := bodyP 9 m_read

/-- _law_cell_at -/
def m_l_cell_at : MS :=
    (mSeq (mIfS (mTest (mOp2 fLt (mVar 1) (mCB mLen (mCons (mVar 0) mNil)))) (mRet (mOp2 mIx (mVar 0) (mVar 1))) mNext)
    (mRet (mC (.int 0))))
def l_cell_at : List MV → Option (Res PyData) := bodyP 2 m_l_cell_at

/-- _law_figures -/
def m_l_figures_b1 : MS :=
    (mIfS (mTest (mOp2 fNotSign (mVar 1) (mC (.str "0123456789")))) (mRet (mC .none)) mNext)
def m_l_figures : MS :=
    (mSeq (mIfS (mOr (mTest (mOp2 (mEq false) (mVar 0) (mC (.str "")))) (mAnd (mTest (mOp2 fGt (mCB mLen (mCons (mVar 0) mNil)) (mC (.int 1)))) (mTest (mOp2 (mEq false) (mOp2 mIx (mVar 0) (mC (.int 0))) (mC (.str "0")))))) (mRet (mC .none)) mNext)
    (mSeq (mFor (mStrS (mVar 0)) (gNameM 1) m_l_figures_b1 [1])
    (mRet (mCB mIntStr (mCons (mVar 0) mNil)))))
def l_figures : List MV → Option (Res PyData) := bodyP 2 m_l_figures

/-- _law_signed -/
def m_l_signed : MS :=
    (mSeq (mIfS (mAnd (mTest (mOp2 (mEq false) (mSl false (mVar 0) mNoPart (mPart (mC (.int 1)))) (mC (.str "-")))) (mTest (mOp2 (mEq true) (mVar 0) (mC (.str "-0"))))) (mSeq (mAsg (gNameM 1) (mCallP 1 l_figures (mCons (mSl false (mVar 0) (mPart (mC (.int 1))) mNoPart) mNil)))
    (mSeq (mIfS (mTest (mOp2 (mIs false) (mVar 1) (mC .none))) (mRet (mC .none)) mNext)
    (mRet (mOp1 fNeg (mVar 1))))) mNext)
    (mRet (mCallP 1 l_figures (mCons (mVar 0) mNil))))
def l_signed : List MV → Option (Res PyData) := bodyP 2 m_l_signed

/-- _law_net_of -/
def m_l_net_of_b1 : MS :=
    (mSeq (mAsg (gNameM 4) (mStrM fSplit (mVar 3) (mCons (mC (.str " ")) mNil)))
    (mSeq (mIfS (mTest (mOp2 (mEq false) (mVar 3) (mC (.str "worker")))) (mSeq (mDrop (mCellM fAppend (mVar 2) (mCons (mLst true mNil) mNil)))
    mCont) mNext)
    (mSeq (mAsg (gNameM 6) (mComp false (mSeqS (mSl false (mVar 4) (mPart (mC (.int 1))) mNoPart)) (gNameM 5) mYes (mIf (mTest (mOp2 (mEq false) (mOp2 mIx (mVar 4) (mC (.int 0))) (mC (.str "set")))) (mCallP 1 l_signed (mCons (mVar 5) mNil)) (mCallP 1 l_figures (mCons (mVar 5) mNil))) [5]))
    (mSeq (mIfS (mTest (mOp2 (mIn false) (mC .none) (mVar 6))) (mRet (mC .none)) mNext)
    (mIfS (mAnd (mTest (mOp2 (mEq false) (mOp2 mIx (mVar 4) (mC (.int 0))) (mC (.str "pipe")))) (mAnd (mTest (mOp2 (mEq false) (mCB mLen (mCons (mVar 6) mNil)) (mC (.int 3)))) (mTest (mOp2 (mEq false) (mCB mLen (mCons (mVar 2) mNil)) (mC (.int 0)))))) (mDrop (mCellM fAppend (mVar 1) (mCons (mTup (mCons (mOp2 mIx (mVar 6) (mC (.int 0))) (mCons (mOp2 mIx (mVar 6) (mC (.int 1))) (mCons (mOp2 mIx (mVar 6) (mC (.int 2))) mNil)))) mNil))) (mIfS (mAnd (mTest (mOp2 (mIn false) (mOp2 mIx (mVar 4) (mC (.int 0))) (mTup (mCons (mC (.str "set")) (mCons (mC (.str "put")) (mCons (mC (.str "take")) (mCons (mC (.str "add")) mNil))))))) (mAnd (mTest (mOp2 (mEq false) (mCB mLen (mCons (mVar 6) mNil)) (mC (.int 1)))) (mTest (mOp2 fGt (mCB mLen (mCons (mVar 2) mNil)) (mC (.int 0)))))) (mDrop (mCellM fAppend (mOp2 mIx (mVar 2) (mOp1 fNeg (mC (.int 1)))) (mCons (mTup (mCons (mOp2 mIx (mVar 4) (mC (.int 0))) (mCons (mOp2 mIx (mVar 6) (mC (.int 0))) mNil))) mNil))) (mRet (mC .none))))))))
def m_l_net_of : MS :=
    (mSeq (mAsg (gNameM 1) (mLst true mNil))
    (mSeq (mAsg (gNameM 2) (mLst true mNil))
    (mSeq (mFor (mSeqS (mVar 0)) (gNameM 3) m_l_net_of_b1 [3, 4, 6])
    (mSeq (mIfS (mTest (mOp2 (mEq false) (mCB mLen (mCons (mVar 2) mNil)) (mC (.int 0)))) (mRet (mC .none)) mNext)
    (mRet (mTup (mCons (mVar 1) (mCons (mVar 2) mNil))))))))
def l_net_of : List MV → Option (Res PyData) := bodyP 7 m_l_net_of

/-- _law_due -/
def m_l_due_b1 : MS :=
    (mIfS (mNot (mAnd (mTest (mOp2 fLt (mOp2 mIx (mVar 1) (mC (.int 0))) (mCB mLen (mCons (mOp2 mIx (mVar 0) (mC (.int 1))) mNil)))) (mAnd (mTest (mOp2 fLt (mOp2 mIx (mVar 1) (mC (.int 1))) (mCB mLen (mCons (mOp2 mIx (mVar 0) (mC (.int 1))) mNil)))) (mTest (mChain fLe fLe (mC (.int 1)) (mOp2 mIx (mVar 1) (mC (.int 2))) (mC (.int 1000))))))) (mRet (mC (.str "pipe"))) mNext)
def m_l_due_b2 : MS :=
    (mSeq (mIfS (mAnd (mTest (mOp2 (mEq true) (mOp2 mIx (mVar 4) (mC (.int 0))) (mC (.str "set")))) (mTest (mOp2 fGe (mOp2 mIx (mVar 4) (mC (.int 1))) (mCB mLen (mCons (mOp2 mIx (mVar 0) (mC (.int 0))) mNil))))) (mRet (mC (.str "order"))) mNext)
    (mSeq (mIfS (mAnd (mTest (mOp2 (mEq false) (mOp2 mIx (mVar 4) (mC (.int 0))) (mC (.str "put")))) (mTest (mOp2 (mEq true) (mOp2 mIx (mOp2 mIx (mOp2 mIx (mVar 0) (mC (.int 0))) (mOp2 mIx (mVar 4) (mC (.int 1)))) (mC (.int 0))) (mVar 2)))) (mRet (mC (.str "order"))) mNext)
    (mIfS (mAnd (mTest (mOp2 (mIn false) (mOp2 mIx (mVar 4) (mC (.int 0))) (mTup (mCons (mC (.str "take")) (mCons (mC (.str "add")) mNil))))) (mTest (mOp2 (mEq true) (mOp2 mIx (mOp2 mIx (mOp2 mIx (mVar 0) (mC (.int 0))) (mOp2 mIx (mVar 4) (mC (.int 1)))) (mC (.int 1))) (mVar 2)))) (mRet (mC (.str "order"))) mNext)))
def m_l_due_b3 : MS :=
    (mFor (mSeqS (mVar 3)) (gNameM 4) m_l_due_b2 [4])
def m_l_due : MS :=
    (mSeq (mIfS (mTest (mOp2 (mIs false) (mVar 0) (mC .none))) (mRet (mC (.str "note"))) mNext)
    (mSeq (mFor (mSeqS (mOp2 mIx (mVar 0) (mC (.int 0)))) (gNameM 1) m_l_due_b1 [1])
    (mSeq (mFor (mEnum (mCons (mOp2 mIx (mVar 0) (mC (.int 1))) mNil)) (gTupM 2 (gConsM (gNameM 2) (gConsM (gNameM 3) gNilM))) m_l_due_b3 [2, 3, 4])
    (mRet (mC (.str ""))))))
def l_due : List MV → Option (Res PyData) := bodyP 5 m_l_due

/-- _law_odd_line -/
def m_l_odd_line : MS :=
    (mSeq (mAsg (gNameM 1) (mLst false (mCons (mC (.str "")) (mCons (mC (.str "worker")) (mCons (mC (.str "pipe 0 0 1")) (mCons (mC (.str "pipe 0 1 1001")) (mCons (mC (.str "pipe 0 0 0")) (mCons (mC (.str "pipe 0 0")) (mCons (mC (.str "pipe 0 0 1 1")) (mCons (mC (.str "pipe 0 00 1")) mNil))))))))))
    (mSeq (mAsg (gNameM 1) (mOp2 (mAdd false) (mVar 1) (mLst false (mCons (mC (.str "pipe -1 0 1")) (mCons (mC (.str "set 5")) (mCons (mC (.str "set -5")) (mCons (mC (.str "set -0")) (mCons (mC (.str "set 007")) (mCons (mC (.str "set +5")) (mCons (mC (.str "set")) (mCons (mC (.str "set 5 5")) (mCons (mC (.str "put 0")) mNil))))))))))))
    (mSeq (mAsg (gNameM 1) (mOp2 (mAdd false) (mVar 1) (mLst false (mCons (mC (.str "take 0")) (mCons (mC (.str "add  0")) (mCons (mC (.str " put 0")) (mCons (mC (.str "Put 0")) (mCons (mC (.str "put -1")) (mCons (mC (.str "worker ")) (mCons (mC (.str "sett 5")) (mCons (mC (.str "set -007")) (mCons (mC (.str "set -00")) (mCons (mC (.str "set -")) mNil)))))))))))))
    (mSeq (mAsg (gNameM 1) (mOp2 (mAdd false) (mVar 1) (mLst false (mCons (mC (.str "set --5")) (mCons (mC (.str "pipe 0 0 01")) (mCons (mC (.str "pipe  0 0 1")) mNil))))))
    (mRet (mOp2 mIx (mVar 1) (mOp2 fMod (mVar 0) (mC (.int 30)))))))))
def l_odd_line : List MV → Option (Res PyData) := bodyP 2 m_l_odd_line

/-- _law_lines_by -/
def m_l_lines_by_b1 : MS :=
    (mSeq (mAsg (gNameM 5) (mCallP 2 l_cell_at (mCons (mVar 0) (mCons (mOp2 (mAdd false) (mC (.int 2)) (mVar 4)) mNil))))
    (mSeq (mAsg (gNameM 6) (mOp2 (mAdd false) (mOp2 (mAdd false) (mCB mStrInt (mCons (mOp2 fMod (mVar 5) (mVar 1)) mNil)) (mC (.str " "))) (mCB mStrInt (mCons (mOp2 fMod (mOp2 fDiv (mVar 5) (mC (.int 3))) (mVar 1)) mNil))))
    (mDrop (mCellM fAppend (mVar 3) (mCons (mOp2 (mAdd false) (mOp2 (mAdd false) (mOp2 (mAdd false) (mC (.str "pipe ")) (mVar 6)) (mC (.str " "))) (mCB mStrInt (mCons (mOp2 (mAdd false) (mC (.int 1)) (mOp2 fMod (mOp2 fDiv (mVar 5) (mC (.int 9))) (mC (.int 1000)))) mNil))) mNil)))))
def m_l_lines_by_b2 : MS :=
    (mSeq (mAsg (gNameM 5) (mOp2 mIx (mVar 0) (mVar 7)))
    (mSeq (mAsg (gNameM 8) (mOp2 mIx (mLst false (mCons (mC (.str "set")) (mCons (mC (.str "put")) (mCons (mC (.str "take")) (mCons (mC (.str "add")) mNil))))) (mOp2 fMod (mVar 5) (mC (.int 4)))))
    (mSeq (mAsg (gNameM 9) (mIf (mTest (mOp2 (mEq false) (mOp2 fMod (mVar 5) (mC (.int 4))) (mC (.int 0)))) (mOp2 fMod (mOp2 fDiv (mVar 5) (mC (.int 4))) (mOp2 fPow (mC (.int 10)) (mC (.int 20)))) (mOp2 fMod (mOp2 fDiv (mVar 5) (mC (.int 4))) (mC (.int 5)))))
    (mDrop (mCellM fAppend (mVar 3) (mCons (mOp2 (mAdd false) (mOp2 (mAdd false) (mVar 8) (mC (.str " "))) (mCB mStrInt (mCons (mVar 9) mNil))) mNil))))))
def m_l_lines_by_b3 : MS :=
    (mSeq (mDrop (mCellM fAppend (mVar 3) (mCons (mC (.str "worker")) mNil)))
    (mFor (mRng3 (mCons (mOp2 (mAdd false) (mC (.int 6)) (mVar 4)) (mCons (mCB fMin2 (mCons (mCB mLen (mCons (mVar 0) mNil)) (mCons (mC (.int 60)) mNil))) (mCons (mOp2 (mAdd false) (mVar 1) (mC (.int 2))) mNil)))) (gNameM 7) m_l_lines_by_b2 [7, 8, 9]))
def m_l_lines_by : MS :=
    (mSeq (mAsg (gNameM 1) (mOp2 (mAdd false) (mC (.int 1)) (mOp2 fMod (mCallP 2 l_cell_at (mCons (mVar 0) (mCons (mC (.int 0)) mNil))) (mC (.int 3)))))
    (mSeq (mAsg (gNameM 2) (mOp2 fMod (mCallP 2 l_cell_at (mCons (mVar 0) (mCons (mC (.int 1)) mNil))) (mC (.int 4))))
    (mSeq (mAsg (gNameM 3) (mLst true mNil))
    (mSeq (mFor (mRng1 (mCons (mVar 2) mNil)) (gNameM 4) m_l_lines_by_b1 [6])
    (mSeq (mFor (mRng1 (mCons (mVar 1) mNil)) (gNameM 4) m_l_lines_by_b3 [7, 8, 9])
    (mRet (mVar 3)))))))
def l_lines_by : List MV → M MV := bodyI 10 m_l_lines_by

/-- _law_sign_by -/
def m_l_sign_by : MS :=
    (mSeq (mAsg (gNameM 1) (mC (.str " !\"#$&'()*+,-./0123456789:;<=>?@ABCDEFGHIJKLMNOPQRSTUVWXYZ[\\]^_`")))
    (mSeq (mAsg (gNameM 1) (mOp2 (mAdd false) (mVar 1) (mC (.str "abcdefghijklmnopqrstuvwxyz{|}~\n\t -0 -0"))))
    (mRet (mOp2 mIx (mVar 1) (mOp2 fMod (mVar 0) (mC (.int 102)))))))
def l_sign_by : List MV → Option (Res PyData) := bodyP 2 m_l_sign_by

/-- _law_text_by -/
def m_l_text_by : MS :=
    (mSeq (mAsg (gNameM 2) (mStrM fJoin (mC (.str "\n")) (mCons (mVar 1) mNil)))
    (mSeq (mAsg (gNameM 3) (mCallP 2 l_cell_at (mCons (mVar 0) (mCons (mC (.int 3)) mNil))))
    (mSeq (mIfS (mTest (mOp2 (mEq false) (mOp2 fMod (mVar 3) (mC (.int 6))) (mC (.int 4)))) (mSeq (mAsg (gNameM 4) (mOp2 fMod (mOp2 fDiv (mVar 3) (mC (.int 6))) (mOp2 (mAdd false) (mCB mLen (mCons (mVar 2) mNil)) (mC (.int 1)))))
    (mRet (mOp2 (mAdd false) (mOp2 (mAdd false) (mSl false (mVar 2) mNoPart (mPart (mVar 4))) (mCallP 1 l_sign_by (mCons (mOp2 (mAdd false) (mCallP 2 l_cell_at (mCons (mVar 0) (mCons (mC (.int 0)) mNil))) (mCallP 2 l_cell_at (mCons (mVar 0) (mCons (mC (.int 4)) mNil)))) mNil))) (mSl false (mVar 2) (mPart (mVar 4)) mNoPart)))) mNext)
    (mSeq (mIfS (mAnd (mTest (mOp2 (mEq false) (mOp2 fMod (mVar 3) (mC (.int 6))) (mC (.int 5)))) (mTest (mOp2 fGt (mCB mLen (mCons (mVar 2) mNil)) (mC (.int 0))))) (mSeq (mAsg (gNameM 4) (mOp2 fMod (mOp2 fDiv (mVar 3) (mC (.int 6))) (mCB mLen (mCons (mVar 2) mNil))))
    (mRet (mOp2 (mAdd false) (mSl false (mVar 2) mNoPart (mPart (mVar 4))) (mSl false (mVar 2) (mPart (mOp2 (mAdd false) (mVar 4) (mC (.int 1)))) mNoPart)))) mNext)
    (mRet (mVar 2))))))
def l_text_by : List MV → Option (Res PyData) := bodyP 5 m_l_text_by

/-- _law_refused_by_any -/
def m_l_refused_by_any : MS :=
    (mSeq (mTryAs 1 (mDrop (mCallP 1 read (mCons (mVar 0) mNil))) exF_NetError (mHeldRet 1 okAlone))
    (mRet (mC (.bool false))))
def l_refused_by_any : List MV → Option (Res PyData) := bodyP 2 m_l_refused_by_any

/-- law -/
def m_law : MS :=
    (mSeq (mAsg (gNameM 1) (mCallI 1 l_lines_by (mCons (mVar 0) mNil)))
    (mSeq (mAsg (gNameM 2) (mCallP 2 l_cell_at (mCons (mVar 0) (mCons (mC (.int 5)) mNil))))
    (mSeq (mAsg (gNameM 3) (mOp2 fMod (mVar 2) (mC (.int 4))))
    (mSeq (mIfS (mOr (mTest (mOp2 (mEq false) (mVar 3) (mC (.int 1)))) (mTest (mOp2 (mEq false) (mVar 3) (mC (.int 2))))) (mDrop (mCellM fInsert (mVar 1) (mCons (mOp2 fMod (mOp2 fDiv (mVar 2) (mC (.int 4))) (mOp2 (mAdd false) (mCB mLen (mCons (mVar 1) mNil)) (mC (.int 1)))) (mCons (mCallP 1 l_odd_line (mCons (mCallP 2 l_cell_at (mCons (mVar 0) (mCons (mC (.int 4)) mNil))) mNil)) mNil)))) mNext)
    (mSeq (mIfS (mTest (mOp2 (mEq false) (mVar 3) (mC (.int 3)))) (mDrop (mCellM fPopAt (mVar 1) (mCons (mOp2 fMod (mOp2 fDiv (mVar 2) (mC (.int 4))) (mCB mLen (mCons (mVar 1) mNil))) mNil))) mNext)
    (mSeq (mIfS (mTest (mOp2 (mEq false) (mOp2 fMod (mOp2 fDiv (mVar 2) (mC (.int 4))) (mC (.int 9))) (mC (.int 8)))) (mAsg (gNameM 1) (mComp true (mRng1 (mCons (mOp2 fMod (mOp2 fDiv (mVar 2) (mC (.int 36))) (mC (.int 3))) mNil)) (gNameM 4) mYes (mCallP 1 l_odd_line (mCons (mCallP 2 l_cell_at (mCons (mVar 0) (mCons (mVar 4) mNil))) mNil)) [4])) mNext)
    (mSeq (mAsg (gNameM 5) (mCallQ 2 l_text_by (mCons (mVar 0) (mCons (mVar 1) mNil))))
    (mSeq (mAsg (gNameM 6) (mCallP 1 l_net_of (mCons (mStrM fSplit (mVar 5) (mCons (mC (.str "\n")) mNil)) mNil)))
    (mSeq (mAsg (gNameM 7) (mCallP 1 l_due (mCons (mVar 6) mNil)))
    (mSeq (mAsg (gNameM 8) (mC (.str "")))
    (mSeq (mAsg (gNameM 9) (mC .none))
    (mSeq (mTry (mAsg (gNameM 9) (mCallP 1 read (mCons (mVar 5) mNil))) [(exF_BadNote, (mAsg (gNameM 8) (mC (.str "note")))), (exF_NoPipe, (mAsg (gNameM 8) (mC (.str "pipe")))), (exF_NoOrder, (mAsg (gNameM 8) (mC (.str "order"))))])
    (mSeq (mIfS (mTest (mOp2 (mEq true) (mVar 8) (mVar 7))) (mRet (mC (.bool false))) mNext)
    (mSeq (mIfS (mTest (mOp2 (mEq true) (mVar 7) (mC (.str "")))) (mRet (mCallP 1 l_refused_by_any (mCons (mVar 5) mNil))) mNext)
    (mRet (mAndV (mIsi .tuple (mVar 9)) (mOp2 (mEq false) (mVar 9) (mVar 6))))))))))))))))))
def law : List MV → Option (Res PyData) := bodyP 10 m_law

/-! ### the text -/
def topS (i : Nat) : Stmt := PySem.Challenge.pw_pipelinecut_k06_texts_read.main.body.getD i (.Pass ⟨0, 0, 0, 0⟩)
abbrev s12 : Stmt := topS 12
theorem sc12 : FnScope ["pipe", "workers", "maker", "taker", "room"] ["pipe", "workers"] (defScope s12) := ⟨rfl, rfl, rfl, by decide +kernel, rfl, by decide +kernel, by decide +kernel⟩
abbrev s13 : Stmt := topS 13
theorem sc13 : FnScope ["order", "pipes", "who", "word", "number", "maker", "taker", "_"] ["order", "pipes", "who"] (defScope s13) := ⟨rfl, rfl, rfl, by decide +kernel, rfl, by decide +kernel, by decide +kernel⟩
abbrev s11 : Stmt := topS 11
theorem sc11 : FnScope ["pipes", "rows", "row"] ["pipes", "rows"] (defScope s11) := ⟨rfl, rfl, rfl, by decide +kernel, rfl, by decide +kernel, by decide +kernel⟩
abbrev s10 : Stmt := topS 10
theorem sc10 : FnScope ["net", "pipes", "rows", "at", "pipe", "who", "row", "order"] ["net"] (defScope s10) := ⟨rfl, rfl, rfl, by decide +kernel, rfl, by decide +kernel, by decide +kernel⟩
abbrev s18 : Stmt := topS 18
theorem sc18 : FnScope ["part"] ["part"] (defScope s18) := ⟨rfl, rfl, rfl, by decide +kernel, rfl, by decide +kernel, by decide +kernel⟩
abbrev s17 : Stmt := topS 17
theorem sc17 : FnScope ["part"] ["part"] (defScope s17) := ⟨rfl, rfl, rfl, by decide +kernel, rfl, by decide +kernel, by decide +kernel⟩
abbrev s16 : Stmt := topS 16
theorem sc16 : FnScope ["word", "parts", "workers", "part"] ["word", "parts", "workers"] (defScope s16) := ⟨rfl, rfl, rfl, by decide +kernel, rfl, by decide +kernel, by decide +kernel⟩
abbrev s15 : Stmt := topS 15
theorem sc15 : FnScope ["text", "pipes", "rows", "at", "line", "word", "parts", "part", "numbers"] ["text"] (defScope s15) := ⟨rfl, rfl, rfl, by decide +kernel, rfl, by decide +kernel, by decide +kernel⟩
abbrev s21 : Stmt := topS 21
theorem sc21 : FnScope ["_law_script", "_law_k"] ["_law_script", "_law_k"] (defScope s21) := ⟨rfl, rfl, rfl, by decide +kernel, rfl, by decide +kernel, by decide +kernel⟩
abbrev s22 : Stmt := topS 22
theorem sc22 : FnScope ["_law_word", "_law_sign"] ["_law_word"] (defScope s22) := ⟨rfl, rfl, rfl, by decide +kernel, rfl, by decide +kernel, by decide +kernel⟩
abbrev s23 : Stmt := topS 23
theorem sc23 : FnScope ["_law_word", "_law_found"] ["_law_word"] (defScope s23) := ⟨rfl, rfl, rfl, by decide +kernel, rfl, by decide +kernel, by decide +kernel⟩
abbrev s24 : Stmt := topS 24
theorem sc24 : FnScope ["_law_lines", "_law_pipes", "_law_rows", "_law_line", "_law_words", "_law_word", "_law_numbers"] ["_law_lines"] (defScope s24) := ⟨rfl, rfl, rfl, by decide +kernel, rfl, by decide +kernel, by decide +kernel⟩
abbrev s25 : Stmt := topS 25
theorem sc25 : FnScope ["_law_net", "_law_pipe", "_law_who", "_law_row", "_law_order"] ["_law_net"] (defScope s25) := ⟨rfl, rfl, rfl, by decide +kernel, rfl, by decide +kernel, by decide +kernel⟩
abbrev s26 : Stmt := topS 26
theorem sc26 : FnScope ["_law_cell", "_law_some"] ["_law_cell"] (defScope s26) := ⟨rfl, rfl, rfl, by decide +kernel, rfl, by decide +kernel, by decide +kernel⟩
abbrev s27 : Stmt := topS 27
theorem sc27 : FnScope ["_law_script", "_law_many", "_law_amount", "_law_lines", "_law_k", "_law_cell", "_law_ends", "_law_at", "_law_word", "_law_number"] ["_law_script"] (defScope s27) := ⟨rfl, rfl, rfl, by decide +kernel, rfl, by decide +kernel, by decide +kernel⟩
abbrev s28 : Stmt := topS 28
theorem sc28 : FnScope ["_law_cell", "_law_some"] ["_law_cell"] (defScope s28) := ⟨rfl, rfl, rfl, by decide +kernel, rfl, by decide +kernel, by decide +kernel⟩
abbrev s29 : Stmt := topS 29
theorem sc29 : FnScope ["_law_script", "_law_lines", "_law_text", "_law_cell", "_law_at"] ["_law_script", "_law_lines"] (defScope s29) := ⟨rfl, rfl, rfl, by decide +kernel, rfl, by decide +kernel, by decide +kernel⟩
abbrev s31 : Stmt := topS 31
theorem sc31 : FnScope ["_law_text", "_law_e"] ["_law_text"] (defScope s31) := ⟨rfl, rfl, rfl, by decide +kernel, rfl, by decide +kernel, by decide +kernel⟩
abbrev s32 : Stmt := topS 32
theorem sc32 : FnScope ["_law_script", "_law_lines", "_law_cell", "_law_way", "_law_k", "_law_text", "_law_net", "_law_due_here", "_law_kind", "_law_found"] ["_law_script"] (defScope s32) := ⟨rfl, rfl, rfl, by decide +kernel, rfl, by decide +kernel, by decide +kernel⟩
abbrev s30 : Stmt := topS 30
theorem sc30 : FnScope ["_law_e", "_law_truths", "_law_told"] ["_law_e"] (defScope s30) := ⟨rfl, rfl, rfl, by decide +kernel, rfl, by decide +kernel, by decide +kernel⟩
structure Txt (K : PySem.W.Frag) (mg : Str → Option Value) (a : Nat → Addr) (fd : Nat → FuncData) (cl : Nat → Value) : Prop where
  gc_NetError : mg "NetError" = some (.ref (a 1))
  gc_NoPipe : mg "NoPipe" = some (.ref (a 2))
  gc_NoOrder : mg "NoOrder" = some (.ref (a 3))
  gc_NoWorker : mg "NoWorker" = some (.ref (a 4))
  gc_IsThrough : mg "IsThrough" = some (.ref (a 5))
  gc_HasToWait : mg "HasToWait" = some (.ref (a 6))
  gc_BadNote : mg "BadNote" = some (.ref (a 7))
  kc_NoPipe : PySem.W.keepIn K (.ref (a 2)) = true
  xc_NoPipe : PySem.W.excIn K (a 2) [PySem.Value.type "ValueError", PySem.Value.type "Exception", PySem.Value.type "BaseException", PySem.Value.type "object"] "ValueError.__new__" = true
  bc_NoPipe : PySem.W.subIn K (.ref (a 2)) (.type "BaseException") = some true
  tc_NoPipe : PySem.W.typeIn K (.ref (a 2)) = some (.type "type")
  kc_NoOrder : PySem.W.keepIn K (.ref (a 3)) = true
  xc_NoOrder : PySem.W.excIn K (a 3) [PySem.Value.type "ValueError", PySem.Value.type "Exception", PySem.Value.type "BaseException", PySem.Value.type "object"] "ValueError.__new__" = true
  bc_NoOrder : PySem.W.subIn K (.ref (a 3)) (.type "BaseException") = some true
  tc_NoOrder : PySem.W.typeIn K (.ref (a 3)) = some (.type "type")
  kc_BadNote : PySem.W.keepIn K (.ref (a 7)) = true
  xc_BadNote : PySem.W.excIn K (a 7) [PySem.Value.type "ValueError", PySem.Value.type "Exception", PySem.Value.type "BaseException", PySem.Value.type "object"] "ValueError.__new__" = true
  bc_BadNote : PySem.W.subIn K (.ref (a 7)) (.type "BaseException") = some true
  tc_BadNote : PySem.W.typeIn K (.ref (a 7)) = some (.type "type")
  hm_NoPipe_BadNote : PySem.W.exmOne K (.ref (a 2)) (.ref (a 7)) = some false
  hm_NoPipe_NetError : PySem.W.exmOne K (.ref (a 2)) (.ref (a 1)) = some true
  hm_NoPipe_NoOrder : PySem.W.exmOne K (.ref (a 2)) (.ref (a 3)) = some false
  hm_NoPipe_NoPipe : PySem.W.exmOne K (.ref (a 2)) (.ref (a 2)) = some true
  ki_NoPipe_NoWorker : PySem.W.kitOne K (.ref (a 2)) (.ref (a 4)) = some false
  ki_NoPipe_IsThrough : PySem.W.kitOne K (.ref (a 2)) (.ref (a 5)) = some false
  ki_NoPipe_HasToWait : PySem.W.kitOne K (.ref (a 2)) (.ref (a 6)) = some false
  ki_NoPipe_NoPipe : PySem.W.kitOne K (.ref (a 2)) (.ref (a 2)) = some true
  ki_NoPipe_NoOrder : PySem.W.kitOne K (.ref (a 2)) (.ref (a 3)) = some false
  ki_NoPipe_BadNote : PySem.W.kitOne K (.ref (a 2)) (.ref (a 7)) = some false
  ki_NoPipe_NetError : PySem.W.kitOne K (.ref (a 2)) (.ref (a 1)) = some true
  ki_NoPipe_ValueError : PySem.W.kitOne K (.ref (a 2)) (.type "ValueError") = some true
  hm_NoOrder_BadNote : PySem.W.exmOne K (.ref (a 3)) (.ref (a 7)) = some false
  hm_NoOrder_NetError : PySem.W.exmOne K (.ref (a 3)) (.ref (a 1)) = some true
  hm_NoOrder_NoOrder : PySem.W.exmOne K (.ref (a 3)) (.ref (a 3)) = some true
  hm_NoOrder_NoPipe : PySem.W.exmOne K (.ref (a 3)) (.ref (a 2)) = some false
  ki_NoOrder_NoWorker : PySem.W.kitOne K (.ref (a 3)) (.ref (a 4)) = some false
  ki_NoOrder_IsThrough : PySem.W.kitOne K (.ref (a 3)) (.ref (a 5)) = some false
  ki_NoOrder_HasToWait : PySem.W.kitOne K (.ref (a 3)) (.ref (a 6)) = some false
  ki_NoOrder_NoPipe : PySem.W.kitOne K (.ref (a 3)) (.ref (a 2)) = some false
  ki_NoOrder_NoOrder : PySem.W.kitOne K (.ref (a 3)) (.ref (a 3)) = some true
  ki_NoOrder_BadNote : PySem.W.kitOne K (.ref (a 3)) (.ref (a 7)) = some false
  ki_NoOrder_NetError : PySem.W.kitOne K (.ref (a 3)) (.ref (a 1)) = some true
  ki_NoOrder_ValueError : PySem.W.kitOne K (.ref (a 3)) (.type "ValueError") = some true
  hm_BadNote_BadNote : PySem.W.exmOne K (.ref (a 7)) (.ref (a 7)) = some true
  hm_BadNote_NetError : PySem.W.exmOne K (.ref (a 7)) (.ref (a 1)) = some true
  hm_BadNote_NoOrder : PySem.W.exmOne K (.ref (a 7)) (.ref (a 3)) = some false
  hm_BadNote_NoPipe : PySem.W.exmOne K (.ref (a 7)) (.ref (a 2)) = some false
  ki_BadNote_NoWorker : PySem.W.kitOne K (.ref (a 7)) (.ref (a 4)) = some false
  ki_BadNote_IsThrough : PySem.W.kitOne K (.ref (a 7)) (.ref (a 5)) = some false
  ki_BadNote_HasToWait : PySem.W.kitOne K (.ref (a 7)) (.ref (a 6)) = some false
  ki_BadNote_NoPipe : PySem.W.kitOne K (.ref (a 7)) (.ref (a 2)) = some false
  ki_BadNote_NoOrder : PySem.W.kitOne K (.ref (a 7)) (.ref (a 3)) = some false
  ki_BadNote_BadNote : PySem.W.kitOne K (.ref (a 7)) (.ref (a 7)) = some true
  ki_BadNote_NetError : PySem.W.kitOne K (.ref (a 7)) (.ref (a 1)) = some true
  ki_BadNote_ValueError : PySem.W.kitOne K (.ref (a 7)) (.type "ValueError") = some true
  e_NoPipe : cl 1 = .ref (a 2)
  ec_NoPipe : ExcC K (a 2)
  e_NoOrder : cl 2 = .ref (a 3)
  ec_NoOrder : ExcC K (a 3)
  e_BadNote : cl 3 = .ref (a 7)
  ec_BadNote : ExcC K (a 7)
  F12 : Fun K "_is_pipe" "_is_pipe" s12 (a 12) (fd 12)
  b12 : Binds K (fd 12) ["pipe", "workers"] []
  g12 : mg "_is_pipe" = some (.ref (a 12))
  F13 : Fun K "_is_order" "_is_order" s13 (a 13) (fd 13)
  b13 : Binds K (fd 13) ["order", "pipes", "who"] []
  g13 : mg "_is_order" = some (.ref (a 13))
  F11 : Fun K "_copied" "_copied" s11 (a 11) (fd 11)
  b11 : Binds K (fd 11) ["pipes", "rows"] []
  g11 : mg "_copied" = some (.ref (a 11))
  F10 : Fun K "checked" "checked" s10 (a 10) (fd 10)
  b10 : Binds K (fd 10) ["net"] []
  g10 : mg "checked" = some (.ref (a 10))
  F18 : Fun K "_is_count" "_is_count" s18 (a 18) (fd 18)
  b18 : Binds K (fd 18) ["part"] []
  g18 : mg "_is_count" = some (.ref (a 18))
  F17 : Fun K "_is_number" "_is_number" s17 (a 17) (fd 17)
  b17 : Binds K (fd 17) ["part"] []
  g17 : mg "_is_number" = some (.ref (a 17))
  F16 : Fun K "_is_line" "_is_line" s16 (a 16) (fd 16)
  b16 : Binds K (fd 16) ["word", "parts", "workers"] []
  g16 : mg "_is_line" = some (.ref (a 16))
  F15 : Fun K "read" "read" s15 (a 15) (fd 15)
  b15 : Binds K (fd 15) ["text"] []
  g15 : mg "read" = some (.ref (a 15))
  F21 : Fun K "_law_cell_at" "_law_cell_at" s21 (a 21) (fd 21)
  b21 : Binds K (fd 21) ["_law_script", "_law_k"] []
  g21 : mg "_law_cell_at" = some (.ref (a 21))
  F22 : Fun K "_law_figures" "_law_figures" s22 (a 22) (fd 22)
  b22 : Binds K (fd 22) ["_law_word"] []
  g22 : mg "_law_figures" = some (.ref (a 22))
  F23 : Fun K "_law_signed" "_law_signed" s23 (a 23) (fd 23)
  b23 : Binds K (fd 23) ["_law_word"] []
  g23 : mg "_law_signed" = some (.ref (a 23))
  F24 : Fun K "_law_net_of" "_law_net_of" s24 (a 24) (fd 24)
  b24 : Binds K (fd 24) ["_law_lines"] []
  g24 : mg "_law_net_of" = some (.ref (a 24))
  F25 : Fun K "_law_due" "_law_due" s25 (a 25) (fd 25)
  b25 : Binds K (fd 25) ["_law_net"] []
  g25 : mg "_law_due" = some (.ref (a 25))
  F26 : Fun K "_law_odd_line" "_law_odd_line" s26 (a 26) (fd 26)
  b26 : Binds K (fd 26) ["_law_cell"] []
  g26 : mg "_law_odd_line" = some (.ref (a 26))
  F27 : Fun K "_law_lines_by" "_law_lines_by" s27 (a 27) (fd 27)
  b27 : Binds K (fd 27) ["_law_script"] []
  g27 : mg "_law_lines_by" = some (.ref (a 27))
  F28 : Fun K "_law_sign_by" "_law_sign_by" s28 (a 28) (fd 28)
  b28 : Binds K (fd 28) ["_law_cell"] []
  g28 : mg "_law_sign_by" = some (.ref (a 28))
  F29 : Fun K "_law_text_by" "_law_text_by" s29 (a 29) (fd 29)
  b29 : Binds K (fd 29) ["_law_script", "_law_lines"] []
  g29 : mg "_law_text_by" = some (.ref (a 29))
  F31 : Fun K "_law_refused_by_any" "_law_refused_by_any" s31 (a 31) (fd 31)
  b31 : Binds K (fd 31) ["_law_text"] []
  g31 : mg "_law_refused_by_any" = some (.ref (a 31))
  F32 : Fun K "law" "law" s32 (a 32) (fd 32)
  b32 : Binds K (fd 32) ["_law_script"] []
  g32 : mg "law" = some (.ref (a 32))
  F30 : Fun K "_law_alone" "_law_alone" s30 (a 30) (fd 30)
  b30 : Binds K (fd 30) ["_law_e"] []
  g30 : mg "_law_alone" = some (.ref (a 30))
  z_ValueError : mg "ValueError" = none
  z_all : mg "all" = none
  z_enumerate : mg "enumerate" = none
  z_int : mg "int" = none
  z_isinstance : mg "isinstance" = none
  z_len : mg "len" = none
  z_list : mg "list" = none
  z_min : mg "min" = none
  z_range : mg "range" = none
  z_str : mg "str" = none
  z_tuple : mg "tuple" = none
  c_MOST_ROOM : ∃ t, mg "MOST_ROOM" = some (.int 1000 t)
theorem body_alone {P : Program} {w : World} {K : PySem.W.Frag} {mg : Str → Option Value} {base : Heap} {a : Nat → Addr} {fd : Nat → FuncData} {cl : Nat → Value} (T : Txt K mg a fd cl) {p : Addr × Obj} {ec : Value} {ed : Option Addr} (hz : L2N.Zn ec ed p.2) (hf : ∃ vs, p.2.data = .fields vs) {CX : CXT} {A : Around} (ho : L2H.Hot1 A p) (cdv : Value) (outer : List Env) (s : Shared) (H : Hp) (E : XK) (Q : VK)
    (good : AloneOk K (.ref (a 4)) (.ref (a 5)) (.ref (a 6)) (.ref (a 2)) (.ref (a 3)) (.ref (a 7)) (.ref (a 1)) (.type "ValueError") ec ed) (hq : ∀ H', (∀ b o, H b = some o → H' b = some o) → Q (.bl true) H') :
    ∃ ts, PSs (L2H.cxH CX P w K mg base ["_law_e", "_law_truths", "_law_told"] "_law_alone" (defScope s30) (a 30) cdv A outer s H E p) (defBody s30) ts ∧ ts { nx := fun _ H' => Q .non H', rt := Q } (L2.start ["_law_e", "_law_truths", "_law_told"] [.ref p.1]) H := by
  obtain ⟨rfl, D, b1, b2, b3, b4, b5, b6, rfl, C, k1, k2, k3, k4, k5, k6, k7, k8, hc⟩ := good
  exact ⟨_, (pss_cons (ps_set (i := 1) sc30.nd rfl (by first | exact .inl rfl | exact .inr rfl) (pe_lst (pa_cons (pe_callB (isi_pinned C (List.mem_singleton.mpr rfl) hz.1 hz.2.1 hf) (by rfl) T.z_isinstance (by decide +kernel) (pa_cons (pv 0) (pa_cons (pe_glob (v := .ref (a 4)) (by rfl) T.gc_NoWorker rfl) pa_nil))) (pa_cons (pe_callB (isi_pinned C (List.mem_singleton.mpr rfl) hz.1 hz.2.1 hf) (by rfl) T.z_isinstance (by decide +kernel) (pa_cons (pv 0) (pa_cons (pe_glob (v := .ref (a 5)) (by rfl) T.gc_IsThrough rfl) pa_nil))) (pa_cons (pe_callB (isi_pinned C (List.mem_singleton.mpr rfl) hz.1 hz.2.1 hf) (by rfl) T.z_isinstance (by decide +kernel) (pa_cons (pv 0) (pa_cons (pe_glob (v := .ref (a 6)) (by rfl) T.gc_HasToWait rfl) pa_nil))) (pa_cons (pe_callB (isi_pinned C (List.mem_singleton.mpr rfl) hz.1 hz.2.1 hf) (by rfl) T.z_isinstance (by decide +kernel) (pa_cons (pv 0) (pa_cons (pe_glob (v := .ref (a 2)) (by rfl) T.gc_NoPipe rfl) pa_nil))) pa_nil)))))) (pss_cons (ps_set (i := 1) sc30.nd rfl (by first | exact .inl rfl | exact .inr rfl) (pe_op op_add4 (pv 1) (pe_lst (pa_cons (pe_callB (isi_pinned C (List.mem_singleton.mpr rfl) hz.1 hz.2.1 hf) (by rfl) T.z_isinstance (by decide +kernel) (pa_cons (pv 0) (pa_cons (pe_glob (v := .ref (a 3)) (by rfl) T.gc_NoOrder rfl) pa_nil))) (pa_cons (pe_callB (isi_pinned C (List.mem_singleton.mpr rfl) hz.1 hz.2.1 hf) (by rfl) T.z_isinstance (by decide +kernel) (pa_cons (pv 0) (pa_cons (pe_glob (v := .ref (a 7)) (by rfl) T.gc_BadNote rfl) pa_nil))) pa_nil))))) (pss_one (ps_ret (pe_and (pe_callB (isi_pinned C (List.mem_singleton.mpr rfl) hz.1 hz.2.1 hf) (by rfl) T.z_isinstance (by decide +kernel) (pa_cons (pv 0) (pa_cons (pe_glob (v := .ref (a 1)) (by rfl) T.gc_NetError rfl) pa_nil))) (pe_and (pe_callB (isi_pinned C (List.mem_singleton.mpr rfl) hz.1 hz.2.1 hf) (by rfl) T.z_isinstance (by decide +kernel) (pa_cons (pv 0) (pa_cons (pe_bltn (v := .ty "ValueError") (by rfl) T.z_ValueError (by decide +kernel) rfl) pa_nil))) (pe_one (pe_cmpR op_eq (pe_callB call_len3 (by rfl) T.z_len PySem.boot_len (pa_cons (by exact pe_ones (j := 2) (tt := fun σ H Q => tVar 2 σ H fun x H' => ∃ k, TruV K x H' k ∧ Q k H') (own := [("_law_told", 2)]) ⟨p, ho, List.mem_singleton.mpr rfl⟩ sc30.nd (pv 1) (blkOk_by (N := ["_law_e", "_law_truths", "_law_told"]) (sc := defScope s30) (by decide +kernel)) (fun _ _ _ _ _ => (pg_name (i := 2) sc30.nd rfl (by first | exact .inl rfl | exact .inr rfl))) (fun _ _ _ _ _ => pts_one (pt_truth (pv 2) (fun _ => rfl))) (fun _ _ _ _ _ => pe_int) (by intro b σ H Q h q; exact ⟨_, h, b, rfl, q⟩) (by intro σ H Q q; exact q) (by decide) (by show 2 < 3; decide)) pa_nil)) pe_int (nomark _))))))))),
    alone_wish rfl (fun _ r => r) (fun _ r => r) (fun _ r => r) (fun _ r => r) (fun _ r => r) (fun _ r => r) (fun _ r => r) (fun _ r => r) k1 k2 k3 k4 k5 k6 k7 k8 hc hq⟩
theorem alone_ok {K : PySem.W.Frag} {mg : Str → Option Value} {a : Nat → Addr} {fd : Nat → FuncData} {cl : Nat → Value} (T : Txt K mg a fd cl) : ∀ c, okAlone c = true → AloneOk K (.ref (a 4)) (.ref (a 5)) (.ref (a 6)) (.ref (a 2)) (.ref (a 3)) (.ref (a 7)) (.ref (a 1)) (.type "ValueError") (cl c) none := by
  intro c h
  match c, h with
  | 1, _ =>
    rw [T.e_NoPipe]
    exact ⟨rfl, a 2, false, false, false, true, false, false, rfl, T.ec_NoPipe, T.ki_NoPipe_NoWorker, T.ki_NoPipe_IsThrough, T.ki_NoPipe_HasToWait, T.ki_NoPipe_NoPipe, T.ki_NoPipe_NoOrder, T.ki_NoPipe_BadNote, T.ki_NoPipe_NetError, T.ki_NoPipe_ValueError, rfl⟩
  | 2, _ =>
    rw [T.e_NoOrder]
    exact ⟨rfl, a 3, false, false, false, false, true, false, rfl, T.ec_NoOrder, T.ki_NoOrder_NoWorker, T.ki_NoOrder_IsThrough, T.ki_NoOrder_HasToWait, T.ki_NoOrder_NoPipe, T.ki_NoOrder_NoOrder, T.ki_NoOrder_BadNote, T.ki_NoOrder_NetError, T.ki_NoOrder_ValueError, rfl⟩
  | 3, _ =>
    rw [T.e_BadNote]
    exact ⟨rfl, a 7, false, false, false, false, false, true, rfl, T.ec_BadNote, T.ki_BadNote_NoWorker, T.ki_BadNote_IsThrough, T.ki_BadNote_HasToWait, T.ki_BadNote_NoPipe, T.ki_BadNote_NoOrder, T.ki_BadNote_BadNote, T.ki_BadNote_NetError, T.ki_BadNote_ValueError, rfl⟩
  | 0, h => cases h
  | n + 4, h => cases h
theorem exF_BadNote_ok {K : PySem.W.Frag} {mg : Str → Option Value} {a : Nat → Addr} {fd : Nat → FuncData} {cl : Nat → Value} (T : Txt K mg a fd cl) : ∀ c b, exF_BadNote c = some b → PySem.W.exmOne K (cl c) (.ref (a 7)) = some b := by
  intro c b h
  match c, h with
  | 1, h =>
    cases h
    rw [T.e_NoPipe]
    exact T.hm_NoPipe_BadNote
  | 2, h =>
    cases h
    rw [T.e_NoOrder]
    exact T.hm_NoOrder_BadNote
  | 3, h =>
    cases h
    rw [T.e_BadNote]
    exact T.hm_BadNote_BadNote
  | 0, h => cases h
  | n + 4, h => cases h
theorem exF_NetError_ok {K : PySem.W.Frag} {mg : Str → Option Value} {a : Nat → Addr} {fd : Nat → FuncData} {cl : Nat → Value} (T : Txt K mg a fd cl) : ∀ c b, exF_NetError c = some b → PySem.W.exmOne K (cl c) (.ref (a 1)) = some b := by
  intro c b h
  match c, h with
  | 1, h =>
    cases h
    rw [T.e_NoPipe]
    exact T.hm_NoPipe_NetError
  | 2, h =>
    cases h
    rw [T.e_NoOrder]
    exact T.hm_NoOrder_NetError
  | 3, h =>
    cases h
    rw [T.e_BadNote]
    exact T.hm_BadNote_NetError
  | 0, h => cases h
  | n + 4, h => cases h
theorem exF_NoOrder_ok {K : PySem.W.Frag} {mg : Str → Option Value} {a : Nat → Addr} {fd : Nat → FuncData} {cl : Nat → Value} (T : Txt K mg a fd cl) : ∀ c b, exF_NoOrder c = some b → PySem.W.exmOne K (cl c) (.ref (a 3)) = some b := by
  intro c b h
  match c, h with
  | 1, h =>
    cases h
    rw [T.e_NoPipe]
    exact T.hm_NoPipe_NoOrder
  | 2, h =>
    cases h
    rw [T.e_NoOrder]
    exact T.hm_NoOrder_NoOrder
  | 3, h =>
    cases h
    rw [T.e_BadNote]
    exact T.hm_BadNote_NoOrder
  | 0, h => cases h
  | n + 4, h => cases h
theorem exF_NoPipe_ok {K : PySem.W.Frag} {mg : Str → Option Value} {a : Nat → Addr} {fd : Nat → FuncData} {cl : Nat → Value} (T : Txt K mg a fd cl) : ∀ c b, exF_NoPipe c = some b → PySem.W.exmOne K (cl c) (.ref (a 2)) = some b := by
  intro c b h
  match c, h with
  | 1, h =>
    cases h
    rw [T.e_NoPipe]
    exact T.hm_NoPipe_NoPipe
  | 2, h =>
    cases h
    rw [T.e_NoOrder]
    exact T.hm_NoOrder_NoPipe
  | 3, h =>
    cases h
    rw [T.e_BadNote]
    exact T.hm_BadNote_NoPipe
  | 0, h => cases h
  | n + 4, h => cases h
section
variable {P : Program} {w : World} {K : PySem.W.Frag} {mg : Str → Option Value} {base : Heap} {a : Nat → Addr} {fd : Nat → FuncData} {cl : Nat → Value}
theorem ok_is_pipe (T : Txt K mg a fd cl) : FnOk P w K mg base (L2N.CX P w) 1 (a 12) (fd 12) ["pipe", "workers"] (spP K cl 2 is_pipe) := by
  refine okN T.F12 sc12 (fun vs H Q E h => h.1) (fun cdv A outer s H vs Q E hr h => ?_)
  have hu := hr.units
  exact ⟨_, (pss_cons (ps_asg (pv 0) (pg_tup rfl (pgs_cons (pg_name (i := 2) sc12.nd rfl (by first | exact .inl rfl | exact .inr rfl)) (pgs_cons (pg_name (i := 3) sc12.nd rfl (by first | exact .inl rfl | exact .inr rfl)) (pgs_cons (pg_name (i := 4) sc12.nd rfl (by first | exact .inl rfl | exact .inr rfl)) pgs_nil))))) (pss_one (ps_ret (pe_and (pe_chain op_le op_lt pe_int (pv 2) (pv 1)) (pe_and (pe_chain op_le op_lt pe_int (pv 3) (pv 1)) (pe_one (pe_chain op_le op_le pe_int (pv 4) (pe_glob (v := .int 1000) rfl T.c_MOST_ROOM.choose_spec ⟨_, rfl⟩)))))))),
    body_p rfl
    (sm_seq (sm_asg (vs := [2, 3, 4]) pm_var (gm_tup (gm_cons (gm_name (by decide)) (gm_cons (gm_name (by decide)) (gm_cons (gm_name (by decide)) gm_nil))))) (sm_ret (pm_andV (pm_chain r2_le r2_lt pm_int pm_var pm_var) (pm_andV (pm_chain r2_le r2_lt pm_int pm_var pm_var) (pm_chain r2_le r2_le pm_int pm_var pm_int))))) h⟩
theorem ok_is_order (T : Txt K mg a fd cl) : FnOk P w K mg base (L2N.CX P w) 1 (a 13) (fd 13) ["order", "pipes", "who"] (spP K cl 3 is_order) := by
  refine okN T.F13 sc13 (fun vs H Q E h => h.1) (fun cdv A outer s H vs Q E hr h => ?_)
  have hu := hr.units
  exact ⟨_, (pss_cons (ps_asg (pv 0) (pg_tup rfl (pgs_cons (pg_name (i := 3) sc13.nd rfl (by first | exact .inl rfl | exact .inr rfl)) (pgs_cons (pg_name (i := 4) sc13.nd rfl (by first | exact .inl rfl | exact .inr rfl)) pgs_nil)))) (pss_cons (ps_if (pt_cmpR (op_eqP hu) (pv 3) pe_str (nomark _)) (pss_one (ps_ret pe_bl)) pss_nil) (pss_cons (ps_if (pt_cmpR (op_niP hu) (pv 3) (pe_tup (pa_cons pe_str (pa_cons pe_str (pa_cons pe_str pa_nil)))) (by rfl)) (pss_one (ps_ret pe_bl)) pss_nil) (pss_cons (ps_if (pt_not (pt_chain op_le op_lt pe_int (pv 4) (pe_callB call_len3 (by rfl) T.z_len PySem.boot_len (pa_cons (pv 1) pa_nil)))) (pss_one (ps_ret pe_bl)) pss_nil) (pss_cons (ps_asg (pe_ix ix_seq (pv 1) (pv 4) (fun _ _ => rfl)) (pg_tup rfl (pgs_cons (pg_name (i := 5) sc13.nd rfl (by first | exact .inl rfl | exact .inr rfl)) (pgs_cons (pg_name (i := 6) sc13.nd rfl (by first | exact .inl rfl | exact .inr rfl)) (pgs_cons (pg_name (i := 7) sc13.nd rfl (by first | exact .inl rfl | exact .inr rfl)) pgs_nil))))) (pss_cons (ps_if (pt_cmpR (op_eqP hu) (pv 3) pe_str (nomark _)) (pss_one (ps_ret (pe_cmpR (op_eqP hu) (pv 2) (pv 5) (nomark _)))) pss_nil) (pss_one (ps_ret (pe_cmpR (op_eqP hu) (pv 2) (pv 6) (nomark _)))))))))),
    body_p rfl
    (sm_seq (sm_asg (vs := [3, 4]) pm_var (gm_tup (gm_cons (gm_name (by decide)) (gm_cons (gm_name (by decide)) gm_nil)))) (sm_seq (sm_if (tm_test (pm_op (r2_eq (neg := false)) pm_var pm_str)) (sm_ret pm_bl) sm_next) (sm_seq (sm_if (tm_test (pm_op (r2_in (neg := true)) pm_var (pm_tup (am_cons pm_str (am_cons pm_str (am_cons pm_str am_nil)))))) (sm_ret pm_bl) sm_next) (sm_seq (sm_if (tm_not (tm_test (pm_chain r2_le r2_lt pm_int pm_var (pm_cb rc_len (am_cons pm_var am_nil))))) (sm_ret pm_bl) sm_next) (sm_seq (sm_asg (vs := [5, 6, 7]) (pm_op r2_ix pm_var pm_var) (gm_tup (gm_cons (gm_name (by decide)) (gm_cons (gm_name (by decide)) (gm_cons (gm_name (by decide)) gm_nil))))) (sm_seq (sm_if (tm_test (pm_op (r2_eq (neg := false)) pm_var pm_str)) (sm_ret (pm_op (r2_eq (neg := false)) pm_var pm_var)) sm_next) (sm_ret (pm_op (r2_eq (neg := false)) pm_var pm_var)))))))) h⟩
theorem ok_copied (T : Txt K mg a fd cl) : FnOk P w K mg base (L2N.CX P w) 1 (a 11) (fd 11) ["pipes", "rows"] (spI K cl 2 copied) := by
  refine okN T.F11 sc11 (fun vs H Q E h => h.1) (fun cdv A outer s H vs Q E hr h => ?_)
  have hu := hr.units
  exact ⟨_, (pss_one (ps_ret (pe_tup (pa_cons (pe_callTy call_list_of (by rfl) T.z_list (by decide +kernel) (pa_cons (pv 0) pa_nil)) (pa_cons (pe_lc (own := [("row", 2)]) rfl sc11.nd (pi_seq (pv 1)) (blkOk_by (N := ["pipes", "rows", "row"]) (sc := defScope s11) (by decide +kernel)) (fun _ _ _ _ _ => (pg_name (i := 2) sc11.nd rfl (by first | exact .inl rfl | exact .inr rfl))) (fun _ _ _ _ _ => pts_nil) (fun _ _ _ _ _ => (pe_callTy call_list_of (by rfl) T.z_list (by decide +kernel) (pa_cons (pv 2) pa_nil)))) pa_nil))))),
    body_i rfl
    (sm_ret (pm_tup (am_cons (pm_cb (rc_list (b := true)) (am_cons pm_var am_nil)) (am_cons (pm_comp (b := true) (im_seq pm_var) (gm_name (by decide)) tm_yes (pm_cb (rc_list (b := true)) (am_cons pm_var am_nil))) am_nil)))) h⟩
theorem ok_checked (T : Txt K mg a fd cl) : FnOk P w K mg base (L2N.CX P w) 2 (a 10) (fd 10) ["net"] (spI K cl 1 checked) := by
  have G12 := ok_is_pipe (P := P) (w := w) (base := base) (cl := cl) T
  have G13 := ok_is_order (P := P) (w := w) (base := base) (cl := cl) T
  have G11 := ok_copied (P := P) (w := w) (base := base) (cl := cl) T
  refine okN T.F10 sc10 (fun vs H Q E h => h.1) (fun cdv A outer s H vs Q E hr h => ?_)
  have hu := hr.units
  have hr12 : Room 1 _ := hr.mono (by decide)
  have hr13 : Room 1 _ := hr.mono (by decide)
  have hr11 : Room 1 _ := hr.mono (by decide)
  exact ⟨_, (pss_cons (ps_asg (pv 0) (pg_tup rfl (pgs_cons (pg_name (i := 1) sc10.nd rfl (by first | exact .inl rfl | exact .inr rfl)) (pgs_cons (pg_name (i := 2) sc10.nd rfl (by first | exact .inl rfl | exact .inr rfl)) pgs_nil)))) (pss_cons (ps_for (passes_of rfl) rfl (pi_enum (by rfl) T.z_enumerate (pa_cons (pv 1) pa_nil)) (pg_tup rfl (pgs_cons (pg_name (i := 3) sc10.nd rfl (by first | exact .inl rfl | exact .inr rfl)) (pgs_cons (pg_name (i := 4) sc10.nd rfl (by first | exact .inl rfl | exact .inr rfl)) pgs_nil))) (pss_one (ps_if (pt_not (pt_truth (pe_callS G12 hr12 rfl T.g12 T.F12.kp T.b12 (fun σ => L2N.passAt (L2N.takes_of rfl rfl rfl rfl) σ) (pa_cons (pv 4) (pa_cons (pe_callB call_len3 (by rfl) T.z_len PySem.boot_len (pa_cons (pv 2) pa_nil)) pa_nil))) (fun _ => rfl))) (pss_one (L2N.ps_raise rfl (L2N.takes_of rfl rfl rfl rfl) (pmk_one PySem.F.excBase_ValueError T.xc_NoPipe T.gc_NoPipe T.kc_NoPipe (raises_own T.bc_NoPipe T.tc_NoPipe) rfl (pe_joined (.cons pe_str (.cons (pe_fmt (pv 3)) (.cons pe_str .nil))))))) pss_nil))) (pss_cons (ps_for (passes_of rfl) rfl (pi_enum (by rfl) T.z_enumerate (pa_cons (pv 2) pa_nil)) (pg_tup rfl (pgs_cons (pg_name (i := 5) sc10.nd rfl (by first | exact .inl rfl | exact .inr rfl)) (pgs_cons (pg_name (i := 6) sc10.nd rfl (by first | exact .inl rfl | exact .inr rfl)) pgs_nil))) (pss_one (ps_for (passes_of rfl) rfl (pi_enum (by rfl) T.z_enumerate (pa_cons (pv 6) pa_nil)) (pg_tup rfl (pgs_cons (pg_name (i := 3) sc10.nd rfl (by first | exact .inl rfl | exact .inr rfl)) (pgs_cons (pg_name (i := 7) sc10.nd rfl (by first | exact .inl rfl | exact .inr rfl)) pgs_nil))) (pss_one (ps_if (pt_not (pt_truth (pe_callS G13 hr13 rfl T.g13 T.F13.kp T.b13 (fun σ => L2N.passAt (L2N.takes_of rfl rfl rfl rfl) σ) (pa_cons (pv 7) (pa_cons (pv 1) (pa_cons (pv 5) pa_nil)))) (fun _ => rfl))) (pss_one (L2N.ps_raise rfl (L2N.takes_of rfl rfl rfl rfl) (pmk_one PySem.F.excBase_ValueError T.xc_NoOrder T.gc_NoOrder T.kc_NoOrder (raises_own T.bc_NoOrder T.tc_NoOrder) rfl (pe_joined (.cons pe_str (.cons (pe_fmt (pv 5)) (.cons pe_str (.cons (pe_fmt (pv 3)) .nil)))))))) pss_nil))))) (pss_one (ps_ret (pe_callS G11 hr11 rfl T.g11 T.F11.kp T.b11 (fun σ => L2N.passAt (L2N.takes_of rfl rfl rfl rfl) σ) (pa_cons (pv 1) (pa_cons (pv 2) pa_nil)))))))),
    body_i rfl
    (sm_seq (sm_asg (vs := [1, 2]) pm_var (gm_tup (gm_cons (gm_name (by decide)) (gm_cons (gm_name (by decide)) gm_nil)))) (sm_seq (sm_for (vs := [3, 4]) (im_enum (am_cons pm_var am_nil)) (gm_tup (gm_cons (gm_name (by decide)) (gm_cons (gm_name (by decide)) gm_nil))) (sm_if (tm_not (tm_tru (pm_callP (am_cons pm_var (am_cons (pm_cb rc_len (am_cons pm_var am_nil)) am_nil))))) (sm_raise1 T.e_NoPipe (pm_join (.cons pm_str (.cons (pm_fmt pm_var) (.cons pm_str .nil))))) sm_next)) (sm_seq (sm_for (vs := [5, 6]) (im_enum (am_cons pm_var am_nil)) (gm_tup (gm_cons (gm_name (by decide)) (gm_cons (gm_name (by decide)) gm_nil))) (sm_for (vs := [3, 7]) (im_enum (am_cons pm_var am_nil)) (gm_tup (gm_cons (gm_name (by decide)) (gm_cons (gm_name (by decide)) gm_nil))) (sm_if (tm_not (tm_tru (pm_callP (am_cons pm_var (am_cons pm_var (am_cons pm_var am_nil)))))) (sm_raise1 T.e_NoOrder (pm_join (.cons pm_str (.cons (pm_fmt pm_var) (.cons pm_str (.cons (pm_fmt pm_var) .nil)))))) sm_next))) (sm_ret (pm_callI (am_cons pm_var (am_cons pm_var am_nil))))))) h⟩
theorem ok_is_count (T : Txt K mg a fd cl) : FnOk P w K mg base (L2N.CX P w) 1 (a 18) (fd 18) ["part"] (spP K cl 1 is_count) := by
  refine okN T.F18 sc18 (fun vs H Q E h => h.1) (fun cdv A outer s H vs Q E hr h => ?_)
  have hu := hr.units
  exact ⟨_, (pss_cons (ps_if (PW.pt (pw_or (pt_not (pt_truth (pe_bm0 PySem.F.plainAttrs_str PySem.F.slot_str_isascii PySem.F.type_str_isascii mt_isascii (pv 0)) (fun _ => rfl))) (pw_or1 (pt_not (pt_truth (pe_bm0 PySem.F.plainAttrs_str PySem.F.slot_str_isdigit PySem.F.type_str_isdigit mt_isdigit (pv 0)) (fun _ => rfl)))))) (pss_one (ps_ret pe_bl)) pss_nil) (pss_one (ps_ret (pe_or (pe_cmpR (op_eqP hu) (pv 0) pe_str (nomark _)) (pe_one (pe_not (pe_bm PySem.F.plainAttrs_str PySem.F.slot_str_startswith PySem.F.type_str_startswith mt_startswith (pv 0) (pa_cons pe_str pa_nil)))))))),
    body_p rfl
    (sm_seq (sm_if (tm_or (tm_not (tm_tru (pm_str0 (g := Txt.isascii) (fun a H Q q => ⟨a, rfl, rfl, trivial, q⟩) pm_var))) (tm_not (tm_tru (pm_str0 (g := Txt.isdigit) (fun a H Q q => ⟨a, rfl, rfl, trivial, q⟩) pm_var)))) (sm_ret pm_bl) sm_next) (sm_ret (pm_orV (pm_op (r2_eq (neg := false)) pm_var pm_str) (pm_notV (pm_strM (sr_str1 (g := Txt.startswith) (fun a b H Q q => ⟨a, b, rfl, rfl, q⟩)) pm_var (am_cons pm_str am_nil)))))) h⟩
theorem ok_is_number (T : Txt K mg a fd cl) : FnOk P w K mg base (L2N.CX P w) 2 (a 17) (fd 17) ["part"] (spP K cl 1 is_number) := by
  have G18 := ok_is_count (P := P) (w := w) (base := base) (cl := cl) T
  refine okN T.F17 sc17 (fun vs H Q E h => h.1) (fun cdv A outer s H vs Q E hr h => ?_)
  have hu := hr.units
  have hr18 : Room 1 _ := hr.mono (by decide)
  exact ⟨_, (pss_cons (ps_if (pt_truth (pe_bm PySem.F.plainAttrs_str PySem.F.slot_str_startswith PySem.F.type_str_startswith mt_startswith (pv 0) (pa_cons pe_str pa_nil)) (fun _ => rfl)) (pss_one (ps_ret (pe_and (pe_cmpR (op_neP hu) (pv 0) pe_str (nomark _)) (pe_one (pe_callS G18 hr18 rfl T.g18 T.F18.kp T.b18 (fun σ => L2N.passAt (L2N.takes_of rfl rfl rfl rfl) σ) (pa_cons (pe_slice sl_all (pv 0) (po_some pe_int) po_none) pa_nil)))))) pss_nil) (pss_one (ps_ret (pe_callS G18 hr18 rfl T.g18 T.F18.kp T.b18 (fun σ => L2N.passAt (L2N.takes_of rfl rfl rfl rfl) σ) (pa_cons (pv 0) pa_nil))))),
    body_p rfl
    (sm_seq (sm_if (tm_tru (pm_strM (sr_str1 (g := Txt.startswith) (fun a b H Q q => ⟨a, b, rfl, rfl, q⟩)) pm_var (am_cons pm_str am_nil))) (sm_ret (pm_andV (pm_op (r2_eq (neg := true)) pm_var pm_str) (pm_callP (am_cons (pm_sl (b := false) pm_var (om_some pm_int) om_none) am_nil)))) sm_next) (sm_ret (pm_callP (am_cons pm_var am_nil)))) h⟩
theorem ok_is_line (T : Txt K mg a fd cl) : FnOk P w K mg base (L2N.CX P w) 3 (a 16) (fd 16) ["word", "parts", "workers"] (spP K cl 3 is_line) := by
  have G18 := ok_is_count (P := P) (w := w) (base := base) (cl := cl) T
  have G17 := ok_is_number (P := P) (w := w) (base := base) (cl := cl) T
  refine okN T.F16 sc16 (fun vs H Q E h => h.1) (fun cdv A outer s H vs Q E hr h => ?_)
  have hu := hr.units
  have hr18 : Room 1 _ := hr.mono (by decide)
  have hr17 : Room 2 _ := hr.mono (by decide)
  exact ⟨_, (pss_cons (ps_if (pt_cmpR (op_eqP hu) (pv 0) pe_str (nomark _)) (pss_one (ps_ret (pe_notT (pv 1)))) pss_nil) (pss_cons (ps_if (pt_cmpR (op_eqP hu) (pv 0) pe_str (nomark _)) (pss_one (ps_ret (pe_and (pe_cmpR (op_eqP hu) (pv 2) pe_int (nomark _)) (pe_and (pe_cmpR (op_eqP hu) (pe_callB call_len3 (by rfl) T.z_len PySem.boot_len (pa_cons (pv 1) pa_nil)) pe_int (nomark _)) (pe_one (pe_callB (cr_all rfl) (by rfl) T.z_all (by decide +kernel) (pa_cons (pe_lc (own := [("part", 3)]) rfl sc16.nd (pi_seq (pv 1)) (blkOk_by (N := ["word", "parts", "workers", "part"]) (sc := defScope s16) (by decide +kernel)) (fun _ _ _ _ _ => (pg_name (i := 3) sc16.nd rfl (by first | exact .inl rfl | exact .inr rfl))) (fun _ _ _ _ _ => pts_nil) (fun _ _ _ _ _ => (pe_callS G18 hr18 rfl T.g18 T.F18.kp T.b18 (fun σ => L2N.passAt takes0N σ) (pa_cons (pv 3) pa_nil)))) pa_nil))))))) pss_nil) (pss_cons (ps_if (PW.pt (pw_or (pt_cmpR (op_eqP hu) (pv 2) pe_int (nomark _)) (pw_or1 (pt_cmpR (op_neP hu) (pe_callB call_len3 (by rfl) T.z_len PySem.boot_len (pa_cons (pv 1) pa_nil)) pe_int (nomark _))))) (pss_one (ps_ret pe_bl)) pss_nil) (pss_cons (ps_if (pt_cmpR (op_eqP hu) (pv 0) pe_str (nomark _)) (pss_one (ps_ret (pe_callS G17 hr17 rfl T.g17 T.F17.kp T.b17 (fun σ => L2N.passAt (L2N.takes_of rfl rfl rfl rfl) σ) (pa_cons (pe_ix ix_seq (pv 1) pe_int (fun _ _ => rfl)) pa_nil)))) pss_nil) (pss_one (ps_ret (pe_and (pe_cmpR (op_inP hu) (pv 0) (pe_tup (pa_cons pe_str (pa_cons pe_str (pa_cons pe_str pa_nil)))) (by rfl)) (pe_one (pe_callS G18 hr18 rfl T.g18 T.F18.kp T.b18 (fun σ => L2N.passAt (L2N.takes_of rfl rfl rfl rfl) σ) (pa_cons (pe_ix ix_seq (pv 1) pe_int (fun _ _ => rfl)) pa_nil)))))))))),
    body_p rfl
    (sm_seq (sm_if (tm_test (pm_op (r2_eq (neg := false)) pm_var pm_str)) (sm_ret (pm_notT pm_var)) sm_next) (sm_seq (sm_if (tm_test (pm_op (r2_eq (neg := false)) pm_var pm_str)) (sm_ret (pm_andV (pm_op (r2_eq (neg := false)) pm_var pm_int) (pm_andV (pm_op (r2_eq (neg := false)) (pm_cb rc_len (am_cons pm_var am_nil)) pm_int) (pm_cb rc_all (am_cons (pm_comp (b := false) (im_seq pm_var) (gm_name (by decide)) tm_yes (pm_callP (am_cons pm_var am_nil))) am_nil))))) sm_next) (sm_seq (sm_if (tm_or (tm_test (pm_op (r2_eq (neg := false)) pm_var pm_int)) (tm_test (pm_op (r2_eq (neg := true)) (pm_cb rc_len (am_cons pm_var am_nil)) pm_int))) (sm_ret pm_bl) sm_next) (sm_seq (sm_if (tm_test (pm_op (r2_eq (neg := false)) pm_var pm_str)) (sm_ret (pm_callP (am_cons (pm_op r2_ix pm_var pm_int) am_nil))) sm_next) (sm_ret (pm_andV (pm_op (r2_in (neg := false)) pm_var (pm_tup (am_cons pm_str (am_cons pm_str (am_cons pm_str am_nil))))) (pm_callP (am_cons (pm_op r2_ix pm_var pm_int) am_nil)))))))) h⟩
theorem ok_read (T : Txt K mg a fd cl) : FnOk P w K mg base (L2N.CX P w) 4 (a 15) (fd 15) ["text"] (spP K cl 1 read) := by
  have G16 := ok_is_line (P := P) (w := w) (base := base) (cl := cl) T
  have G10 := ok_checked (P := P) (w := w) (base := base) (cl := cl) T
  refine okN T.F15 sc15 (fun vs H Q E h => h.1) (fun cdv A outer s H vs Q E hr h => ?_)
  have hu := hr.units
  have hr16 : Room 3 _ := hr.mono (by decide)
  have hr10 : Room 2 _ := hr.mono (by decide)
  exact ⟨_, (pss_cons (ps_set (i := 1) sc15.nd rfl (by first | exact .inl rfl | exact .inr rfl) (pe_lst pa_nil)) (pss_cons (ps_set (i := 2) sc15.nd rfl (by first | exact .inl rfl | exact .inr rfl) (pe_lst pa_nil)) (pss_cons (ps_for (passes_of rfl) rfl (pi_enum1 (by rfl) T.z_enumerate (pa_cons (pe_bm PySem.F.plainAttrs_str PySem.F.slot_str_split PySem.F.type_str_split mt_split (pv 0) (pa_cons pe_str pa_nil)) pa_nil)) (pg_tup rfl (pgs_cons (pg_name (i := 3) sc15.nd rfl (by first | exact .inl rfl | exact .inr rfl)) (pgs_cons (pg_name (i := 4) sc15.nd rfl (by first | exact .inl rfl | exact .inr rfl)) pgs_nil))) (pss_cons (ps_asg (pe_bm PySem.F.plainAttrs_str PySem.F.slot_str_split PySem.F.type_str_split mt_split (pv 4) (pa_cons pe_str pa_nil)) (pg_star rfl (pgs_cons (pg_name (i := 5) sc15.nd rfl (by first | exact .inl rfl | exact .inr rfl)) (pgs_cons (pg_name (i := 6) sc15.nd rfl (by first | exact .inl rfl | exact .inr rfl)) pgs_nil)))) (pss_cons (ps_if (pt_not (pt_truth (pe_callS G16 hr16 rfl T.g16 T.F16.kp T.b16 (fun σ => L2N.passAt (L2N.takes_of rfl rfl rfl rfl) σ) (pa_cons (pv 5) (pa_cons (pv 6) (pa_cons (pe_callB call_len3 (by rfl) T.z_len PySem.boot_len (pa_cons (pv 2) pa_nil)) pa_nil)))) (fun _ => rfl))) (pss_one (L2N.ps_raise rfl (L2N.takes_of rfl rfl rfl rfl) (pmk_one PySem.F.excBase_ValueError T.xc_BadNote T.gc_BadNote T.kc_BadNote (raises_own T.bc_BadNote T.tc_BadNote) rfl (pe_joined (.cons pe_str (.cons (pe_fmt (pv 3)) (.cons pe_str .nil))))))) pss_nil) (pss_cons (ps_setLc (i := 8) (own := [("part", 7)]) rfl sc15.nd rfl rfl (sw_true rfl rfl rfl (by decide +kernel)) (pi_seq (pv 6)) (blkOk_by (N := ["text", "pipes", "rows", "at", "line", "word", "parts", "part", "numbers"]) (sc := defScope s15) (by decide +kernel)) (fun _ _ _ _ _ => (pg_name (i := 7) sc15.nd rfl (by first | exact .inl rfl | exact .inr rfl))) (fun _ _ _ _ _ => pts_nil) (fun _ _ _ _ _ => (pe_callTy call_int_str (by rfl) T.z_int (by decide +kernel) (pa_cons (pv 7) pa_nil)))) (pss_one (ps_if (pt_cmpR (op_eqP hu) (pv 5) pe_str (nomark _)) (pss_one (ps_expr (pe_bm PySem.F.plainAttrs_list PySem.F.slot_list_append PySem.F.type_list_append mt_append (pv 1) (pa_cons (pe_callTy call_tuple_of (by rfl) T.z_tuple (by decide +kernel) (pa_cons (pv 8) pa_nil)) pa_nil)))) (pss_one (ps_if (pt_cmpR (op_eqP hu) (pv 5) pe_str (nomark _)) (pss_one (ps_expr (pe_bm PySem.F.plainAttrs_list PySem.F.slot_list_append PySem.F.type_list_append mt_append (pv 2) (pa_cons (pe_lst pa_nil) pa_nil)))) (pss_one (ps_expr (pe_bm PySem.F.plainAttrs_list PySem.F.slot_list_append PySem.F.type_list_append mt_append (pe_ix ix_seq (pv 2) (pe_un un_neg pe_int) (fun _ _ => rfl)) (pa_cons (pe_tup (pa_cons (pv 5) (pa_cons (pe_ix ix_seq (pv 8) pe_int (fun _ _ => rfl)) pa_nil))) pa_nil)))))))))))) (pss_cons (ps_if (pt_not (pt_truth (pv 2) (fun _ => rfl))) (pss_one (L2N.ps_raise rfl (L2N.takes_of rfl rfl rfl rfl) (pmk_one PySem.F.excBase_ValueError T.xc_BadNote T.gc_BadNote T.kc_BadNote (raises_own T.bc_BadNote T.tc_BadNote) rfl pe_str))) pss_nil) (pss_one (ps_ret (pe_callS G10 hr10 rfl T.g10 T.F10.kp T.b10 (fun σ => L2N.passAt (L2N.takes_of rfl rfl rfl rfl) σ) (pa_cons (pe_tup (pa_cons (pv 1) (pa_cons (pv 2) pa_nil))) pa_nil)))))))),
    body_p rfl
    (sm_seq (sm_set (pm_lst (b := true) am_nil)) (sm_seq (sm_set (pm_lst (b := true) am_nil)) (sm_seq (sm_for (vs := [3, 4]) (im_enum1 (am_cons (pm_strM sr_split pm_var (am_cons pm_str am_nil)) am_nil)) (gm_tup (gm_cons (gm_name (by decide)) (gm_cons (gm_name (by decide)) gm_nil))) (sm_seq (sm_star (i := 5) (j := 6) (pm_strM sr_split pm_var (am_cons pm_str am_nil))) (sm_seq (sm_if (tm_not (tm_tru (pm_callP (am_cons pm_var (am_cons pm_var (am_cons (pm_cb rc_len (am_cons pm_var am_nil)) am_nil)))))) (sm_raise1 T.e_BadNote (pm_join (.cons pm_str (.cons (pm_fmt pm_var) (.cons pm_str .nil))))) sm_next) (sm_seq (sm_set (pm_comp (b := false) (im_seq pm_var) (gm_name (by decide)) tm_yes (pm_cb rc_intStr (am_cons pm_var am_nil)))) (sm_if (tm_test (pm_op (r2_eq (neg := false)) pm_var pm_str)) (sm_drop (pm_cellM cm_append pm_var (am_cons (pm_cb rc_tuple (am_cons pm_var am_nil)) am_nil))) (sm_if (tm_test (pm_op (r2_eq (neg := false)) pm_var pm_str)) (sm_drop (pm_cellM cm_append pm_var (am_cons (pm_lst (b := true) am_nil) am_nil))) (sm_drop (pm_cellM cm_append (pm_op r2_ix pm_var (pm_un r1_neg pm_int)) (am_cons (pm_tup (am_cons pm_var (am_cons (pm_op r2_ix pm_var pm_int) am_nil))) am_nil))))))))) (sm_seq (sm_if (tm_not (tm_tru pm_var)) (sm_raise1 T.e_BadNote pm_str) sm_next) (sm_ret (pm_callF (am_cons (pm_tup (am_cons pm_var (am_cons pm_var am_nil))) am_nil))))))) h⟩
theorem ok_l_cell_at (T : Txt K mg a fd cl) : FnOk P w K mg base (L2N.CX P w) 1 (a 21) (fd 21) ["_law_script", "_law_k"] (spP K cl 2 l_cell_at) := by
  refine okN T.F21 sc21 (fun vs H Q E h => h.1) (fun cdv A outer s H vs Q E hr h => ?_)
  have hu := hr.units
  exact ⟨_, (pss_cons (ps_if (pt_cmpR op_lt (pv 1) (pe_callB call_len3 (by rfl) T.z_len PySem.boot_len (pa_cons (pv 0) pa_nil)) (nomark _)) (pss_one (ps_ret (pe_ix ix_seq (pv 0) (pv 1) (fun _ _ => rfl)))) pss_nil) (pss_one (ps_ret pe_int))),
    body_p rfl
    (sm_seq (sm_if (tm_test (pm_op r2_lt pm_var (pm_cb rc_len (am_cons pm_var am_nil)))) (sm_ret (pm_op r2_ix pm_var pm_var)) sm_next) (sm_ret pm_int)) h⟩
theorem ok_l_figures (T : Txt K mg a fd cl) : FnOk P w K mg base (L2N.CX P w) 1 (a 22) (fd 22) ["_law_word"] (spP K cl 1 l_figures) := by
  refine okN T.F22 sc22 (fun vs H Q E h => h.1) (fun cdv A outer s H vs Q E hr h => ?_)
  have hu := hr.units
  exact ⟨_, (pss_cons (ps_if (PW.pt (pw_or (pt_cmpR (op_eqP hu) (pv 0) pe_str (nomark _)) (pw_or1 (PW.pt (pw_and (pt_cmpR op_gt (pe_callB call_len3 (by rfl) T.z_len PySem.boot_len (pa_cons (pv 0) pa_nil)) pe_int (nomark _)) (pw_and1 (pt_cmpR (op_eqP hu) (pe_ix ix_seq (pv 0) pe_int (fun _ _ => rfl)) pe_str (nomark _)))))))) (pss_one (ps_ret pe_non)) pss_nil) (pss_cons (ps_for (passes_of rfl) rfl (pi_str (pv 0)) (pg_name (i := 1) sc22.nd rfl (by first | exact .inl rfl | exact .inr rfl)) (pss_one (ps_if (pt_cmpR op_notIn_sign (pv 1) pe_str (by rfl)) (pss_one (ps_ret pe_non)) pss_nil))) (pss_one (ps_ret (pe_callTy call_int_str (by rfl) T.z_int (by decide +kernel) (pa_cons (pv 0) pa_nil)))))),
    body_p rfl
    (sm_seq (sm_if (tm_or (tm_test (pm_op (r2_eq (neg := false)) pm_var pm_str)) (tm_and (tm_test (pm_op r2_gt (pm_cb rc_len (am_cons pm_var am_nil)) pm_int)) (tm_test (pm_op (r2_eq (neg := false)) (pm_op r2_ix pm_var pm_int) pm_str)))) (sm_ret pm_non) sm_next) (sm_seq (sm_for (vs := [1]) (im_str pm_var) (gm_name (by decide)) (sm_if (tm_test (pm_op r2_notSign pm_var pm_str)) (sm_ret pm_non) sm_next)) (sm_ret (pm_cb rc_intStr (am_cons pm_var am_nil))))) h⟩
theorem ok_l_signed (T : Txt K mg a fd cl) : FnOk P w K mg base (L2N.CX P w) 2 (a 23) (fd 23) ["_law_word"] (spP K cl 1 l_signed) := by
  have G22 := ok_l_figures (P := P) (w := w) (base := base) (cl := cl) T
  refine okN T.F23 sc23 (fun vs H Q E h => h.1) (fun cdv A outer s H vs Q E hr h => ?_)
  have hu := hr.units
  have hr22 : Room 1 _ := hr.mono (by decide)
  exact ⟨_, (pss_cons (ps_if (PW.pt (pw_and (pt_cmpR (op_eqP hu) (pe_slice sl_all (pv 0) po_none (po_some pe_int)) pe_str (nomark _)) (pw_and1 (pt_cmpR (op_neP hu) (pv 0) pe_str (nomark _))))) (pss_cons (ps_set (i := 1) sc23.nd rfl (by first | exact .inl rfl | exact .inr rfl) (pe_callS G22 hr22 rfl T.g22 T.F22.kp T.b22 (fun σ => L2N.passAt (L2N.takes_of rfl rfl rfl rfl) σ) (pa_cons (pe_slice sl_all (pv 0) (po_some pe_int) po_none) pa_nil))) (pss_cons (ps_if (pt_cmpR op_isN (pv 1) pe_non (nomark _)) (pss_one (ps_ret pe_non)) pss_nil) (pss_one (ps_ret (pe_un un_neg (pv 1)))))) pss_nil) (pss_one (ps_ret (pe_callS G22 hr22 rfl T.g22 T.F22.kp T.b22 (fun σ => L2N.passAt (L2N.takes_of rfl rfl rfl rfl) σ) (pa_cons (pv 0) pa_nil))))),
    body_p rfl
    (sm_seq (sm_if (tm_and (tm_test (pm_op (r2_eq (neg := false)) (pm_sl (b := false) pm_var om_none (om_some pm_int)) pm_str)) (tm_test (pm_op (r2_eq (neg := true)) pm_var pm_str))) (sm_seq (sm_set (pm_callP (am_cons (pm_sl (b := false) pm_var (om_some pm_int) om_none) am_nil))) (sm_seq (sm_if (tm_test (pm_op r2_is pm_var pm_non)) (sm_ret pm_non) sm_next) (sm_ret (pm_un r1_neg pm_var)))) sm_next) (sm_ret (pm_callP (am_cons pm_var am_nil)))) h⟩
theorem ok_l_net_of (T : Txt K mg a fd cl) : FnOk P w K mg base (L2N.CX P w) 3 (a 24) (fd 24) ["_law_lines"] (spP K cl 1 l_net_of) := by
  have G23 := ok_l_signed (P := P) (w := w) (base := base) (cl := cl) T
  have G22 := ok_l_figures (P := P) (w := w) (base := base) (cl := cl) T
  refine okN T.F24 sc24 (fun vs H Q E h => h.1) (fun cdv A outer s H vs Q E hr h => ?_)
  have hu := hr.units
  have hr23 : Room 2 _ := hr.mono (by decide)
  have hr22 : Room 1 _ := hr.mono (by decide)
  exact ⟨_, (pss_cons (ps_set (i := 1) sc24.nd rfl (by first | exact .inl rfl | exact .inr rfl) (pe_lst pa_nil)) (pss_cons (ps_set (i := 2) sc24.nd rfl (by first | exact .inl rfl | exact .inr rfl) (pe_lst pa_nil)) (pss_cons (ps_for (passes_of rfl) rfl (pi_seq (pv 0)) (pg_name (i := 3) sc24.nd rfl (by first | exact .inl rfl | exact .inr rfl)) (pss_cons (ps_set (i := 4) sc24.nd rfl (by first | exact .inl rfl | exact .inr rfl) (pe_bm PySem.F.plainAttrs_str PySem.F.slot_str_split PySem.F.type_str_split mt_split (pv 3) (pa_cons pe_str pa_nil))) (pss_cons (ps_if (pt_cmpR (op_eqP hu) (pv 3) pe_str (nomark _)) (pss_cons (ps_expr (pe_bm PySem.F.plainAttrs_list PySem.F.slot_list_append PySem.F.type_list_append mt_append (pv 2) (pa_cons (pe_lst pa_nil) pa_nil))) (pss_one ps_continue)) pss_nil) (pss_cons (ps_setLc (i := 6) (own := [("_law_word", 5)]) rfl sc24.nd rfl rfl (sw_true rfl rfl rfl (by decide +kernel)) (pi_seq (pe_slice sl_all (pv 4) (po_some pe_int) po_none)) (blkOk_by (N := ["_law_lines", "_law_pipes", "_law_rows", "_law_line", "_law_words", "_law_word", "_law_numbers"]) (sc := defScope s24) (by decide +kernel)) (fun _ _ _ _ _ => (pg_name (i := 5) sc24.nd rfl (by first | exact .inl rfl | exact .inr rfl))) (fun _ _ _ _ _ => pts_nil) (fun _ _ _ _ _ => (pe_ifExp (pt_cmpR (op_eqP hu) (pe_ix ix_seq (pv 4) pe_int (fun _ _ => rfl)) pe_str (nomark _)) (pe_callS G23 hr23 rfl T.g23 T.F23.kp T.b23 (fun σ => L2N.passAt takes0N σ) (pa_cons (pv 5) pa_nil)) (pe_callS G22 hr22 rfl T.g22 T.F22.kp T.b22 (fun σ => L2N.passAt takes0N σ) (pa_cons (pv 5) pa_nil))))) (pss_cons (ps_if (pt_cmpR (op_inP hu) pe_non (pv 6) (by rfl)) (pss_one (ps_ret pe_non)) pss_nil) (pss_one (ps_if (PW.pt (pw_and (pt_cmpR (op_eqP hu) (pe_ix ix_seq (pv 4) pe_int (fun _ _ => rfl)) pe_str (nomark _)) (pw_and (pt_cmpR (op_eqP hu) (pe_callB call_len3 (by rfl) T.z_len PySem.boot_len (pa_cons (pv 6) pa_nil)) pe_int (nomark _)) (pw_and1 (pt_cmpR (op_eqP hu) (pe_callB call_len3 (by rfl) T.z_len PySem.boot_len (pa_cons (pv 2) pa_nil)) pe_int (nomark _)))))) (pss_one (ps_expr (pe_bm PySem.F.plainAttrs_list PySem.F.slot_list_append PySem.F.type_list_append mt_append (pv 1) (pa_cons (pe_tup (pa_cons (pe_ix ix_seq (pv 6) pe_int (fun _ _ => rfl)) (pa_cons (pe_ix ix_seq (pv 6) pe_int (fun _ _ => rfl)) (pa_cons (pe_ix ix_seq (pv 6) pe_int (fun _ _ => rfl)) pa_nil)))) pa_nil)))) (pss_one (ps_if (PW.pt (pw_and (pt_cmpR (op_inP hu) (pe_ix ix_seq (pv 4) pe_int (fun _ _ => rfl)) (pe_tup (pa_cons pe_str (pa_cons pe_str (pa_cons pe_str (pa_cons pe_str pa_nil))))) (by rfl)) (pw_and (pt_cmpR (op_eqP hu) (pe_callB call_len3 (by rfl) T.z_len PySem.boot_len (pa_cons (pv 6) pa_nil)) pe_int (nomark _)) (pw_and1 (pt_cmpR op_gt (pe_callB call_len3 (by rfl) T.z_len PySem.boot_len (pa_cons (pv 2) pa_nil)) pe_int (nomark _)))))) (pss_one (ps_expr (pe_bm PySem.F.plainAttrs_list PySem.F.slot_list_append PySem.F.type_list_append mt_append (pe_ix ix_seq (pv 2) (pe_un un_neg pe_int) (fun _ _ => rfl)) (pa_cons (pe_tup (pa_cons (pe_ix ix_seq (pv 4) pe_int (fun _ _ => rfl)) (pa_cons (pe_ix ix_seq (pv 6) pe_int (fun _ _ => rfl)) pa_nil))) pa_nil)))) (pss_one (ps_ret pe_non))))))))))) (pss_cons (ps_if (pt_cmpR (op_eqP hu) (pe_callB call_len3 (by rfl) T.z_len PySem.boot_len (pa_cons (pv 2) pa_nil)) pe_int (nomark _)) (pss_one (ps_ret pe_non)) pss_nil) (pss_one (ps_ret (pe_tup (pa_cons (pv 1) (pa_cons (pv 2) pa_nil))))))))),
    body_p rfl
    (sm_seq (sm_set (pm_lst (b := true) am_nil)) (sm_seq (sm_set (pm_lst (b := true) am_nil)) (sm_seq (sm_for (vs := [3]) (im_seq pm_var) (gm_name (by decide)) (sm_seq (sm_set (pm_strM sr_split pm_var (am_cons pm_str am_nil))) (sm_seq (sm_if (tm_test (pm_op (r2_eq (neg := false)) pm_var pm_str)) (sm_seq (sm_drop (pm_cellM cm_append pm_var (am_cons (pm_lst (b := true) am_nil) am_nil))) sm_cont) sm_next) (sm_seq (sm_set (pm_comp (b := false) (im_seq (pm_sl (b := false) pm_var (om_some pm_int) om_none)) (gm_name (by decide)) tm_yes (pm_if (tm_test (pm_op (r2_eq (neg := false)) (pm_op r2_ix pm_var pm_int) pm_str)) (pm_callP (am_cons pm_var am_nil)) (pm_callP (am_cons pm_var am_nil))))) (sm_seq (sm_if (tm_test (pm_op (r2_in (neg := false)) pm_non pm_var)) (sm_ret pm_non) sm_next) (sm_if (tm_and (tm_test (pm_op (r2_eq (neg := false)) (pm_op r2_ix pm_var pm_int) pm_str)) (tm_and (tm_test (pm_op (r2_eq (neg := false)) (pm_cb rc_len (am_cons pm_var am_nil)) pm_int)) (tm_test (pm_op (r2_eq (neg := false)) (pm_cb rc_len (am_cons pm_var am_nil)) pm_int)))) (sm_drop (pm_cellM cm_append pm_var (am_cons (pm_tup (am_cons (pm_op r2_ix pm_var pm_int) (am_cons (pm_op r2_ix pm_var pm_int) (am_cons (pm_op r2_ix pm_var pm_int) am_nil)))) am_nil))) (sm_if (tm_and (tm_test (pm_op (r2_in (neg := false)) (pm_op r2_ix pm_var pm_int) (pm_tup (am_cons pm_str (am_cons pm_str (am_cons pm_str (am_cons pm_str am_nil))))))) (tm_and (tm_test (pm_op (r2_eq (neg := false)) (pm_cb rc_len (am_cons pm_var am_nil)) pm_int)) (tm_test (pm_op r2_gt (pm_cb rc_len (am_cons pm_var am_nil)) pm_int)))) (sm_drop (pm_cellM cm_append (pm_op r2_ix pm_var (pm_un r1_neg pm_int)) (am_cons (pm_tup (am_cons (pm_op r2_ix pm_var pm_int) (am_cons (pm_op r2_ix pm_var pm_int) am_nil))) am_nil))) (sm_ret pm_non)))))))) (sm_seq (sm_if (tm_test (pm_op (r2_eq (neg := false)) (pm_cb rc_len (am_cons pm_var am_nil)) pm_int)) (sm_ret pm_non) sm_next) (sm_ret (pm_tup (am_cons pm_var (am_cons pm_var am_nil)))))))) h⟩
theorem ok_l_due (T : Txt K mg a fd cl) : FnOk P w K mg base (L2N.CX P w) 1 (a 25) (fd 25) ["_law_net"] (spP K cl 1 l_due) := by
  refine okN T.F25 sc25 (fun vs H Q E h => h.1) (fun cdv A outer s H vs Q E hr h => ?_)
  have hu := hr.units
  exact ⟨_, (pss_cons (ps_if (pt_cmpR op_isN (pv 0) pe_non (nomark _)) (pss_one (ps_ret pe_str)) pss_nil) (pss_cons (ps_for (passes_of rfl) rfl (pi_seq (pe_ix ix_seq (pv 0) pe_int (fun _ _ => rfl))) (pg_name (i := 1) sc25.nd rfl (by first | exact .inl rfl | exact .inr rfl)) (pss_one (ps_if (pt_not (PW.pt (pw_and (pt_cmpR op_lt (pe_ix ix_seq (pv 1) pe_int (fun _ _ => rfl)) (pe_callB call_len3 (by rfl) T.z_len PySem.boot_len (pa_cons (pe_ix ix_seq (pv 0) pe_int (fun _ _ => rfl)) pa_nil)) (nomark _)) (pw_and (pt_cmpR op_lt (pe_ix ix_seq (pv 1) pe_int (fun _ _ => rfl)) (pe_callB call_len3 (by rfl) T.z_len PySem.boot_len (pa_cons (pe_ix ix_seq (pv 0) pe_int (fun _ _ => rfl)) pa_nil)) (nomark _)) (pw_and1 (pt_chain op_le op_le pe_int (pe_ix ix_seq (pv 1) pe_int (fun _ _ => rfl)) pe_int)))))) (pss_one (ps_ret pe_str)) pss_nil))) (pss_cons (ps_for (passes_of rfl) rfl (pi_enum (by rfl) T.z_enumerate (pa_cons (pe_ix ix_seq (pv 0) pe_int (fun _ _ => rfl)) pa_nil)) (pg_tup rfl (pgs_cons (pg_name (i := 2) sc25.nd rfl (by first | exact .inl rfl | exact .inr rfl)) (pgs_cons (pg_name (i := 3) sc25.nd rfl (by first | exact .inl rfl | exact .inr rfl)) pgs_nil))) (pss_one (ps_for (passes_of rfl) rfl (pi_seq (pv 3)) (pg_name (i := 4) sc25.nd rfl (by first | exact .inl rfl | exact .inr rfl)) (pss_cons (ps_if (PW.pt (pw_and (pt_cmpR (op_neP hu) (pe_ix ix_seq (pv 4) pe_int (fun _ _ => rfl)) pe_str (nomark _)) (pw_and1 (pt_cmpR op_ge (pe_ix ix_seq (pv 4) pe_int (fun _ _ => rfl)) (pe_callB call_len3 (by rfl) T.z_len PySem.boot_len (pa_cons (pe_ix ix_seq (pv 0) pe_int (fun _ _ => rfl)) pa_nil)) (nomark _))))) (pss_one (ps_ret pe_str)) pss_nil) (pss_cons (ps_if (PW.pt (pw_and (pt_cmpR (op_eqP hu) (pe_ix ix_seq (pv 4) pe_int (fun _ _ => rfl)) pe_str (nomark _)) (pw_and1 (pt_cmpR (op_neP hu) (pe_ix ix_seq (pe_ix ix_seq (pe_ix ix_seq (pv 0) pe_int (fun _ _ => rfl)) (pe_ix ix_seq (pv 4) pe_int (fun _ _ => rfl)) (fun _ _ => rfl)) pe_int (fun _ _ => rfl)) (pv 2) (nomark _))))) (pss_one (ps_ret pe_str)) pss_nil) (pss_one (ps_if (PW.pt (pw_and (pt_cmpR (op_inP hu) (pe_ix ix_seq (pv 4) pe_int (fun _ _ => rfl)) (pe_tup (pa_cons pe_str (pa_cons pe_str pa_nil))) (by rfl)) (pw_and1 (pt_cmpR (op_neP hu) (pe_ix ix_seq (pe_ix ix_seq (pe_ix ix_seq (pv 0) pe_int (fun _ _ => rfl)) (pe_ix ix_seq (pv 4) pe_int (fun _ _ => rfl)) (fun _ _ => rfl)) pe_int (fun _ _ => rfl)) (pv 2) (nomark _))))) (pss_one (ps_ret pe_str)) pss_nil))))))) (pss_one (ps_ret pe_str))))),
    body_p rfl
    (sm_seq (sm_if (tm_test (pm_op r2_is pm_var pm_non)) (sm_ret pm_str) sm_next) (sm_seq (sm_for (vs := [1]) (im_seq (pm_op r2_ix pm_var pm_int)) (gm_name (by decide)) (sm_if (tm_not (tm_and (tm_test (pm_op r2_lt (pm_op r2_ix pm_var pm_int) (pm_cb rc_len (am_cons (pm_op r2_ix pm_var pm_int) am_nil)))) (tm_and (tm_test (pm_op r2_lt (pm_op r2_ix pm_var pm_int) (pm_cb rc_len (am_cons (pm_op r2_ix pm_var pm_int) am_nil)))) (tm_test (pm_chain r2_le r2_le pm_int (pm_op r2_ix pm_var pm_int) pm_int))))) (sm_ret pm_str) sm_next)) (sm_seq (sm_for (vs := [2, 3]) (im_enum (am_cons (pm_op r2_ix pm_var pm_int) am_nil)) (gm_tup (gm_cons (gm_name (by decide)) (gm_cons (gm_name (by decide)) gm_nil))) (sm_for (vs := [4]) (im_seq pm_var) (gm_name (by decide)) (sm_seq (sm_if (tm_and (tm_test (pm_op (r2_eq (neg := true)) (pm_op r2_ix pm_var pm_int) pm_str)) (tm_test (pm_op r2_ge (pm_op r2_ix pm_var pm_int) (pm_cb rc_len (am_cons (pm_op r2_ix pm_var pm_int) am_nil))))) (sm_ret pm_str) sm_next) (sm_seq (sm_if (tm_and (tm_test (pm_op (r2_eq (neg := false)) (pm_op r2_ix pm_var pm_int) pm_str)) (tm_test (pm_op (r2_eq (neg := true)) (pm_op r2_ix (pm_op r2_ix (pm_op r2_ix pm_var pm_int) (pm_op r2_ix pm_var pm_int)) pm_int) pm_var))) (sm_ret pm_str) sm_next) (sm_if (tm_and (tm_test (pm_op (r2_in (neg := false)) (pm_op r2_ix pm_var pm_int) (pm_tup (am_cons pm_str (am_cons pm_str am_nil))))) (tm_test (pm_op (r2_eq (neg := true)) (pm_op r2_ix (pm_op r2_ix (pm_op r2_ix pm_var pm_int) (pm_op r2_ix pm_var pm_int)) pm_int) pm_var))) (sm_ret pm_str) sm_next))))) (sm_ret pm_str)))) h⟩
theorem ok_l_odd_line (T : Txt K mg a fd cl) : FnOk P w K mg base (L2N.CX P w) 1 (a 26) (fd 26) ["_law_cell"] (spP K cl 1 l_odd_line) := by
  refine okN T.F26 sc26 (fun vs H Q E h => h.1) (fun cdv A outer s H vs Q E hr h => ?_)
  have hu := hr.units
  exact ⟨_, (pss_cons (ps_set (i := 1) sc26.nd rfl (by first | exact .inl rfl | exact .inr rfl) (pe_lst (pa_cons pe_str (pa_cons pe_str (pa_cons pe_str (pa_cons pe_str (pa_cons pe_str (pa_cons pe_str (pa_cons pe_str (pa_cons pe_str pa_nil)))))))))) (pss_cons (ps_set (i := 1) sc26.nd rfl (by first | exact .inl rfl | exact .inr rfl) (pe_op op_add4 (pv 1) (pe_lst (pa_cons pe_str (pa_cons pe_str (pa_cons pe_str (pa_cons pe_str (pa_cons pe_str (pa_cons pe_str (pa_cons pe_str (pa_cons pe_str (pa_cons pe_str pa_nil)))))))))))) (pss_cons (ps_set (i := 1) sc26.nd rfl (by first | exact .inl rfl | exact .inr rfl) (pe_op op_add4 (pv 1) (pe_lst (pa_cons pe_str (pa_cons pe_str (pa_cons pe_str (pa_cons pe_str (pa_cons pe_str (pa_cons pe_str (pa_cons pe_str (pa_cons pe_str (pa_cons pe_str (pa_cons pe_str pa_nil))))))))))))) (pss_cons (ps_set (i := 1) sc26.nd rfl (by first | exact .inl rfl | exact .inr rfl) (pe_op op_add4 (pv 1) (pe_lst (pa_cons pe_str (pa_cons pe_str (pa_cons pe_str pa_nil)))))) (pss_one (ps_ret (pe_ix ix_seq (pv 1) (pe_op op_mod (pv 0) pe_int) (fun _ _ => rfl)))))))),
    body_p rfl
    (sm_seq (sm_set (pm_lst (b := false) (am_cons pm_str (am_cons pm_str (am_cons pm_str (am_cons pm_str (am_cons pm_str (am_cons pm_str (am_cons pm_str (am_cons pm_str am_nil)))))))))) (sm_seq (sm_set (pm_op (r2_add (b := false)) pm_var (pm_lst (b := false) (am_cons pm_str (am_cons pm_str (am_cons pm_str (am_cons pm_str (am_cons pm_str (am_cons pm_str (am_cons pm_str (am_cons pm_str (am_cons pm_str am_nil)))))))))))) (sm_seq (sm_set (pm_op (r2_add (b := false)) pm_var (pm_lst (b := false) (am_cons pm_str (am_cons pm_str (am_cons pm_str (am_cons pm_str (am_cons pm_str (am_cons pm_str (am_cons pm_str (am_cons pm_str (am_cons pm_str (am_cons pm_str am_nil))))))))))))) (sm_seq (sm_set (pm_op (r2_add (b := false)) pm_var (pm_lst (b := false) (am_cons pm_str (am_cons pm_str (am_cons pm_str am_nil)))))) (sm_ret (pm_op r2_ix pm_var (pm_op r2_mod pm_var pm_int))))))) h⟩
theorem ok_l_lines_by (T : Txt K mg a fd cl) : FnOk P w K mg base (L2N.CX P w) 2 (a 27) (fd 27) ["_law_script"] (spI K cl 1 l_lines_by) := by
  have G21 := ok_l_cell_at (P := P) (w := w) (base := base) (cl := cl) T
  refine okN T.F27 sc27 (fun vs H Q E h => h.1) (fun cdv A outer s H vs Q E hr h => ?_)
  have hu := hr.units
  have hr21 : Room 1 _ := hr.mono (by decide)
  exact ⟨_, (pss_cons (ps_set (i := 1) sc27.nd rfl (by first | exact .inl rfl | exact .inr rfl) (pe_op op_add4 pe_int (pe_op op_mod (pe_callS G21 hr21 rfl T.g21 T.F21.kp T.b21 (fun σ => L2N.passAt (L2N.takes_of rfl rfl rfl rfl) σ) (pa_cons (pv 0) (pa_cons pe_int pa_nil))) pe_int))) (pss_cons (ps_set (i := 2) sc27.nd rfl (by first | exact .inl rfl | exact .inr rfl) (pe_op op_mod (pe_callS G21 hr21 rfl T.g21 T.F21.kp T.b21 (fun σ => L2N.passAt (L2N.takes_of rfl rfl rfl rfl) σ) (pa_cons (pv 0) (pa_cons pe_int pa_nil))) pe_int)) (pss_cons (ps_set (i := 3) sc27.nd rfl (by first | exact .inl rfl | exact .inr rfl) (pe_lst pa_nil)) (pss_cons (ps_for (passes_of rfl) rfl (pi_range1 (by rfl) T.z_range (pa_cons (pv 2) pa_nil)) (pg_name (i := 4) sc27.nd rfl (by first | exact .inl rfl | exact .inr rfl)) (pss_cons (ps_set (i := 5) sc27.nd rfl (by first | exact .inl rfl | exact .inr rfl) (pe_callS G21 hr21 rfl T.g21 T.F21.kp T.b21 (fun σ => L2N.passAt (L2N.takes_of rfl rfl rfl rfl) σ) (pa_cons (pv 0) (pa_cons (pe_op op_add4 pe_int (pv 4)) pa_nil)))) (pss_cons (ps_set (i := 6) sc27.nd rfl (by first | exact .inl rfl | exact .inr rfl) (pe_op op_add4 (pe_op op_add4 (pe_callTy call_str_int (by rfl) T.z_str (by decide +kernel) (pa_cons (pe_op op_mod (pv 5) (pv 1)) pa_nil)) pe_str) (pe_callTy call_str_int (by rfl) T.z_str (by decide +kernel) (pa_cons (pe_op op_mod (pe_op op_fdiv (pv 5) pe_int) (pv 1)) pa_nil)))) (pss_one (ps_expr (pe_bm PySem.F.plainAttrs_list PySem.F.slot_list_append PySem.F.type_list_append mt_append (pv 3) (pa_cons (pe_op op_add4 (pe_op op_add4 (pe_op op_add4 pe_str (pv 6)) pe_str) (pe_callTy call_str_int (by rfl) T.z_str (by decide +kernel) (pa_cons (pe_op op_add4 pe_int (pe_op op_mod (pe_op op_fdiv (pv 5) pe_int) pe_int)) pa_nil))) pa_nil))))))) (pss_cons (ps_for (passes_of rfl) rfl (pi_range1 (by rfl) T.z_range (pa_cons (pv 1) pa_nil)) (pg_name (i := 4) sc27.nd rfl (by first | exact .inl rfl | exact .inr rfl)) (pss_cons (ps_expr (pe_bm PySem.F.plainAttrs_list PySem.F.slot_list_append PySem.F.type_list_append mt_append (pv 3) (pa_cons pe_str pa_nil))) (pss_one (ps_for (passes_of rfl) rfl (pi_range3 (by rfl) T.z_range (pa_cons (pe_op op_add4 pe_int (pv 4)) (pa_cons (pe_callB (call_min2 rfl) (by rfl) T.z_min (by decide +kernel) (pa_cons (pe_callB call_len3 (by rfl) T.z_len PySem.boot_len (pa_cons (pv 0) pa_nil)) (pa_cons pe_int pa_nil))) (pa_cons (pe_op op_add4 (pv 1) pe_int) pa_nil)))) (pg_name (i := 7) sc27.nd rfl (by first | exact .inl rfl | exact .inr rfl)) (pss_cons (ps_set (i := 5) sc27.nd rfl (by first | exact .inl rfl | exact .inr rfl) (pe_ix ix_seq (pv 0) (pv 7) (fun _ _ => rfl))) (pss_cons (ps_set (i := 8) sc27.nd rfl (by first | exact .inl rfl | exact .inr rfl) (pe_ix ix_seq (pe_lst (pa_cons pe_str (pa_cons pe_str (pa_cons pe_str (pa_cons pe_str pa_nil))))) (pe_op op_mod (pv 5) pe_int) (fun _ _ => rfl))) (pss_cons (ps_set (i := 9) sc27.nd rfl (by first | exact .inl rfl | exact .inr rfl) (pe_ifExp (pt_cmpR (op_eqP hu) (pe_op op_mod (pv 5) pe_int) pe_int (nomark _)) (pe_op op_mod (pe_op op_fdiv (pv 5) pe_int) (pe_op op_pow pe_int pe_int)) (pe_op op_mod (pe_op op_fdiv (pv 5) pe_int) pe_int))) (pss_one (ps_expr (pe_bm PySem.F.plainAttrs_list PySem.F.slot_list_append PySem.F.type_list_append mt_append (pv 3) (pa_cons (pe_op op_add4 (pe_op op_add4 (pv 8) pe_str) (pe_callTy call_str_int (by rfl) T.z_str (by decide +kernel) (pa_cons (pv 9) pa_nil))) pa_nil))))))))))) (pss_one (ps_ret (pv 3)))))))),
    body_i rfl
    (sm_seq (sm_set (pm_op (r2_add (b := false)) pm_int (pm_op r2_mod (pm_callP (am_cons pm_var (am_cons pm_int am_nil))) pm_int))) (sm_seq (sm_set (pm_op r2_mod (pm_callP (am_cons pm_var (am_cons pm_int am_nil))) pm_int)) (sm_seq (sm_set (pm_lst (b := true) am_nil)) (sm_seq (sm_for (vs := [4]) (im_rng1 (am_cons pm_var am_nil)) (gm_name (by decide)) (sm_seq (sm_set (pm_callP (am_cons pm_var (am_cons (pm_op (r2_add (b := false)) pm_int pm_var) am_nil)))) (sm_seq (sm_set (pm_op (r2_add (b := false)) (pm_op (r2_add (b := false)) (pm_cb rc_strInt (am_cons (pm_op r2_mod pm_var pm_var) am_nil)) pm_str) (pm_cb rc_strInt (am_cons (pm_op r2_mod (pm_op r2_div pm_var pm_int) pm_var) am_nil)))) (sm_drop (pm_cellM cm_append pm_var (am_cons (pm_op (r2_add (b := false)) (pm_op (r2_add (b := false)) (pm_op (r2_add (b := false)) pm_str pm_var) pm_str) (pm_cb rc_strInt (am_cons (pm_op (r2_add (b := false)) pm_int (pm_op r2_mod (pm_op r2_div pm_var pm_int) pm_int)) am_nil))) am_nil)))))) (sm_seq (sm_for (vs := [4]) (im_rng1 (am_cons pm_var am_nil)) (gm_name (by decide)) (sm_seq (sm_drop (pm_cellM cm_append pm_var (am_cons pm_str am_nil))) (sm_for (vs := [7]) (im_rng3 (am_cons (pm_op (r2_add (b := false)) pm_int pm_var) (am_cons (pm_cb rc_min2 (am_cons (pm_cb rc_len (am_cons pm_var am_nil)) (am_cons pm_int am_nil))) (am_cons (pm_op (r2_add (b := false)) pm_var pm_int) am_nil)))) (gm_name (by decide)) (sm_seq (sm_set (pm_op r2_ix pm_var pm_var)) (sm_seq (sm_set (pm_op r2_ix (pm_lst (b := false) (am_cons pm_str (am_cons pm_str (am_cons pm_str (am_cons pm_str am_nil))))) (pm_op r2_mod pm_var pm_int))) (sm_seq (sm_set (pm_if (tm_test (pm_op (r2_eq (neg := false)) (pm_op r2_mod pm_var pm_int) pm_int)) (pm_op r2_mod (pm_op r2_div pm_var pm_int) (pm_op r2_pow pm_int pm_int)) (pm_op r2_mod (pm_op r2_div pm_var pm_int) pm_int))) (sm_drop (pm_cellM cm_append pm_var (am_cons (pm_op (r2_add (b := false)) (pm_op (r2_add (b := false)) pm_var pm_str) (pm_cb rc_strInt (am_cons pm_var am_nil))) am_nil))))))))) (sm_ret pm_var)))))) h⟩
theorem ok_l_sign_by (T : Txt K mg a fd cl) : FnOk P w K mg base (L2N.CX P w) 1 (a 28) (fd 28) ["_law_cell"] (spP K cl 1 l_sign_by) := by
  refine okN T.F28 sc28 (fun vs H Q E h => h.1) (fun cdv A outer s H vs Q E hr h => ?_)
  have hu := hr.units
  exact ⟨_, (pss_cons (ps_set (i := 1) sc28.nd rfl (by first | exact .inl rfl | exact .inr rfl) pe_str) (pss_cons (ps_set (i := 1) sc28.nd rfl (by first | exact .inl rfl | exact .inr rfl) (pe_op op_add4 (pv 1) pe_str)) (pss_one (ps_ret (pe_ix ix_seq (pv 1) (pe_op op_mod (pv 0) pe_int) (fun _ _ => rfl)))))),
    body_p rfl
    (sm_seq (sm_set pm_str) (sm_seq (sm_set (pm_op (r2_add (b := false)) pm_var pm_str)) (sm_ret (pm_op r2_ix pm_var (pm_op r2_mod pm_var pm_int))))) h⟩
theorem ok_l_text_by (T : Txt K mg a fd cl) : FnOk P w K mg base (L2N.CX P w) 2 (a 29) (fd 29) ["_law_script", "_law_lines"] (spP K cl 2 l_text_by) := by
  have G21 := ok_l_cell_at (P := P) (w := w) (base := base) (cl := cl) T
  have G28 := ok_l_sign_by (P := P) (w := w) (base := base) (cl := cl) T
  refine okN T.F29 sc29 (fun vs H Q E h => h.1) (fun cdv A outer s H vs Q E hr h => ?_)
  have hu := hr.units
  have hr21 : Room 1 _ := hr.mono (by decide)
  have hr28 : Room 1 _ := hr.mono (by decide)
  exact ⟨_, (pss_cons (ps_set (i := 2) sc29.nd rfl (by first | exact .inl rfl | exact .inr rfl) (pe_bm PySem.F.plainAttrs_str PySem.F.slot_str_join PySem.F.type_str_join mt_join pe_str (pa_cons (pv 1) pa_nil))) (pss_cons (ps_set (i := 3) sc29.nd rfl (by first | exact .inl rfl | exact .inr rfl) (pe_callS G21 hr21 rfl T.g21 T.F21.kp T.b21 (fun σ => L2N.passAt (L2N.takes_of rfl rfl rfl rfl) σ) (pa_cons (pv 0) (pa_cons pe_int pa_nil)))) (pss_cons (ps_if (pt_cmpR (op_eqP hu) (pe_op op_mod (pv 3) pe_int) pe_int (nomark _)) (pss_cons (ps_set (i := 4) sc29.nd rfl (by first | exact .inl rfl | exact .inr rfl) (pe_op op_mod (pe_op op_fdiv (pv 3) pe_int) (pe_op op_add4 (pe_callB call_len3 (by rfl) T.z_len PySem.boot_len (pa_cons (pv 2) pa_nil)) pe_int))) (pss_one (ps_ret (pe_op op_add4 (pe_op op_add4 (pe_slice sl_all (pv 2) po_none (po_some (pv 4))) (pe_callS G28 hr28 rfl T.g28 T.F28.kp T.b28 (fun σ => L2N.passAt (L2N.takes_of rfl rfl rfl rfl) σ) (pa_cons (pe_op op_add4 (pe_callS G21 hr21 rfl T.g21 T.F21.kp T.b21 (fun σ => L2N.passAt (L2N.takes_of rfl rfl rfl rfl) σ) (pa_cons (pv 0) (pa_cons pe_int pa_nil))) (pe_callS G21 hr21 rfl T.g21 T.F21.kp T.b21 (fun σ => L2N.passAt (L2N.takes_of rfl rfl rfl rfl) σ) (pa_cons (pv 0) (pa_cons pe_int pa_nil)))) pa_nil))) (pe_slice sl_all (pv 2) (po_some (pv 4)) po_none))))) pss_nil) (pss_cons (ps_if (PW.pt (pw_and (pt_cmpR (op_eqP hu) (pe_op op_mod (pv 3) pe_int) pe_int (nomark _)) (pw_and1 (pt_cmpR op_gt (pe_callB call_len3 (by rfl) T.z_len PySem.boot_len (pa_cons (pv 2) pa_nil)) pe_int (nomark _))))) (pss_cons (ps_set (i := 4) sc29.nd rfl (by first | exact .inl rfl | exact .inr rfl) (pe_op op_mod (pe_op op_fdiv (pv 3) pe_int) (pe_callB call_len3 (by rfl) T.z_len PySem.boot_len (pa_cons (pv 2) pa_nil)))) (pss_one (ps_ret (pe_op op_add4 (pe_slice sl_all (pv 2) po_none (po_some (pv 4))) (pe_slice sl_all (pv 2) (po_some (pe_op op_add4 (pv 4) pe_int)) po_none))))) pss_nil) (pss_one (ps_ret (pv 2))))))),
    body_p rfl
    (sm_seq (sm_set (pm_strM sr_join pm_str (am_cons pm_var am_nil))) (sm_seq (sm_set (pm_callP (am_cons pm_var (am_cons pm_int am_nil)))) (sm_seq (sm_if (tm_test (pm_op (r2_eq (neg := false)) (pm_op r2_mod pm_var pm_int) pm_int)) (sm_seq (sm_set (pm_op r2_mod (pm_op r2_div pm_var pm_int) (pm_op (r2_add (b := false)) (pm_cb rc_len (am_cons pm_var am_nil)) pm_int))) (sm_ret (pm_op (r2_add (b := false)) (pm_op (r2_add (b := false)) (pm_sl (b := false) pm_var om_none (om_some pm_var)) (pm_callP (am_cons (pm_op (r2_add (b := false)) (pm_callP (am_cons pm_var (am_cons pm_int am_nil))) (pm_callP (am_cons pm_var (am_cons pm_int am_nil)))) am_nil))) (pm_sl (b := false) pm_var (om_some pm_var) om_none)))) sm_next) (sm_seq (sm_if (tm_and (tm_test (pm_op (r2_eq (neg := false)) (pm_op r2_mod pm_var pm_int) pm_int)) (tm_test (pm_op r2_gt (pm_cb rc_len (am_cons pm_var am_nil)) pm_int))) (sm_seq (sm_set (pm_op r2_mod (pm_op r2_div pm_var pm_int) (pm_cb rc_len (am_cons pm_var am_nil)))) (sm_ret (pm_op (r2_add (b := false)) (pm_sl (b := false) pm_var om_none (om_some pm_var)) (pm_sl (b := false) pm_var (om_some (pm_op (r2_add (b := false)) pm_var pm_int)) om_none)))) sm_next) (sm_ret pm_var))))) h⟩
theorem ok_l_refused_by_any (T : Txt K mg a fd cl) : FnOk P w K mg base (L2N.CX P w) 5 (a 31) (fd 31) ["_law_text"] (spP K cl 1 l_refused_by_any) := by
  have G15 := ok_read (P := P) (w := w) (base := base) (cl := cl) T
  refine okN T.F31 sc31 (fun vs H Q E h => h.1) (fun cdv A outer s H vs Q E hr h => ?_)
  have hu := hr.units
  have hrH : L2H.RoomH 1 _ := L2H.roomH_of (hr.mono (by decide))
  have hr15 : Room 4 _ := hr.mono (by decide)
  exact ⟨_, (pss_cons (L2N.ps_try_as (i := 1) rfl rfl sc31.nd rfl rfl ⟨rfl, by decide, .inl T.gc_NetError⟩ (L2N.takes_of rfl rfl rfl rfl) (fun W pn xe tk1 po1 => (pss_one (ps_expr (pe_callS G15 hr15 rfl T.g15 T.F15.kp T.b15 (fun σ => L2N.passAt tk1 σ) (pa_cons (pv 0) pa_nil))))) (fun ha oe ec ed pn hz hf => pss_one (ps_ret (pe_held (CX := L2N.CX P w) (p := (ha, oe)) (good := AloneOk _ (.ref (a 4)) (.ref (a 5)) (.ref (a 6)) (.ref (a 2)) (.ref (a 3)) (.ref (a 7)) (.ref (a 1)) (.type "ValueError") ec ed) T.F30 sc30 T.b30 (by rfl) T.g30 List.mem_cons_self (hot_of hz hf) ⟨hrH.dp, hrH.un⟩ (pa_cons (pv 1) pa_nil) (fun cdv A outer s H E Q hg ho hr hq => body_alone T hz hf ho cdv outer s H E Q hg hq) (fun H s e s' c => (cxN_end c).elim))))) (pss_one (ps_ret pe_bl))),
    body_p rfl
    (sm_seq (sm_try_as (i := 1) (ts := fun ha ec ed => tRet (tHeld ha (AloneOk _ (.ref (a 4)) (.ref (a 5)) (.ref (a 6)) (.ref (a 2)) (.ref (a 3)) (.ref (a 7)) (.ref (a 1)) (.type "ValueError") ec ed) (tCons (tVar 1) tNil))) (fun W' => (sm_drop (pm_callP (am_cons pm_var am_nil)))) (exF_NetError_ok T) (fun c ha σ δ p _ s h => sm_heldRet (K := K) (cl := cl) (c := c) (P := fun ec ed => AloneOk K (.ref (a 4)) (.ref (a 5)) (.ref (a 6)) (.ref (a 2)) (.ref (a 3)) (.ref (a 7)) (.ref (a 1)) (.type "ValueError") ec ed) (alone_ok T) s h)) (sm_ret pm_bl)) h⟩
theorem ok_law (T : Txt K mg a fd cl) : FnOk P w K mg base (L2N.CX P w) 6 (a 32) (fd 32) ["_law_script"] (spP K cl 1 law) := by
  have G27 := ok_l_lines_by (P := P) (w := w) (base := base) (cl := cl) T
  have G21 := ok_l_cell_at (P := P) (w := w) (base := base) (cl := cl) T
  have G26 := ok_l_odd_line (P := P) (w := w) (base := base) (cl := cl) T
  have G29 := ok_l_text_by (P := P) (w := w) (base := base) (cl := cl) T
  have G24 := ok_l_net_of (P := P) (w := w) (base := base) (cl := cl) T
  have G25 := ok_l_due (P := P) (w := w) (base := base) (cl := cl) T
  have G15 := ok_read (P := P) (w := w) (base := base) (cl := cl) T
  have G31 := ok_l_refused_by_any (P := P) (w := w) (base := base) (cl := cl) T
  refine okN T.F32 sc32 (fun vs H Q E h => h.1) (fun cdv A outer s H vs Q E hr h => ?_)
  have hu := hr.units
  have hr27 : Room 2 _ := hr.mono (by decide)
  have hr21 : Room 1 _ := hr.mono (by decide)
  have hr26 : Room 1 _ := hr.mono (by decide)
  have hr29 : Room 2 _ := hr.mono (by decide)
  have hr24 : Room 3 _ := hr.mono (by decide)
  have hr25 : Room 1 _ := hr.mono (by decide)
  have hr15 : Room 4 _ := hr.mono (by decide)
  have hr31 : Room 5 _ := hr.mono (by decide)
  exact ⟨_, (pss_cons (ps_set (i := 1) sc32.nd rfl (by first | exact .inl rfl | exact .inr rfl) (pe_callS G27 hr27 rfl T.g27 T.F27.kp T.b27 (fun σ => L2N.passAt (L2N.takes_of rfl rfl rfl rfl) σ) (pa_cons (pv 0) pa_nil))) (pss_cons (ps_set (i := 2) sc32.nd rfl (by first | exact .inl rfl | exact .inr rfl) (pe_callS G21 hr21 rfl T.g21 T.F21.kp T.b21 (fun σ => L2N.passAt (L2N.takes_of rfl rfl rfl rfl) σ) (pa_cons (pv 0) (pa_cons pe_int pa_nil)))) (pss_cons (ps_set (i := 3) sc32.nd rfl (by first | exact .inl rfl | exact .inr rfl) (pe_op op_mod (pv 2) pe_int)) (pss_cons (ps_if (PW.pt (pw_or (pt_cmpR (op_eqP hu) (pv 3) pe_int (nomark _)) (pw_or1 (pt_cmpR (op_eqP hu) (pv 3) pe_int (nomark _))))) (pss_one (ps_expr (pe_bm PySem.F.plainAttrs_list PySem.F.slot_list_insert PySem.F.type_list_insert mt_insert (pv 1) (pa_cons (pe_op op_mod (pe_op op_fdiv (pv 2) pe_int) (pe_op op_add4 (pe_callB call_len3 (by rfl) T.z_len PySem.boot_len (pa_cons (pv 1) pa_nil)) pe_int)) (pa_cons (pe_callS G26 hr26 rfl T.g26 T.F26.kp T.b26 (fun σ => L2N.passAt (L2N.takes_of rfl rfl rfl rfl) σ) (pa_cons (pe_callS G21 hr21 rfl T.g21 T.F21.kp T.b21 (fun σ => L2N.passAt (L2N.takes_of rfl rfl rfl rfl) σ) (pa_cons (pv 0) (pa_cons pe_int pa_nil))) pa_nil)) pa_nil))))) pss_nil) (pss_cons (ps_if (pt_cmpR (op_eqP hu) (pv 3) pe_int (nomark _)) (pss_one (ps_expr (pe_bm PySem.F.plainAttrs_list PySem.F.slot_list_pop PySem.F.type_list_pop mt_popAt (pv 1) (pa_cons (pe_op op_mod (pe_op op_fdiv (pv 2) pe_int) (pe_callB call_len3 (by rfl) T.z_len PySem.boot_len (pa_cons (pv 1) pa_nil))) pa_nil)))) pss_nil) (pss_cons (ps_if (pt_cmpR (op_eqP hu) (pe_op op_mod (pe_op op_fdiv (pv 2) pe_int) pe_int) pe_int (nomark _)) (pss_one (ps_setLc (i := 1) (own := [("_law_k", 4)]) rfl sc32.nd rfl rfl (sw_true rfl rfl rfl (by decide +kernel)) (pi_range1 (by rfl) T.z_range (pa_cons (pe_op op_mod (pe_op op_fdiv (pv 2) pe_int) pe_int) pa_nil)) (blkOk_by (N := ["_law_script", "_law_lines", "_law_cell", "_law_way", "_law_k", "_law_text", "_law_net", "_law_due_here", "_law_kind", "_law_found"]) (sc := defScope s32) (by decide +kernel)) (fun _ _ _ _ _ => (pg_name (i := 4) sc32.nd rfl (by first | exact .inl rfl | exact .inr rfl))) (fun _ _ _ _ _ => pts_nil) (fun _ _ _ _ _ => (pe_callS G26 hr26 rfl T.g26 T.F26.kp T.b26 (fun σ => L2N.passAt takes0N σ) (pa_cons (pe_callS G21 hr21 rfl T.g21 T.F21.kp T.b21 (fun σ => L2N.passAt takes0N σ) (pa_cons (pv 0) (pa_cons (pv 4) pa_nil))) pa_nil))))) pss_nil) (pss_cons (ps_set (i := 5) sc32.nd rfl (by first | exact .inl rfl | exact .inr rfl) (pe_callS G29 hr29 rfl T.g29 T.F29.kp T.b29 (fun σ => L2N.passAt (L2N.takes_of rfl rfl rfl rfl) σ) (pa_cons (pv 0) (pa_cons (pv 1) pa_nil)))) (pss_cons (ps_set (i := 6) sc32.nd rfl (by first | exact .inl rfl | exact .inr rfl) (pe_callS G24 hr24 rfl T.g24 T.F24.kp T.b24 (fun σ => L2N.passAt (L2N.takes_of rfl rfl rfl rfl) σ) (pa_cons (pe_bm PySem.F.plainAttrs_str PySem.F.slot_str_split PySem.F.type_str_split mt_split (pv 5) (pa_cons pe_str pa_nil)) pa_nil))) (pss_cons (ps_set (i := 7) sc32.nd rfl (by first | exact .inl rfl | exact .inr rfl) (pe_callS G25 hr25 rfl T.g25 T.F25.kp T.b25 (fun σ => L2N.passAt (L2N.takes_of rfl rfl rfl rfl) σ) (pa_cons (pv 6) pa_nil))) (pss_cons (ps_set (i := 8) sc32.nd rfl (by first | exact .inl rfl | exact .inr rfl) pe_str) (pss_cons (ps_set (i := 9) sc32.nd rfl (by first | exact .inl rfl | exact .inr rfl) pe_non) (pss_cons (L2N.ps_try_many rfl rfl (L2N.takes_of rfl rfl rfl rfl) (fun W pn xe tk1 po1 => (pss_one (ps_set (i := 9) sc32.nd rfl (by first | exact .inl rfl | exact .inr rfl) (pe_callS G15 hr15 rfl T.g15 T.F15.kp T.b15 (fun σ => L2N.passAt tk1 σ) (pa_cons (pv 5) pa_nil))))) (.cons ⟨rfl, by decide, .inl T.gc_BadNote⟩ (fun ha oe ec ed pn hz hf => (pss_one (ps_set (i := 8) sc32.nd rfl (by first | exact .inl rfl | exact .inr rfl) pe_str))) (.cons ⟨rfl, by decide, .inl T.gc_NoPipe⟩ (fun ha oe ec ed pn hz hf => (pss_one (ps_set (i := 8) sc32.nd rfl (by first | exact .inl rfl | exact .inr rfl) pe_str))) (.cons ⟨rfl, by decide, .inl T.gc_NoOrder⟩ (fun ha oe ec ed pn hz hf => (pss_one (ps_set (i := 8) sc32.nd rfl (by first | exact .inl rfl | exact .inr rfl) pe_str))) .nil)))) (pss_cons (ps_if (pt_cmpR (op_neP hu) (pv 8) (pv 7) (nomark _)) (pss_one (ps_ret pe_bl)) pss_nil) (pss_cons (ps_if (pt_cmpR (op_neP hu) (pv 7) pe_str (nomark _)) (pss_one (ps_ret (pe_callS G31 hr31 rfl T.g31 T.F31.kp T.b31 (fun σ => L2N.passAt (L2N.takes_of rfl rfl rfl rfl) σ) (pa_cons (pv 5) pa_nil)))) pss_nil) (pss_one (ps_ret (pe_and (pe_callB call_isi (by rfl) T.z_isinstance (by decide +kernel) (pa_cons (pv 9) (pa_cons (pe_bltn (v := .ty "tuple") (by rfl) T.z_tuple (by decide +kernel) rfl) pa_nil))) (pe_one (pe_cmpR (op_eqP hu) (pv 9) (pv 6) (nomark _)))))))))))))))))))),
    body_p rfl
    (sm_seq (sm_set (pm_callI (am_cons pm_var am_nil))) (sm_seq (sm_set (pm_callP (am_cons pm_var (am_cons pm_int am_nil)))) (sm_seq (sm_set (pm_op r2_mod pm_var pm_int)) (sm_seq (sm_if (tm_or (tm_test (pm_op (r2_eq (neg := false)) pm_var pm_int)) (tm_test (pm_op (r2_eq (neg := false)) pm_var pm_int))) (sm_drop (pm_cellM cm_insert pm_var (am_cons (pm_op r2_mod (pm_op r2_div pm_var pm_int) (pm_op (r2_add (b := false)) (pm_cb rc_len (am_cons pm_var am_nil)) pm_int)) (am_cons (pm_callP (am_cons (pm_callP (am_cons pm_var (am_cons pm_int am_nil))) am_nil)) am_nil)))) sm_next) (sm_seq (sm_if (tm_test (pm_op (r2_eq (neg := false)) pm_var pm_int)) (sm_drop (pm_cellM cm_popAt pm_var (am_cons (pm_op r2_mod (pm_op r2_div pm_var pm_int) (pm_cb rc_len (am_cons pm_var am_nil))) am_nil))) sm_next) (sm_seq (sm_if (tm_test (pm_op (r2_eq (neg := false)) (pm_op r2_mod (pm_op r2_div pm_var pm_int) pm_int) pm_int)) (sm_set (pm_comp (b := true) (im_rng1 (am_cons (pm_op r2_mod (pm_op r2_div pm_var pm_int) pm_int) am_nil)) (gm_name (by decide)) tm_yes (pm_callP (am_cons (pm_callP (am_cons pm_var (am_cons pm_var am_nil))) am_nil)))) sm_next) (sm_seq (sm_set (pm_callQ (am_cons pm_var (am_cons pm_var am_nil)))) (sm_seq (sm_set (pm_callP (am_cons (pm_strM sr_split pm_var (am_cons pm_str am_nil)) am_nil))) (sm_seq (sm_set (pm_callP (am_cons pm_var am_nil))) (sm_seq (sm_set pm_str) (sm_seq (sm_set pm_non) (sm_seq (sm_try_many (fun W' => (sm_set (pm_callP (am_cons pm_var am_nil)))) (.cons (exF_BadNote_ok T) (sm_set pm_str) (.cons (exF_NoPipe_ok T) (sm_set pm_str) (.cons (exF_NoOrder_ok T) (sm_set pm_str) .nil)))) (sm_seq (sm_if (tm_test (pm_op (r2_eq (neg := true)) pm_var pm_var)) (sm_ret pm_bl) sm_next) (sm_seq (sm_if (tm_test (pm_op (r2_eq (neg := true)) pm_var pm_str)) (sm_ret (pm_callP (am_cons pm_var am_nil))) sm_next) (sm_ret (pm_andV (pm_isi (n := .tuple) pm_var) (pm_op (r2_eq (neg := false)) pm_var pm_var))))))))))))))))) h⟩
end
theorem all_mk {P : Program} {w : World} {K : PySem.W.Frag} {h : Heap} {mg : Str → Option Value} {fa : Addr} {f12 : Addr} {od12 an12 : Option Addr} {sl12 : Array (Option Value)} {oc12 kV12 dc12 pm12 cd12 ct12 : Value} {f13 : Addr} {od13 an13 : Option Addr} {sl13 : Array (Option Value)} {oc13 kV13 dc13 pm13 cd13 ct13 : Value} {f11 : Addr} {od11 an11 : Option Addr} {sl11 : Array (Option Value)} {oc11 kV11 dc11 pm11 cd11 ct11 : Value} {f10 : Addr} {od10 an10 : Option Addr} {sl10 : Array (Option Value)} {oc10 kV10 dc10 pm10 cd10 ct10 : Value} {f18 : Addr} {od18 an18 : Option Addr} {sl18 : Array (Option Value)} {oc18 kV18 dc18 pm18 cd18 ct18 : Value} {f17 : Addr} {od17 an17 : Option Addr} {sl17 : Array (Option Value)} {oc17 kV17 dc17 pm17 cd17 ct17 : Value} {f16 : Addr} {od16 an16 : Option Addr} {sl16 : Array (Option Value)} {oc16 kV16 dc16 pm16 cd16 ct16 : Value} {f15 : Addr} {od15 an15 : Option Addr} {sl15 : Array (Option Value)} {oc15 kV15 dc15 pm15 cd15 ct15 : Value} {f21 : Addr} {od21 an21 : Option Addr} {sl21 : Array (Option Value)} {oc21 kV21 dc21 pm21 cd21 ct21 : Value} {f22 : Addr} {od22 an22 : Option Addr} {sl22 : Array (Option Value)} {oc22 kV22 dc22 pm22 cd22 ct22 : Value} {f23 : Addr} {od23 an23 : Option Addr} {sl23 : Array (Option Value)} {oc23 kV23 dc23 pm23 cd23 ct23 : Value} {f24 : Addr} {od24 an24 : Option Addr} {sl24 : Array (Option Value)} {oc24 kV24 dc24 pm24 cd24 ct24 : Value} {f25 : Addr} {od25 an25 : Option Addr} {sl25 : Array (Option Value)} {oc25 kV25 dc25 pm25 cd25 ct25 : Value} {f26 : Addr} {od26 an26 : Option Addr} {sl26 : Array (Option Value)} {oc26 kV26 dc26 pm26 cd26 ct26 : Value} {f27 : Addr} {od27 an27 : Option Addr} {sl27 : Array (Option Value)} {oc27 kV27 dc27 pm27 cd27 ct27 : Value} {f28 : Addr} {od28 an28 : Option Addr} {sl28 : Array (Option Value)} {oc28 kV28 dc28 pm28 cd28 ct28 : Value} {f29 : Addr} {od29 an29 : Option Addr} {sl29 : Array (Option Value)} {oc29 kV29 dc29 pm29 cd29 ct29 : Value} {f31 : Addr} {od31 an31 : Option Addr} {sl31 : Array (Option Value)} {oc31 kV31 dc31 pm31 cd31 ct31 : Value} {f32 : Addr} {od32 an32 : Option Addr} {sl32 : Array (Option Value)} {oc32 kV32 dc32 pm32 cd32 ct32 : Value} {f30 : Addr} {od30 an30 : Option Addr} {sl30 : Array (Option Value)} {oc30 kV30 dc30 pm30 cd30 ct30 : Value} {t_MOST_ROOM : Tok} {f1 : Addr} {f2 : Addr} {f3 : Addr} {f4 : Addr} {f5 : Addr} {f6 : Addr} {f7 : Addr} (X : K.In h) (G : h.Ns mainGlobals mg) (hfa : mg "law" = some (.ref fa))
    (a12 : PySem.W.nsIn K mainGlobals "_is_pipe" = some (some (.ref f12))) (l12 : K.lookup f12 = some ⟨oc12, od12, .func (PySem.W.fnOf "_is_pipe" "_is_pipe" (defArgs s12) (defBody s12) (defScope s12) .none kV12 dc12 pm12 an12 cd12 ct12), sl12⟩) (c12 : PySem.W.codeIn K cd12 "_is_pipe" = true) (k12 : PySem.W.keepIn K (.ref f12) = true)
    (a13 : PySem.W.nsIn K mainGlobals "_is_order" = some (some (.ref f13))) (l13 : K.lookup f13 = some ⟨oc13, od13, .func (PySem.W.fnOf "_is_order" "_is_order" (defArgs s13) (defBody s13) (defScope s13) .none kV13 dc13 pm13 an13 cd13 ct13), sl13⟩) (c13 : PySem.W.codeIn K cd13 "_is_order" = true) (k13 : PySem.W.keepIn K (.ref f13) = true)
    (a11 : PySem.W.nsIn K mainGlobals "_copied" = some (some (.ref f11))) (l11 : K.lookup f11 = some ⟨oc11, od11, .func (PySem.W.fnOf "_copied" "_copied" (defArgs s11) (defBody s11) (defScope s11) .none kV11 dc11 pm11 an11 cd11 ct11), sl11⟩) (c11 : PySem.W.codeIn K cd11 "_copied" = true) (k11 : PySem.W.keepIn K (.ref f11) = true)
    (a10 : PySem.W.nsIn K mainGlobals "checked" = some (some (.ref f10))) (l10 : K.lookup f10 = some ⟨oc10, od10, .func (PySem.W.fnOf "checked" "checked" (defArgs s10) (defBody s10) (defScope s10) .none kV10 dc10 pm10 an10 cd10 ct10), sl10⟩) (c10 : PySem.W.codeIn K cd10 "checked" = true) (k10 : PySem.W.keepIn K (.ref f10) = true)
    (a18 : PySem.W.nsIn K mainGlobals "_is_count" = some (some (.ref f18))) (l18 : K.lookup f18 = some ⟨oc18, od18, .func (PySem.W.fnOf "_is_count" "_is_count" (defArgs s18) (defBody s18) (defScope s18) .none kV18 dc18 pm18 an18 cd18 ct18), sl18⟩) (c18 : PySem.W.codeIn K cd18 "_is_count" = true) (k18 : PySem.W.keepIn K (.ref f18) = true)
    (a17 : PySem.W.nsIn K mainGlobals "_is_number" = some (some (.ref f17))) (l17 : K.lookup f17 = some ⟨oc17, od17, .func (PySem.W.fnOf "_is_number" "_is_number" (defArgs s17) (defBody s17) (defScope s17) .none kV17 dc17 pm17 an17 cd17 ct17), sl17⟩) (c17 : PySem.W.codeIn K cd17 "_is_number" = true) (k17 : PySem.W.keepIn K (.ref f17) = true)
    (a16 : PySem.W.nsIn K mainGlobals "_is_line" = some (some (.ref f16))) (l16 : K.lookup f16 = some ⟨oc16, od16, .func (PySem.W.fnOf "_is_line" "_is_line" (defArgs s16) (defBody s16) (defScope s16) .none kV16 dc16 pm16 an16 cd16 ct16), sl16⟩) (c16 : PySem.W.codeIn K cd16 "_is_line" = true) (k16 : PySem.W.keepIn K (.ref f16) = true)
    (a15 : PySem.W.nsIn K mainGlobals "read" = some (some (.ref f15))) (l15 : K.lookup f15 = some ⟨oc15, od15, .func (PySem.W.fnOf "read" "read" (defArgs s15) (defBody s15) (defScope s15) .none kV15 dc15 pm15 an15 cd15 ct15), sl15⟩) (c15 : PySem.W.codeIn K cd15 "read" = true) (k15 : PySem.W.keepIn K (.ref f15) = true)
    (a21 : PySem.W.nsIn K mainGlobals "_law_cell_at" = some (some (.ref f21))) (l21 : K.lookup f21 = some ⟨oc21, od21, .func (PySem.W.fnOf "_law_cell_at" "_law_cell_at" (defArgs s21) (defBody s21) (defScope s21) .none kV21 dc21 pm21 an21 cd21 ct21), sl21⟩) (c21 : PySem.W.codeIn K cd21 "_law_cell_at" = true) (k21 : PySem.W.keepIn K (.ref f21) = true)
    (a22 : PySem.W.nsIn K mainGlobals "_law_figures" = some (some (.ref f22))) (l22 : K.lookup f22 = some ⟨oc22, od22, .func (PySem.W.fnOf "_law_figures" "_law_figures" (defArgs s22) (defBody s22) (defScope s22) .none kV22 dc22 pm22 an22 cd22 ct22), sl22⟩) (c22 : PySem.W.codeIn K cd22 "_law_figures" = true) (k22 : PySem.W.keepIn K (.ref f22) = true)
    (a23 : PySem.W.nsIn K mainGlobals "_law_signed" = some (some (.ref f23))) (l23 : K.lookup f23 = some ⟨oc23, od23, .func (PySem.W.fnOf "_law_signed" "_law_signed" (defArgs s23) (defBody s23) (defScope s23) .none kV23 dc23 pm23 an23 cd23 ct23), sl23⟩) (c23 : PySem.W.codeIn K cd23 "_law_signed" = true) (k23 : PySem.W.keepIn K (.ref f23) = true)
    (a24 : PySem.W.nsIn K mainGlobals "_law_net_of" = some (some (.ref f24))) (l24 : K.lookup f24 = some ⟨oc24, od24, .func (PySem.W.fnOf "_law_net_of" "_law_net_of" (defArgs s24) (defBody s24) (defScope s24) .none kV24 dc24 pm24 an24 cd24 ct24), sl24⟩) (c24 : PySem.W.codeIn K cd24 "_law_net_of" = true) (k24 : PySem.W.keepIn K (.ref f24) = true)
    (a25 : PySem.W.nsIn K mainGlobals "_law_due" = some (some (.ref f25))) (l25 : K.lookup f25 = some ⟨oc25, od25, .func (PySem.W.fnOf "_law_due" "_law_due" (defArgs s25) (defBody s25) (defScope s25) .none kV25 dc25 pm25 an25 cd25 ct25), sl25⟩) (c25 : PySem.W.codeIn K cd25 "_law_due" = true) (k25 : PySem.W.keepIn K (.ref f25) = true)
    (a26 : PySem.W.nsIn K mainGlobals "_law_odd_line" = some (some (.ref f26))) (l26 : K.lookup f26 = some ⟨oc26, od26, .func (PySem.W.fnOf "_law_odd_line" "_law_odd_line" (defArgs s26) (defBody s26) (defScope s26) .none kV26 dc26 pm26 an26 cd26 ct26), sl26⟩) (c26 : PySem.W.codeIn K cd26 "_law_odd_line" = true) (k26 : PySem.W.keepIn K (.ref f26) = true)
    (a27 : PySem.W.nsIn K mainGlobals "_law_lines_by" = some (some (.ref f27))) (l27 : K.lookup f27 = some ⟨oc27, od27, .func (PySem.W.fnOf "_law_lines_by" "_law_lines_by" (defArgs s27) (defBody s27) (defScope s27) .none kV27 dc27 pm27 an27 cd27 ct27), sl27⟩) (c27 : PySem.W.codeIn K cd27 "_law_lines_by" = true) (k27 : PySem.W.keepIn K (.ref f27) = true)
    (a28 : PySem.W.nsIn K mainGlobals "_law_sign_by" = some (some (.ref f28))) (l28 : K.lookup f28 = some ⟨oc28, od28, .func (PySem.W.fnOf "_law_sign_by" "_law_sign_by" (defArgs s28) (defBody s28) (defScope s28) .none kV28 dc28 pm28 an28 cd28 ct28), sl28⟩) (c28 : PySem.W.codeIn K cd28 "_law_sign_by" = true) (k28 : PySem.W.keepIn K (.ref f28) = true)
    (a29 : PySem.W.nsIn K mainGlobals "_law_text_by" = some (some (.ref f29))) (l29 : K.lookup f29 = some ⟨oc29, od29, .func (PySem.W.fnOf "_law_text_by" "_law_text_by" (defArgs s29) (defBody s29) (defScope s29) .none kV29 dc29 pm29 an29 cd29 ct29), sl29⟩) (c29 : PySem.W.codeIn K cd29 "_law_text_by" = true) (k29 : PySem.W.keepIn K (.ref f29) = true)
    (a31 : PySem.W.nsIn K mainGlobals "_law_refused_by_any" = some (some (.ref f31))) (l31 : K.lookup f31 = some ⟨oc31, od31, .func (PySem.W.fnOf "_law_refused_by_any" "_law_refused_by_any" (defArgs s31) (defBody s31) (defScope s31) .none kV31 dc31 pm31 an31 cd31 ct31), sl31⟩) (c31 : PySem.W.codeIn K cd31 "_law_refused_by_any" = true) (k31 : PySem.W.keepIn K (.ref f31) = true)
    (a32 : PySem.W.nsIn K mainGlobals "law" = some (some (.ref f32))) (l32 : K.lookup f32 = some ⟨oc32, od32, .func (PySem.W.fnOf "law" "law" (defArgs s32) (defBody s32) (defScope s32) .none kV32 dc32 pm32 an32 cd32 ct32), sl32⟩) (c32 : PySem.W.codeIn K cd32 "law" = true) (k32 : PySem.W.keepIn K (.ref f32) = true)
    (a30 : PySem.W.nsIn K mainGlobals "_law_alone" = some (some (.ref f30))) (l30 : K.lookup f30 = some ⟨oc30, od30, .func (PySem.W.fnOf "_law_alone" "_law_alone" (defArgs s30) (defBody s30) (defScope s30) .none kV30 dc30 pm30 an30 cd30 ct30), sl30⟩) (c30 : PySem.W.codeIn K cd30 "_law_alone" = true) (k30 : PySem.W.keepIn K (.ref f30) = true)
    (z_ValueError : PySem.W.nsIn K mainGlobals "ValueError" = some none)
    (z_all : PySem.W.nsIn K mainGlobals "all" = some none)
    (z_enumerate : PySem.W.nsIn K mainGlobals "enumerate" = some none)
    (z_int : PySem.W.nsIn K mainGlobals "int" = some none)
    (z_isinstance : PySem.W.nsIn K mainGlobals "isinstance" = some none)
    (z_len : PySem.W.nsIn K mainGlobals "len" = some none)
    (z_list : PySem.W.nsIn K mainGlobals "list" = some none)
    (z_min : PySem.W.nsIn K mainGlobals "min" = some none)
    (z_range : PySem.W.nsIn K mainGlobals "range" = some none)
    (z_str : PySem.W.nsIn K mainGlobals "str" = some none)
    (z_tuple : PySem.W.nsIn K mainGlobals "tuple" = some none)
    (c_MOST_ROOM : PySem.W.nsIn K mainGlobals "MOST_ROOM" = some (some (.int 1000 t_MOST_ROOM)))
    (gc_NetError : PySem.W.nsIn K mainGlobals "NetError" = some (some (.ref f1)))
    (gc_NoPipe : PySem.W.nsIn K mainGlobals "NoPipe" = some (some (.ref f2)))
    (gc_NoOrder : PySem.W.nsIn K mainGlobals "NoOrder" = some (some (.ref f3)))
    (gc_NoWorker : PySem.W.nsIn K mainGlobals "NoWorker" = some (some (.ref f4)))
    (gc_IsThrough : PySem.W.nsIn K mainGlobals "IsThrough" = some (some (.ref f5)))
    (gc_HasToWait : PySem.W.nsIn K mainGlobals "HasToWait" = some (some (.ref f6)))
    (gc_BadNote : PySem.W.nsIn K mainGlobals "BadNote" = some (some (.ref f7)))
    (kc_NoPipe : PySem.W.keepIn K (.ref f2) = true)
    (xc_NoPipe : PySem.W.excIn K f2 [PySem.Value.type "ValueError", PySem.Value.type "Exception", PySem.Value.type "BaseException", PySem.Value.type "object"] "ValueError.__new__" = true)
    (bc_NoPipe : PySem.W.subIn K (.ref f2) (.type "BaseException") = some true)
    (tc_NoPipe : PySem.W.typeIn K (.ref f2) = some (.type "type"))
    (kc_NoOrder : PySem.W.keepIn K (.ref f3) = true)
    (xc_NoOrder : PySem.W.excIn K f3 [PySem.Value.type "ValueError", PySem.Value.type "Exception", PySem.Value.type "BaseException", PySem.Value.type "object"] "ValueError.__new__" = true)
    (bc_NoOrder : PySem.W.subIn K (.ref f3) (.type "BaseException") = some true)
    (tc_NoOrder : PySem.W.typeIn K (.ref f3) = some (.type "type"))
    (kc_BadNote : PySem.W.keepIn K (.ref f7) = true)
    (xc_BadNote : PySem.W.excIn K f7 [PySem.Value.type "ValueError", PySem.Value.type "Exception", PySem.Value.type "BaseException", PySem.Value.type "object"] "ValueError.__new__" = true)
    (bc_BadNote : PySem.W.subIn K (.ref f7) (.type "BaseException") = some true)
    (tc_BadNote : PySem.W.typeIn K (.ref f7) = some (.type "type"))
    (tc_NetError : PySem.W.typeIn K (.ref f1) = some (.type "type"))
    (bc_NetError : PySem.W.subIn K (.ref f1) (.type "BaseException") = some true)
    (ic_NetError : PySem.W.isClsIn K f1 = true)
    (ic_NoPipe : PySem.W.isClsIn K f2 = true)
    (ic_NoOrder : PySem.W.isClsIn K f3 = true)
    (tc_NoWorker : PySem.W.typeIn K (.ref f4) = some (.type "type"))
    (ic_NoWorker : PySem.W.isClsIn K f4 = true)
    (tc_IsThrough : PySem.W.typeIn K (.ref f5) = some (.type "type"))
    (ic_IsThrough : PySem.W.isClsIn K f5 = true)
    (tc_HasToWait : PySem.W.typeIn K (.ref f6) = some (.type "type"))
    (ic_HasToWait : PySem.W.isClsIn K f6 = true)
    (ic_BadNote : PySem.W.isClsIn K f7 = true)
    (su_NoPipe_NetError : PySem.W.subIn K (.ref f2) (.ref f1) = some true)
    (su_NoPipe_NoPipe : PySem.W.subIn K (.ref f2) (.ref f2) = some true)
    (su_NoPipe_NoOrder : PySem.W.subIn K (.ref f2) (.ref f3) = some false)
    (su_NoPipe_NoWorker : PySem.W.subIn K (.ref f2) (.ref f4) = some false)
    (su_NoPipe_IsThrough : PySem.W.subIn K (.ref f2) (.ref f5) = some false)
    (su_NoPipe_HasToWait : PySem.W.subIn K (.ref f2) (.ref f6) = some false)
    (su_NoPipe_BadNote : PySem.W.subIn K (.ref f2) (.ref f7) = some false)
    (su_NoPipe_ValueError : PySem.W.subIn K (.ref f2) (.type "ValueError") = some true)
    (su_NoOrder_NetError : PySem.W.subIn K (.ref f3) (.ref f1) = some true)
    (su_NoOrder_NoPipe : PySem.W.subIn K (.ref f3) (.ref f2) = some false)
    (su_NoOrder_NoOrder : PySem.W.subIn K (.ref f3) (.ref f3) = some true)
    (su_NoOrder_NoWorker : PySem.W.subIn K (.ref f3) (.ref f4) = some false)
    (su_NoOrder_IsThrough : PySem.W.subIn K (.ref f3) (.ref f5) = some false)
    (su_NoOrder_HasToWait : PySem.W.subIn K (.ref f3) (.ref f6) = some false)
    (su_NoOrder_BadNote : PySem.W.subIn K (.ref f3) (.ref f7) = some false)
    (su_NoOrder_ValueError : PySem.W.subIn K (.ref f3) (.type "ValueError") = some true)
    (su_BadNote_NetError : PySem.W.subIn K (.ref f7) (.ref f1) = some true)
    (su_BadNote_NoPipe : PySem.W.subIn K (.ref f7) (.ref f2) = some false)
    (su_BadNote_NoOrder : PySem.W.subIn K (.ref f7) (.ref f3) = some false)
    (su_BadNote_NoWorker : PySem.W.subIn K (.ref f7) (.ref f4) = some false)
    (su_BadNote_IsThrough : PySem.W.subIn K (.ref f7) (.ref f5) = some false)
    (su_BadNote_HasToWait : PySem.W.subIn K (.ref f7) (.ref f6) = some false)
    (su_BadNote_BadNote : PySem.W.subIn K (.ref f7) (.ref f7) = some true)
    (su_BadNote_ValueError : PySem.W.subIn K (.ref f7) (.type "ValueError") = some true)
    (hg_NoPipe : PySem.W.findIn K (.ref f2) "__getattribute__" = some (some (.builtin "BaseException.__getattribute__")))
    (hk_NoPipe : PySem.W.findIn K (.ref f2) "__getattr__" = some none)
    (hs_NoPipe : PySem.W.subIn K (.ref f2) (.type "BaseException") = some true)
    (hd_NoPipe : PySem.W.hasDictIn K f2 = true)
    (ha_NoPipe : PySem.W.findIn K (.ref f2) "__class__" = some (some (.builtin "object.__class__")))
    (hn_NoPipe : PySem.W.specialIn K (.builtin "object.__class__") "__get__" = some (some (.builtin "getset_descriptor.__get__")))
    (ht_NoPipe : PySem.W.takesIn K (.builtin "object.__class__") = some true)
    (hm_NoPipe : PySem.W.mroIn K f2 (.type "object") = some true)
    (hg_NoOrder : PySem.W.findIn K (.ref f3) "__getattribute__" = some (some (.builtin "BaseException.__getattribute__")))
    (hk_NoOrder : PySem.W.findIn K (.ref f3) "__getattr__" = some none)
    (hs_NoOrder : PySem.W.subIn K (.ref f3) (.type "BaseException") = some true)
    (hd_NoOrder : PySem.W.hasDictIn K f3 = true)
    (ha_NoOrder : PySem.W.findIn K (.ref f3) "__class__" = some (some (.builtin "object.__class__")))
    (hm_NoOrder : PySem.W.mroIn K f3 (.type "object") = some true)
    (hg_BadNote : PySem.W.findIn K (.ref f7) "__getattribute__" = some (some (.builtin "BaseException.__getattribute__")))
    (hk_BadNote : PySem.W.findIn K (.ref f7) "__getattr__" = some none)
    (hs_BadNote : PySem.W.subIn K (.ref f7) (.type "BaseException") = some true)
    (hd_BadNote : PySem.W.hasDictIn K f7 = true)
    (ha_BadNote : PySem.W.findIn K (.ref f7) "__class__" = some (some (.builtin "object.__class__")))
    (hm_BadNote : PySem.W.mroIn K f7 (.type "object") = some true) :
    ∃ fd : FuncData, (∀ (s : Shared) (v : Value), BindsTo s fd ⟨[v], []⟩ [("_law_script", v)]) ∧ ∀ base : Heap, K.In base → base.Ns mainGlobals mg → FnOk P w K mg base (L2N.CX P w) 6 fa fd ["_law_script"] (spL K law) := by
  have e := hfa.symm.trans (PySem.W.mg_of X G a32)
  cases e
  let A : Nat → Addr := fun i => match i with
    | 12 => f12
    | 13 => f13
    | 11 => f11
    | 10 => f10
    | 18 => f18
    | 17 => f17
    | 16 => f16
    | 15 => f15
    | 21 => f21
    | 22 => f22
    | 23 => f23
    | 24 => f24
    | 25 => f25
    | 26 => f26
    | 27 => f27
    | 28 => f28
    | 29 => f29
    | 31 => f31
    | 32 => fa
    | 30 => f30
    | 1 => f1
    | 2 => f2
    | 3 => f3
    | 4 => f4
    | 5 => f5
    | 6 => f6
    | 7 => f7
    | _ => 0
  let CL : Nat → Value := fun c => match c with
    | 1 => .ref f2
    | 2 => .ref f3
    | 3 => .ref f7
    | _ => .none
  let D : Nat → FuncData := fun i => match i with
    | 12 => PySem.W.fnOf "_is_pipe" "_is_pipe" (defArgs s12) (defBody s12) (defScope s12) .none kV12 dc12 pm12 an12 cd12 ct12
    | 13 => PySem.W.fnOf "_is_order" "_is_order" (defArgs s13) (defBody s13) (defScope s13) .none kV13 dc13 pm13 an13 cd13 ct13
    | 11 => PySem.W.fnOf "_copied" "_copied" (defArgs s11) (defBody s11) (defScope s11) .none kV11 dc11 pm11 an11 cd11 ct11
    | 10 => PySem.W.fnOf "checked" "checked" (defArgs s10) (defBody s10) (defScope s10) .none kV10 dc10 pm10 an10 cd10 ct10
    | 18 => PySem.W.fnOf "_is_count" "_is_count" (defArgs s18) (defBody s18) (defScope s18) .none kV18 dc18 pm18 an18 cd18 ct18
    | 17 => PySem.W.fnOf "_is_number" "_is_number" (defArgs s17) (defBody s17) (defScope s17) .none kV17 dc17 pm17 an17 cd17 ct17
    | 16 => PySem.W.fnOf "_is_line" "_is_line" (defArgs s16) (defBody s16) (defScope s16) .none kV16 dc16 pm16 an16 cd16 ct16
    | 15 => PySem.W.fnOf "read" "read" (defArgs s15) (defBody s15) (defScope s15) .none kV15 dc15 pm15 an15 cd15 ct15
    | 21 => PySem.W.fnOf "_law_cell_at" "_law_cell_at" (defArgs s21) (defBody s21) (defScope s21) .none kV21 dc21 pm21 an21 cd21 ct21
    | 22 => PySem.W.fnOf "_law_figures" "_law_figures" (defArgs s22) (defBody s22) (defScope s22) .none kV22 dc22 pm22 an22 cd22 ct22
    | 23 => PySem.W.fnOf "_law_signed" "_law_signed" (defArgs s23) (defBody s23) (defScope s23) .none kV23 dc23 pm23 an23 cd23 ct23
    | 24 => PySem.W.fnOf "_law_net_of" "_law_net_of" (defArgs s24) (defBody s24) (defScope s24) .none kV24 dc24 pm24 an24 cd24 ct24
    | 25 => PySem.W.fnOf "_law_due" "_law_due" (defArgs s25) (defBody s25) (defScope s25) .none kV25 dc25 pm25 an25 cd25 ct25
    | 26 => PySem.W.fnOf "_law_odd_line" "_law_odd_line" (defArgs s26) (defBody s26) (defScope s26) .none kV26 dc26 pm26 an26 cd26 ct26
    | 27 => PySem.W.fnOf "_law_lines_by" "_law_lines_by" (defArgs s27) (defBody s27) (defScope s27) .none kV27 dc27 pm27 an27 cd27 ct27
    | 28 => PySem.W.fnOf "_law_sign_by" "_law_sign_by" (defArgs s28) (defBody s28) (defScope s28) .none kV28 dc28 pm28 an28 cd28 ct28
    | 29 => PySem.W.fnOf "_law_text_by" "_law_text_by" (defArgs s29) (defBody s29) (defScope s29) .none kV29 dc29 pm29 an29 cd29 ct29
    | 31 => PySem.W.fnOf "_law_refused_by_any" "_law_refused_by_any" (defArgs s31) (defBody s31) (defScope s31) .none kV31 dc31 pm31 an31 cd31 ct31
    | 32 => PySem.W.fnOf "law" "law" (defArgs s32) (defBody s32) (defScope s32) .none kV32 dc32 pm32 an32 cd32 ct32
    | 30 => PySem.W.fnOf "_law_alone" "_law_alone" (defArgs s30) (defBody s30) (defScope s30) .none kV30 dc30 pm30 an30 cd30 ct30
    | _ => PySem.W.fnOf "law" "law" (defArgs s32) (defBody s32) (defScope s32) .none kV32 dc32 pm32 an32 cd32 ct32
  have T : Txt K mg A D CL := {
    F12 := fun_mk (st := s12) l12 c12 k12
    b12 := (fun_mk (st := s12) l12 c12 k12).binds (ps := ["pipe", "workers"]) fun _ _ _ _ _ _ us hl => match us, hl with | [_, _], _ => rfl
    g12 := PySem.W.mg_of X G a12
    F13 := fun_mk (st := s13) l13 c13 k13
    b13 := (fun_mk (st := s13) l13 c13 k13).binds (ps := ["order", "pipes", "who"]) fun _ _ _ _ _ _ us hl => match us, hl with | [_, _, _], _ => rfl
    g13 := PySem.W.mg_of X G a13
    F11 := fun_mk (st := s11) l11 c11 k11
    b11 := (fun_mk (st := s11) l11 c11 k11).binds (ps := ["pipes", "rows"]) fun _ _ _ _ _ _ us hl => match us, hl with | [_, _], _ => rfl
    g11 := PySem.W.mg_of X G a11
    F10 := fun_mk (st := s10) l10 c10 k10
    b10 := (fun_mk (st := s10) l10 c10 k10).binds (ps := ["net"]) fun _ _ _ _ _ _ us hl => match us, hl with | [_], _ => rfl
    g10 := PySem.W.mg_of X G a10
    F18 := fun_mk (st := s18) l18 c18 k18
    b18 := (fun_mk (st := s18) l18 c18 k18).binds (ps := ["part"]) fun _ _ _ _ _ _ us hl => match us, hl with | [_], _ => rfl
    g18 := PySem.W.mg_of X G a18
    F17 := fun_mk (st := s17) l17 c17 k17
    b17 := (fun_mk (st := s17) l17 c17 k17).binds (ps := ["part"]) fun _ _ _ _ _ _ us hl => match us, hl with | [_], _ => rfl
    g17 := PySem.W.mg_of X G a17
    F16 := fun_mk (st := s16) l16 c16 k16
    b16 := (fun_mk (st := s16) l16 c16 k16).binds (ps := ["word", "parts", "workers"]) fun _ _ _ _ _ _ us hl => match us, hl with | [_, _, _], _ => rfl
    g16 := PySem.W.mg_of X G a16
    F15 := fun_mk (st := s15) l15 c15 k15
    b15 := (fun_mk (st := s15) l15 c15 k15).binds (ps := ["text"]) fun _ _ _ _ _ _ us hl => match us, hl with | [_], _ => rfl
    g15 := PySem.W.mg_of X G a15
    F21 := fun_mk (st := s21) l21 c21 k21
    b21 := (fun_mk (st := s21) l21 c21 k21).binds (ps := ["_law_script", "_law_k"]) fun _ _ _ _ _ _ us hl => match us, hl with | [_, _], _ => rfl
    g21 := PySem.W.mg_of X G a21
    F22 := fun_mk (st := s22) l22 c22 k22
    b22 := (fun_mk (st := s22) l22 c22 k22).binds (ps := ["_law_word"]) fun _ _ _ _ _ _ us hl => match us, hl with | [_], _ => rfl
    g22 := PySem.W.mg_of X G a22
    F23 := fun_mk (st := s23) l23 c23 k23
    b23 := (fun_mk (st := s23) l23 c23 k23).binds (ps := ["_law_word"]) fun _ _ _ _ _ _ us hl => match us, hl with | [_], _ => rfl
    g23 := PySem.W.mg_of X G a23
    F24 := fun_mk (st := s24) l24 c24 k24
    b24 := (fun_mk (st := s24) l24 c24 k24).binds (ps := ["_law_lines"]) fun _ _ _ _ _ _ us hl => match us, hl with | [_], _ => rfl
    g24 := PySem.W.mg_of X G a24
    F25 := fun_mk (st := s25) l25 c25 k25
    b25 := (fun_mk (st := s25) l25 c25 k25).binds (ps := ["_law_net"]) fun _ _ _ _ _ _ us hl => match us, hl with | [_], _ => rfl
    g25 := PySem.W.mg_of X G a25
    F26 := fun_mk (st := s26) l26 c26 k26
    b26 := (fun_mk (st := s26) l26 c26 k26).binds (ps := ["_law_cell"]) fun _ _ _ _ _ _ us hl => match us, hl with | [_], _ => rfl
    g26 := PySem.W.mg_of X G a26
    F27 := fun_mk (st := s27) l27 c27 k27
    b27 := (fun_mk (st := s27) l27 c27 k27).binds (ps := ["_law_script"]) fun _ _ _ _ _ _ us hl => match us, hl with | [_], _ => rfl
    g27 := PySem.W.mg_of X G a27
    F28 := fun_mk (st := s28) l28 c28 k28
    b28 := (fun_mk (st := s28) l28 c28 k28).binds (ps := ["_law_cell"]) fun _ _ _ _ _ _ us hl => match us, hl with | [_], _ => rfl
    g28 := PySem.W.mg_of X G a28
    F29 := fun_mk (st := s29) l29 c29 k29
    b29 := (fun_mk (st := s29) l29 c29 k29).binds (ps := ["_law_script", "_law_lines"]) fun _ _ _ _ _ _ us hl => match us, hl with | [_, _], _ => rfl
    g29 := PySem.W.mg_of X G a29
    F31 := fun_mk (st := s31) l31 c31 k31
    b31 := (fun_mk (st := s31) l31 c31 k31).binds (ps := ["_law_text"]) fun _ _ _ _ _ _ us hl => match us, hl with | [_], _ => rfl
    g31 := PySem.W.mg_of X G a31
    F32 := fun_mk (st := s32) l32 c32 k32
    b32 := (fun_mk (st := s32) l32 c32 k32).binds (ps := ["_law_script"]) fun _ _ _ _ _ _ us hl => match us, hl with | [_], _ => rfl
    g32 := PySem.W.mg_of X G a32
    F30 := fun_mk (st := s30) l30 c30 k30
    b30 := (fun_mk (st := s30) l30 c30 k30).binds (ps := ["_law_e"]) fun _ _ _ _ _ _ us hl => match us, hl with | [_], _ => rfl
    g30 := PySem.W.mg_of X G a30
    z_ValueError := PySem.W.mg_none_of X G z_ValueError
    z_all := PySem.W.mg_none_of X G z_all
    z_enumerate := PySem.W.mg_none_of X G z_enumerate
    z_int := PySem.W.mg_none_of X G z_int
    z_isinstance := PySem.W.mg_none_of X G z_isinstance
    z_len := PySem.W.mg_none_of X G z_len
    z_list := PySem.W.mg_none_of X G z_list
    z_min := PySem.W.mg_none_of X G z_min
    z_range := PySem.W.mg_none_of X G z_range
    z_str := PySem.W.mg_none_of X G z_str
    z_tuple := PySem.W.mg_none_of X G z_tuple
    c_MOST_ROOM := ⟨_, PySem.W.mg_of X G c_MOST_ROOM⟩
    gc_NetError := PySem.W.mg_of X G gc_NetError
    gc_NoPipe := PySem.W.mg_of X G gc_NoPipe
    gc_NoOrder := PySem.W.mg_of X G gc_NoOrder
    gc_NoWorker := PySem.W.mg_of X G gc_NoWorker
    gc_IsThrough := PySem.W.mg_of X G gc_IsThrough
    gc_HasToWait := PySem.W.mg_of X G gc_HasToWait
    gc_BadNote := PySem.W.mg_of X G gc_BadNote
    kc_NoPipe := kc_NoPipe
    xc_NoPipe := xc_NoPipe
    bc_NoPipe := bc_NoPipe
    tc_NoPipe := tc_NoPipe
    kc_NoOrder := kc_NoOrder
    xc_NoOrder := xc_NoOrder
    bc_NoOrder := bc_NoOrder
    tc_NoOrder := tc_NoOrder
    kc_BadNote := kc_BadNote
    xc_BadNote := xc_BadNote
    bc_BadNote := bc_BadNote
    tc_BadNote := tc_BadNote
    hm_NoPipe_BadNote := exm_own bc_BadNote ic_BadNote tc_BadNote su_NoPipe_BadNote
    hm_NoPipe_NetError := exm_own bc_NetError ic_NetError tc_NetError su_NoPipe_NetError
    hm_NoPipe_NoOrder := exm_own bc_NoOrder ic_NoOrder tc_NoOrder su_NoPipe_NoOrder
    hm_NoPipe_NoPipe := exm_own bc_NoPipe ic_NoPipe tc_NoPipe su_NoPipe_NoPipe
    ki_NoPipe_NoWorker := kit_own ic_NoWorker tc_NoWorker su_NoPipe_NoWorker su_NoPipe_NoPipe
    ki_NoPipe_IsThrough := kit_own ic_IsThrough tc_IsThrough su_NoPipe_IsThrough su_NoPipe_NoPipe
    ki_NoPipe_HasToWait := kit_own ic_HasToWait tc_HasToWait su_NoPipe_HasToWait su_NoPipe_NoPipe
    ki_NoPipe_NoPipe := kit_own ic_NoPipe tc_NoPipe su_NoPipe_NoPipe su_NoPipe_NoPipe
    ki_NoPipe_NoOrder := kit_own ic_NoOrder tc_NoOrder su_NoPipe_NoOrder su_NoPipe_NoPipe
    ki_NoPipe_BadNote := kit_own ic_BadNote tc_BadNote su_NoPipe_BadNote su_NoPipe_NoPipe
    ki_NoPipe_NetError := kit_own ic_NetError tc_NetError su_NoPipe_NetError su_NoPipe_NoPipe
    ki_NoPipe_ValueError := kit_blt su_NoPipe_ValueError (by decide +kernel)
    hm_NoOrder_BadNote := exm_own bc_BadNote ic_BadNote tc_BadNote su_NoOrder_BadNote
    hm_NoOrder_NetError := exm_own bc_NetError ic_NetError tc_NetError su_NoOrder_NetError
    hm_NoOrder_NoOrder := exm_own bc_NoOrder ic_NoOrder tc_NoOrder su_NoOrder_NoOrder
    hm_NoOrder_NoPipe := exm_own bc_NoPipe ic_NoPipe tc_NoPipe su_NoOrder_NoPipe
    ki_NoOrder_NoWorker := kit_own ic_NoWorker tc_NoWorker su_NoOrder_NoWorker su_NoOrder_NoOrder
    ki_NoOrder_IsThrough := kit_own ic_IsThrough tc_IsThrough su_NoOrder_IsThrough su_NoOrder_NoOrder
    ki_NoOrder_HasToWait := kit_own ic_HasToWait tc_HasToWait su_NoOrder_HasToWait su_NoOrder_NoOrder
    ki_NoOrder_NoPipe := kit_own ic_NoPipe tc_NoPipe su_NoOrder_NoPipe su_NoOrder_NoOrder
    ki_NoOrder_NoOrder := kit_own ic_NoOrder tc_NoOrder su_NoOrder_NoOrder su_NoOrder_NoOrder
    ki_NoOrder_BadNote := kit_own ic_BadNote tc_BadNote su_NoOrder_BadNote su_NoOrder_NoOrder
    ki_NoOrder_NetError := kit_own ic_NetError tc_NetError su_NoOrder_NetError su_NoOrder_NoOrder
    ki_NoOrder_ValueError := kit_blt su_NoOrder_ValueError (by decide +kernel)
    hm_BadNote_BadNote := exm_own bc_BadNote ic_BadNote tc_BadNote su_BadNote_BadNote
    hm_BadNote_NetError := exm_own bc_NetError ic_NetError tc_NetError su_BadNote_NetError
    hm_BadNote_NoOrder := exm_own bc_NoOrder ic_NoOrder tc_NoOrder su_BadNote_NoOrder
    hm_BadNote_NoPipe := exm_own bc_NoPipe ic_NoPipe tc_NoPipe su_BadNote_NoPipe
    ki_BadNote_NoWorker := kit_own ic_NoWorker tc_NoWorker su_BadNote_NoWorker su_BadNote_BadNote
    ki_BadNote_IsThrough := kit_own ic_IsThrough tc_IsThrough su_BadNote_IsThrough su_BadNote_BadNote
    ki_BadNote_HasToWait := kit_own ic_HasToWait tc_HasToWait su_BadNote_HasToWait su_BadNote_BadNote
    ki_BadNote_NoPipe := kit_own ic_NoPipe tc_NoPipe su_BadNote_NoPipe su_BadNote_BadNote
    ki_BadNote_NoOrder := kit_own ic_NoOrder tc_NoOrder su_BadNote_NoOrder su_BadNote_BadNote
    ki_BadNote_BadNote := kit_own ic_BadNote tc_BadNote su_BadNote_BadNote su_BadNote_BadNote
    ki_BadNote_NetError := kit_own ic_NetError tc_NetError su_BadNote_NetError su_BadNote_BadNote
    ki_BadNote_ValueError := kit_blt su_BadNote_ValueError (by decide +kernel)
    e_NoPipe := rfl
    ec_NoPipe := ⟨hg_NoPipe, hk_NoPipe, hs_NoPipe, hd_NoPipe, ha_NoPipe, hn_NoPipe, ht_NoPipe, hm_NoPipe⟩
    e_NoOrder := rfl
    ec_NoOrder := ⟨hg_NoOrder, hk_NoOrder, hs_NoOrder, hd_NoOrder, ha_NoOrder, hn_NoPipe, ht_NoPipe, hm_NoOrder⟩
    e_BadNote := rfl
    ec_BadNote := ⟨hg_BadNote, hk_BadNote, hs_BadNote, hd_BadNote, ha_BadNote, hn_NoPipe, ht_NoPipe, hm_BadNote⟩
  }
  exact ⟨PySem.W.fnOf "law" "law" (defArgs s32) (defBody s32) (defScope s32) .none kV32 dc32 pm32 an32 cd32 ct32, fun s v => .of_eq rfl, fun base _ _ => FnOk.imp (ok_law (cl := CL) T) spL_of⟩
end LW

set_option Elab.async false
set_option linter.all false
set_option maxRecDepth 100000
set_option maxHeartbeats 2000000
set_option exponentiation.threshold 300
namespace LW
open PySem PySem.W PD
local macro_rules | `(tactic| walk_at "ev") => `(tactic| simp (disch := first | assumption | decide | omega) only [ret_bind, opt_some, look_some, mVar_0, mVar_s, mC_ev, mOp2_ev, mOp1_ev, mNil_ev, mCons_ev, mCB_ev, mTest_ev, isB_ev, mAnd_ev, mOr_ev, mNot_ev, mAndV_ev, mOrV_ev, mNotV_ev, mIf_ev, mChain_ev, mTru_ev, truM_b, mTup_ev, mLst_ev,
  mkL_nil, mkL_1, mkL_2, mkL_3, mkL_4, mkT_2, mkT_3, mkT_4, mI2_ev, mI1_ev, fMod_ev, fDiv_ev, fPow_ev, mAdd_i, mMul_i, mEq_int, mEq_str, mEq_bool, mIx_l, mIx_t, mIx_s, mLen_l, mLen_t, mLen_s, mI2L_ev, mIsi_ev, isiM, kindM, isiT, liftR_ok, mCallP_ev,
  mSeq_ev, sbind_nx, sbind_rt, sbind_ct, sbind_bk, sbind_ex, withV_ret, asg_some, mAsg_name, mNext_ev, mCont_ev, mBreak_ev, mRetN_ev, mRaise_ev, mRet_ev, mDrop_ev, mIfS_ev, atI_0, atI_1, atI_2, atI_3,
  start_ev, List.map_cons, List.map_nil, List.length_cons, List.length_nil, Nat.reduceAdd, Nat.reduceSub, Nat.zero_add, List.replicate_succ, List.replicate_zero, List.cons_append, List.nil_append, List.append_nil, List.set_cons_zero, List.set_cons_succ, Nat.reduceLeDiff, if_true, if_false, Bool.false_eq_true, Bool.true_eq_false, Bool.not_true, Bool.not_false, decide_eq_true_eq, decide_true, decide_false, Bool.and_true, Bool.true_and, Bool.and_false, Bool.false_and, Bool.or_true, Bool.or_false, Bool.true_or, Bool.false_or, List.all_cons, List.all_nil, cf, and_self, and_true, true_and, Nat.le_refl, Option.map_some, reduceCtorEq])
abbrev Pipe := T3 Int Int Int
abbrev Ord := Str × Int
abbrev Net := List Pipe × List (List Ord)
abbrev Rows := List (List Ord)
theorem cell_at_in {ns : List Int} {k : Nat} (h : k < ns.length) : l_cell_at [.scr ns, .sh (.int k)] = some (.ok (.int ns[k])) := by
  refine bodyP_rt ?_
  unfold m_l_cell_at
  have e : L2.atI ns (k : Int) = some ns[k] := L2.atI_nat (List.getElem?_eq_getElem h)
  have h' : (k : Int) < (ns.length : Int) := by omega
  walk_at "ev"
  simp only [h', if_true, e, opt_some, Option.map_some, withV_ret, sbind_rt]
theorem cell_at_out {ns : List Int} {k : Nat} (h : ns.length ≤ k) : l_cell_at [.scr ns, .sh (.int k)] = some (.ok (.int 0)) := by
  refine bodyP_rt ?_
  unfold m_l_cell_at
  have h' : ¬ (k : Int) < (ns.length : Int) := by omega
  walk_at "ev"
  simp only [h', if_false, sbind_nx]
  walk_at "ev"
def Bits (ns : List Int) : Prop := ∀ z ∈ ns, Builtin.Int.intBits z ≤ 1048576
theorem cell_at_ok {ns : List Int} (hb : Bits ns) (k : Nat) : ∃ c, Bd 1048577 c ∧ l_cell_at [.scr ns, .sh (.int k)] = some (.ok (.int c)) := by
  by_cases h : k < ns.length
  · exact ⟨ns[k], bd_bits (hb _ (List.getElem_mem h)), cell_at_in h⟩
  · exact ⟨0, Bd.mono (n := 20) (by unfold Bd; decide) (by decide), cell_at_out (by omega)⟩
def encO (o : Ord) : MV := .sh (Datum.toD o)
theorem tup_ev {δ : Sl} {a b : Sl → M MV} {x : Str} {k : Int} (ha : a δ = M.ret (.sh (.str x))) (hb : b δ = M.ret (.sh (.int k))) : mTup (mCons a (mCons b mNil)) δ = M.ret (encO (x, k)) := by
  rw [mTup_ev, mCons_ev, ha, mCons_ev, hb]
  rfl
end LW

set_option Elab.async false
set_option linter.all false
set_option maxRecDepth 100000
set_option maxHeartbeats 2000000
set_option exponentiation.threshold 300
namespace LW
open PySem PySem.W PD
local macro_rules | `(tactic| walk_at "ev") => `(tactic| simp (disch := first | assumption | decide | omega) only [ret_bind, opt_some, look_some, mVar_0, mVar_s, mC_ev, mOp2_ev, mOp1_ev, mNil_ev, mCons_ev, mCB_ev, mTest_ev, isB_ev, mAnd_ev, mOr_ev, mNot_ev, mAndV_ev, mOrV_ev, mNotV_ev, mIf_ev, mChain_ev, mTru_ev, truM_b, mTup_ev, mLst_ev,
  mkL_nil, mkL_1, mkL_2, mkL_3, mkL_4, mkT_2, mkT_3, mkT_4, mI2_ev, mI1_ev, fMod_ev, fDiv_ev, fPow_ev, mAdd_i, mMul_i, mEq_int, mEq_str, mEq_bool, mIx_l, mIx_t, mIx_s, mLen_l, mLen_t, mLen_s, mI2L_ev, mIsi_ev, isiM, kindM, isiT, liftR_ok, mCallP_ev,
  mSeq_ev, sbind_nx, sbind_rt, sbind_ct, sbind_bk, sbind_ex, withV_ret, asg_some, mAsg_name, mNext_ev, mCont_ev, mBreak_ev, mRetN_ev, mRaise_ev, mRet_ev, mDrop_ev, mIfS_ev, atI_0, atI_1, atI_2, atI_3,
  start_ev, List.map_cons, List.map_nil, List.length_cons, List.length_nil, Nat.reduceAdd, Nat.reduceSub, Nat.zero_add, List.replicate_succ, List.replicate_zero, List.cons_append, List.nil_append, List.append_nil, List.set_cons_zero, List.set_cons_succ, Nat.reduceLeDiff, if_true, if_false, Bool.false_eq_true, Bool.true_eq_false, Bool.not_true, Bool.not_false, decide_eq_true_eq, decide_true, decide_false, Bool.and_true, Bool.true_and, Bool.and_false, Bool.false_and, Bool.or_true, Bool.or_false, Bool.true_or, Bool.false_or, List.all_cons, List.all_nil, cf, and_self, and_true, true_and, Nat.le_refl, Option.map_some, reduceCtorEq])
/-! ### tools -/
theorem getD_eq {α : Type} {l : List α} {i : Nat} {d : α} (h : i < l.length) : l.getD i d = l[i] := by
  rw [List.getD_eq_getElem?_getD, List.getElem?_eq_getElem h]
  rfl
theorem getD_some {α : Type} {l : List α} {i : Nat} {d x : α} (h : l[i]? = some x) : l.getD i d = x := by
  rw [List.getD_eq_getElem?_getD, h]
  rfl
theorem get_getD {α : Type} {l : List α} {i : Nat} (d : α) (h : i < l.length) : l[i]? = some (l.getD i d) := by
  rw [getD_eq h]
  exact List.getElem?_eq_getElem h
theorem len_tm {α : Type} {f : α → PyData} {l : List α} : mLen [.sh (.tuple (l.map f))] = M.ret (.sh (.int (l.length : Nat))) := by rw [mLen_t, List.length_map]
theorem len_lm {α : Type} {f : α → PyData} {l : List α} : mLen [.sh (.list (l.map f))] = M.ret (.sh (.int (l.length : Nat))) := by rw [mLen_l, List.length_map]
theorem asg_t2 {i j : Nat} {m : Sl → M MV} {δ : Sl} {a b : PyData} (h : m δ = M.ret (.sh (.tuple [a, b]))) : mAsg (gTupM 2 (gConsM (gNameM i) (gConsM (gNameM j) gNilM))) m δ = S.ret (.nx ((δ.set i (some (.sh a))).set j (some (.sh b)))) := by
  rw [mAsg_ev, h]
  rfl
theorem asg_t3 {i j k : Nat} {m : Sl → M MV} {δ : Sl} {a b c : PyData} (h : m δ = M.ret (.sh (.tuple [a, b, c]))) : mAsg (gTupM 3 (gConsM (gNameM i) (gConsM (gNameM j) (gConsM (gNameM k) gNilM)))) m δ = S.ret (.nx (((δ.set i (some (.sh a))).set j (some (.sh b))).set k (some (.sh c)))) := by
  rw [mAsg_ev, h]
  rfl
theorem ix_0 {a : PyData} {r : List PyData} : mIx (.sh (.tuple (a :: r))) (.sh (.int 0)) = M.ret (.sh a) := by rw [mIx_t, atI_0]; rfl
theorem ix_1 {a b : PyData} {r : List PyData} : mIx (.sh (.tuple (a :: b :: r))) (.sh (.int 1)) = M.ret (.sh b) := by rw [mIx_t, atI_1]; rfl
theorem ix_2 {a b c : PyData} {r : List PyData} : mIx (.sh (.tuple (a :: b :: c :: r))) (.sh (.int 2)) = M.ret (.sh c) := by rw [mIx_t, atI_2]; rfl
theorem ixl_0 {a : PyData} {r : List PyData} : mIx (.sh (.list (a :: r))) (.sh (.int 0)) = M.ret (.sh a) := by rw [mIx_l, atI_0]; rfl
theorem ixl_1 {a b : PyData} {r : List PyData} : mIx (.sh (.list (a :: b :: r))) (.sh (.int 1)) = M.ret (.sh b) := by rw [mIx_l, atI_1]; rfl
theorem ixl_2 {a b c : PyData} {r : List PyData} : mIx (.sh (.list (a :: b :: c :: r))) (.sh (.int 2)) = M.ret (.sh c) := by rw [mIx_l, atI_2]; rfl
def M.exc {α : Type} (c : Nat) : M α := fun μ => some (.exc c, μ)
theorem exc_bind {α β : Type} {c : Nat} {f : α → M β} : M.bind (M.exc c) f = M.exc c := rfl
theorem withV_exc {α : Type} {c : Nat} {δ : Sl} {f : α → Mu → Option (Out × Mu)} : withV (M.exc (α := α) c) δ f = S.ret (.ex c δ) := rfl
theorem liftR_exc {c : Nat} : liftR (some (.exc c)) = M.exc c := rfl
def isNoneD : PyData → Bool
  | .none => true
  | _ => false
theorem mIs_d {neg : Bool} {d : PyData} : mIs neg (.sh d) (.sh .none) = M.ret (.sh (.bool (if neg = true then !isNoneD d else isNoneD d))) := by
  have e : isNn (.sh d) = isNoneD d := by cases d <;> rfl
  show (if isNn (MV.sh .none) = true then M.ret (MV.sh (.bool (if neg = true then !isNn (.sh d) else isNn (.sh d)))) else fun _ => none) = _
  rw [if_pos (show isNn (.sh .none) = true from rfl), e]
theorem seqF_nx {a b : MS} {δ δ' : Sl} (h : a δ = S.ret (.nx δ')) : mSeq a b δ = b δ' := by rw [mSeq_ev, h, sbind_nx]
theorem seqF_rt {a b : MS} {δ : Sl} {x : MV} (h : a δ = S.ret (.rt x)) : mSeq a b δ = S.ret (.rt x) := by rw [mSeq_ev, h, sbind_rt]
theorem seqF_ex {a b : MS} {δ δ' : Sl} {c : Nat} (h : a δ = S.ret (.ex c δ')) : mSeq a b δ = S.ret (.ex c δ') := by rw [mSeq_ev, h, sbind_ex]
theorem asgF {i : Nat} {m : Sl → M MV} {δ : Sl} {x : MV} (h : m δ = M.ret x) : mAsg (gNameM i) m δ = S.ret (.nx (δ.set i (some x))) := by rw [mAsg_name, h, withV_ret]
theorem ifF {c : Sl → M Bool} {a b : MS} {δ : Sl} {k : Bool} (h : c δ = M.ret k) : mIfS c a b δ = if k = true then a δ else b δ := by rw [mIfS_ev, h, withV_ret]
theorem retF {m : Sl → M MV} {δ : Sl} {x : MV} (h : m δ = M.ret x) : mRet m δ = S.ret (.rt x) := by rw [mRet_ev, h, withV_ret]
theorem dropF {m : Sl → M MV} {δ : Sl} {x : MV} (h : m δ = M.ret x) : mDrop m δ = S.ret (.nx δ) := by rw [mDrop_ev, h, withV_ret]
theorem callF {k : Nat} {f : List MV → Option (Res PyData)} {ma : Sl → M (List MV)} {δ : Sl} {xs : List MV} {d : PyData} (ha : ma δ = M.ret xs) (hk : xs.length = k ∧ xs.all cf = true) (hf : f xs = some (.ok d)) : mCallP k f ma δ = M.ret (.sh d) := by
  rw [mCallP_ev, ha, ret_bind, if_pos hk, hf]
  rfl
theorem callX {k : Nat} {f : List MV → Option (Res PyData)} {ma : Sl → M (List MV)} {δ : Sl} {xs : List MV} {c : Nat} (ha : ma δ = M.ret xs) (hk : xs.length = k ∧ xs.all cf = true) (hf : f xs = some (.exc c)) : mCallP k f ma δ = M.exc c := by
  rw [mCallP_ev, ha, ret_bind, if_pos hk, hf]
  rfl
theorem truF {a : Sl → M MV} {δ : Sl} {b : Bool} (h : a δ = M.ret (.sh (.bool b))) : mTru a δ = M.ret b := by rw [mTru_ev, h]; rfl
theorem truX {a : Sl → M MV} {δ : Sl} {c : Nat} (h : a δ = M.exc c) : mTru a δ = M.exc c := by rw [mTru_ev, h]; rfl
theorem testF {a : Sl → M MV} {δ : Sl} {b : Bool} (h : a δ = M.ret (.sh (.bool b))) : mTest a δ = M.ret b := by rw [mTest_ev, h]; rfl
theorem forL_same {g : MG} {body : MS} {ws : List Nat} {δ : Sl} : ∀ xs : List MV, (∀ x ∈ xs, ∃ δ1 δ2, g x δ = some δ1 ∧ (body δ1 = S.ret (.nx δ2) ∨ body δ1 = S.ret (.ct δ2)) ∧ wipeS δ2 ws = δ) → forL g body ws xs δ = S.ret (.nx δ)
  | [], _ => rfl
  | x :: r, h => by
    obtain ⟨δ1, δ2, e1, e2, e3⟩ := h x List.mem_cons_self
    have ih := forL_same r fun y hy => h y (List.mem_cons_of_mem _ hy)
    funext μ
    unfold forL
    rw [e1]
    dsimp only
    rcases e2 with e2 | e2
    · rw [e2]
      show forL g body ws r (wipeS δ2 ws) μ = _
      rw [e3, ih]
    · rw [e2]
      show forL g body ws r (wipeS δ2 ws) μ = _
      rw [e3, ih]
theorem forF {src : Sl → M Src} {g : MG} {body : MS} {ws : List Nat} {δ δ0 : Sl} {xs : List MV} (hs : src δ = M.ret (.st xs)) (h0 : wipeS δ ws = δ0) (h : ∀ x ∈ xs, ∃ δ1 δ2, g x δ0 = some δ1 ∧ (body δ1 = S.ret (.nx δ2) ∨ body δ1 = S.ret (.ct δ2)) ∧ wipeS δ2 ws = δ0) :
    mFor src g body ws δ = S.ret (.nx δ0) := by
  show withV (src δ) δ _ = _
  rw [hs, withV_ret]
  show forL g body ws xs (wipeS δ ws) = _
  rw [h0]
  exact forL_same xs h
theorem rng1F {m : Sl → M MV} {δ : Sl} {n : Nat} (h : m δ = M.ret (.sh (.int (n : Int)))) (hn : n ≤ 100000) : mRng1 (mCons m mNil) δ = M.ret (.st (rangeI 0 n)) := by
  unfold mRng1
  rw [mCons_ev, h]
  simp only [ret_bind, mNil_ev]
  rw [if_pos (by omega), Int.toNat_natCast]
  rfl
theorem tupleOf_l {ds : List PyData} : mTupleOf [.sh (.list ds)] = M.ret (.sh (.tuple ds)) := by
  funext μ
  show some (Res.ok (mkT (ds.map MV.sh)), μ) = _
  unfold mkT
  rw [allSh_map]
  rfl
theorem tupleOf_t {ds : List PyData} : mTupleOf [.sh (.tuple ds)] = M.ret (.sh (.tuple ds)) := rfl
theorem listOf_l {ds : List PyData} : mListOf false [.sh (.list ds)] = M.ret (.sh (.list ds)) := mkL_sh ds
theorem listOf_t {ds : List PyData} : mListOf false [.sh (.tuple ds)] = M.ret (.sh (.list ds)) := mkL_sh ds
theorem src_l {m : Sl → M MV} {δ : Sl} {ds : List PyData} (h : m δ = M.ret (.sh (.list ds))) : mSeqS m δ = M.ret (.st (ds.map .sh)) := by
  unfold mSeqS
  rw [h]
  rfl
theorem src_t {m : Sl → M MV} {δ : Sl} {ds : List PyData} (h : m δ = M.ret (.sh (.tuple ds))) : mSeqS m δ = M.ret (.st (ds.map .sh)) := by
  unfold mSeqS
  rw [h]
  rfl
theorem compF {src : Sl → M Src} {g : MG} {te : Sl → M MV} {vs : List Nat} {δ : Sl} {α : Type} {e : α → PyData} {f : α → PyData} {l : List α} (hs : src δ = M.ret (.st ((l.map e).map .sh))) (hl : l.length ≤ 100000)
    (h : ∀ x ∈ l, ∃ δ1, g (.sh (e x)) (wipeS δ vs) = some δ1 ∧ te δ1 = M.ret (.sh (f x))) : mComp false src g mYes te vs δ = M.ret (.sh (.list (l.map f))) := by
  have hc : ∀ x : MV, ∃ y, x ∈ (l.map e).map MV.sh → ∃ δ1, g x (wipeS δ vs) = some δ1 ∧ te δ1 = M.ret y := fun x => by
    by_cases hx : x ∈ (l.map e).map MV.sh
    · obtain ⟨d, hd, rfl⟩ := List.mem_map.mp hx
      obtain ⟨a, ha, rfl⟩ := List.mem_map.mp hd
      obtain ⟨δ1, h1, h2⟩ := h a ha
      exact ⟨_, fun _ => ⟨δ1, h1, h2⟩⟩
    · exact ⟨x, fun z => absurd z hx⟩
  obtain ⟨F, hF⟩ := Classical.axiomOfChoice hc
  rw [mComp_ret F hs (by simpa using hl) fun x hx => hF x hx]
  have : ((l.map e).map MV.sh).map F = (l.map f).map MV.sh := by
    rw [List.map_map, List.map_map, List.map_map]
    refine List.map_congr_left fun a ha => ?_
    obtain ⟨δ1, h1, h2⟩ := h a ha
    obtain ⟨δ2, h3, h4⟩ := hF (MV.sh (e a)) (List.mem_map_of_mem (List.mem_map_of_mem ha))
    rw [h1] at h3
    cases h3
    rw [h2] at h4
    have := congrFun h4 []
    simp only [M.ret, Option.some.injEq, Prod.mk.injEq, Res.ok.injEq, and_true] at this
    exact this.symm
  rw [this, mkL_sh]
theorem dropX {m : Sl → M MV} {δ : Sl} {c : Nat} (h : m δ = M.exc c) : mDrop m δ = S.ret (.ex c δ) := by rw [mDrop_ev, h]; rfl
theorem app_cell {n : Nat} {xs : List MV} {o a : Sl → M MV} {δ : Sl} {μ : Mu} {y : MV} (ho : o δ μ = some (.ok (.cell n), μ)) (ha : a δ μ = some (.ok y, μ)) (hn : μ[n]? = some xs) (hl : xs.length < 100000) : mDrop (mCellM fAppend o (mCons a mNil)) δ μ = some (.nx δ, μ.set n (xs ++ [y])) := by
  refine drop_at (x := .sh .none) ?_
  rw [mCellM_ev, bindA, ho]
  dsimp only
  rw [bindA, cons_at ha nil_at]
  dsimp only
  rw [cellStepA, hn]
  dsimp only
  rw [show fAppend xs [y] = some (.sh .none, xs ++ [y]) by unfold fAppend; dsimp only; rw [if_pos hl]]
  rfl
theorem chain_ll {a b : Sl → M MV} {i j : Int} {g : MV → MV → M MV} {c : Sl → M MV} {δ : Sl} {μ : Mu} {k : Bool} (ha : a δ μ = some (.ok (.sh (.int i)), μ)) (hb : b δ μ = some (.ok (.sh (.int j)), μ)) (hc : i ≤ j → ∃ z, c δ μ = some (.ok (.sh (.int z)), μ) ∧ g (.sh (.int j)) (.sh (.int z)) μ = some (.ok (.sh (.bool k)), μ)) :
    mChain fLe g a b c δ μ = some (.ok (.sh (.bool (decide (i ≤ j) && k))), μ) := by
  rw [mChain_ev, bindA, ha]
  dsimp only
  rw [bindA, hb]
  dsimp only
  show M.bind (M.ret (MV.sh (PyData.bool (decide (i ≤ j))))) _ μ = _
  rw [ret_bind, isB_ev, opt_some, ret_bind]
  by_cases h : i ≤ j
  · rw [decide_eq_true h, if_pos rfl]
    obtain ⟨z, e1, e2⟩ := hc h
    rw [bindA, e1]
    exact e2
  · rw [decide_eq_false h, if_neg Bool.false_ne_true]
    rfl
theorem in_words {w : Str} {neg : Bool} {μ : Mu} : mIn neg (.sh (.str w)) (.sh (.tuple [.str "put", .str "take", .str "add"])) μ = some (.ok (.sh (.bool (if neg = true then !decide (w = "put" ∨ w = "take" ∨ w = "add") else decide (w = "put" ∨ w = "take" ∨ w = "add")))), μ) := by
  have d : (PyData.str w).depth ≤ 60 := by simp [PyData.depth]
  have ev : ∀ a b : Str, PyData.eqv (.str a) (.str b) = decide (a = b) := fun a b => by simp only [PyData.eqv]; exact PySem.W.beq_decide a b
  have e : ([PyData.str "put", .str "take", .str "add"].any fun e => PyData.eqv e (.str w)) = decide (w = "put" ∨ w = "take" ∨ w = "add") := by
    simp only [List.any_cons, List.any_nil, ev, Bool.or_false, Bool.decide_or]
    rw [decide_eq_decide.mpr (show ("put" : Str) = w ↔ w = "put" from eq_comm), decide_eq_decide.mpr (show ("take" : Str) = w ↔ w = "take" from eq_comm), decide_eq_decide.mpr (show ("add" : Str) = w ↔ w = "add" from eq_comm)]
  show ((if (PyData.str w).depth ≤ 60 then some (MV.sh (.bool (if neg = true then !([PyData.str "put", .str "take", .str "add"].any fun e => PyData.eqv e (.str w)) else [PyData.str "put", .str "take", .str "add"].any fun e => PyData.eqv e (.str w)))) else none).map fun x => (Res.ok x, μ)) = _
  rw [if_pos d, e]
  rfl
theorem forL_search {g : MG} {body : MS} {ws : List Nat} {xs : List MV} {δ : Sl} {μ : Mu} (bad : Nat → MV → Prop) (T : Out → Prop) (hT : ∀ o, T o → (∃ y, o = .rt y) ∨ ∃ c δ', o = .ex c δ')
    (step : ∀ (i : Nat) (x : MV), xs[i]? = some x → ∃ δ1, g x δ = some δ1 ∧ ((bad i x ∧ ∃ o, body δ1 μ = some (o, μ) ∧ T o) ∨ (¬ bad i x ∧ ∃ δ2, (body δ1 μ = some (.nx δ2, μ) ∨ body δ1 μ = some (.ct δ2, μ)) ∧ wipeS δ2 ws = δ))) :
    (∃ o, forL g body ws xs δ μ = some (o, μ) ∧ T o ∧ ∃ i x, xs[i]? = some x ∧ bad i x) ∨ (forL g body ws xs δ μ = some (.nx δ, μ) ∧ ∀ i x, xs[i]? = some x → ¬ bad i x) := by
  obtain ⟨o, μ', e, h⟩ := forL_ind2 (g := g) (body := body) (ws := ws) (xs := xs) (δ := δ) (μ := μ) (fun k δ' μ' => δ' = δ ∧ μ' = μ ∧ ∀ i < k, ∀ x, xs[i]? = some x → ¬ bad i x) (fun o μ' => μ' = μ ∧ T o ∧ ∃ i x, xs[i]? = some x ∧ bad i x)
    ⟨rfl, rfl, fun i h => absurd h (Nat.not_lt_zero _)⟩ (fun i x δ' μ' hx hP => by
      obtain ⟨rfl, rfl, hP⟩ := hP
      obtain ⟨δ1, e1, h⟩ := step i x hx
      refine ⟨δ1, e1, ?_⟩
      rcases h with ⟨hb, o, e2, t⟩ | ⟨hb, δ2, e2, e3⟩
      · exact .inr ⟨o, _, e2, hT o t, rfl, t, i, x, hx, hb⟩
      · refine .inl ⟨δ2, _, e2, e3, rfl, fun j hj y hy => ?_⟩
        by_cases hji : j = i
        · subst hji
          rw [hx] at hy
          cases hy
          exact hb
        · exact hP j (by omega) y hy)
  rcases h with ⟨δ', rfl, rfl, rfl, h⟩ | ⟨rfl, t, h⟩
  · exact .inr ⟨e, fun i x hx => h i (List.getElem?_eq_some_iff.mp hx).1 x hx⟩
  · exact .inl ⟨o, e, t, h⟩
theorem enum_src {δ : Sl} {m : Sl → M MV} {ds : List PyData} (h : m δ = M.ret (.sh (.list ds))) : mEnum (mCons m mNil) δ = M.ret (.st (enumI 0 (ds.map .sh))) := by
  unfold mEnum
  rw [mCons_ev, h, ret_bind, mNil_ev, ret_bind, ret_bind]
  rfl
theorem enum_at {α : Type} [DecidableEq α] [Datum α] {xs : List α} {i : Nat} {x : MV} (h : (enumI 0 ((xs.map Datum.toD).map .sh))[i]? = some x) : ∃ a, xs[i]? = some a ∧ x = .sh (.tuple [.int (i : Int), Datum.toD a]) := by
  rw [enumI_get, List.getElem?_map, List.getElem?_map] at h
  cases hp : xs[i]? with
  | none => rw [hp] at h; cases h
  | some a =>
    rw [hp] at h
    have h' := (Option.some.inj h).symm
    rw [Nat.zero_add] at h'
    exact ⟨a, rfl, h'⟩
theorem enum_of {α : Type} [DecidableEq α] [Datum α] {xs : List α} {i : Nat} {a : α} (h : xs[i]? = some a) : (enumI 0 ((xs.map Datum.toD).map .sh))[i]? = some (.sh (.tuple [.int (i : Int), Datum.toD a])) := by
  rw [enumI_get, List.getElem?_map, List.getElem?_map, h, Nat.zero_add]
  rfl
theorem compL_fill {g : MG} {te : Sl → M MV} {δ0 : Sl} (f : MV → List MV) : ∀ (xs acc : List MV) (μ : Mu), acc.length + xs.length ≤ 100000 → (∀ x ∈ xs, ∃ δ1, g x δ0 = some δ1 ∧ te δ1 = M.mkL true (f x)) →
    compL g mYes te δ0 xs acc μ = some (acc ++ (List.range xs.length).map (fun i => MV.cell (μ.length + i)), μ ++ xs.map f)
  | [], acc, μ, _, _ => by simp [compL]
  | x :: r, acc, μ, hl, h => by
    rw [List.length_cons] at hl
    obtain ⟨δ1, e1, e2⟩ := h x List.mem_cons_self
    unfold compL PD.compTurn
    rw [e1]
    dsimp only
    show (match (match te δ1 μ with
      | some (.ok y, μ2) => if acc.length < 100000 then some (acc ++ [y], μ2) else none
      | _ => none) with
      | some (acc', μ') => compL g mYes te δ0 r acc' μ'
      | none => none) = _
    rw [e2]
    show (match (if acc.length < 100000 then some (acc ++ [MV.cell μ.length], μ ++ [f x]) else none) with
      | some (acc', μ') => compL g mYes te δ0 r acc' μ'
      | none => none) = _
    rw [if_pos (by omega)]
    show compL g mYes te δ0 r (acc ++ [MV.cell μ.length]) (μ ++ [f x]) = _
    rw [compL_fill f r _ _ (by simp; omega) fun y hy => h y (List.mem_cons_of_mem _ hy)]
    simp only [List.length_append, List.length_cons, List.length_nil, List.append_assoc, List.cons_append, List.nil_append, List.range_succ_eq_map, List.map_cons, List.map_map]
    congr 3
    · congr 1
      apply List.map_congr_left
      intro a _
      simp only [Function.comp]
      congr 1
      omega
theorem listOf_new {ds : List PyData} : mListOf true [.sh (.list ds)] = M.mkL true (ds.map .sh) := rfl
theorem digits : ∀ i : Fin 300, (Str.ofString (toString (i.val : Int))).length ≤ 10 := by decide +kernel
theorem raise_at {c : Nat} {m : Sl → M MV} {δ : Sl} {μ : Mu} {x : MV} (h : m δ = M.ret x) : mRaise1 c m δ μ = some (.ex c δ, μ) := by
  unfold mRaise1
  rw [withVA, h]
  rfl
theorem fmt_i {s : Nat} {δ : Sl} {i : Nat} (hs : mVar s δ = M.ret (.sh (.int i))) (hi : i < 300) : ∃ y : Str, y.length ≤ 10 ∧ mFmt (mVar s) δ = M.ret (.sh (.str y)) := by
  refine ⟨Str.ofString (toString (i : Int)), digits ⟨i, hi⟩, ?_⟩
  unfold mFmt
  rw [hs, ret_bind]
  dsimp only
  rw [if_pos (by
    have : (i : Int).natAbs = i := rfl
    rw [this]
    have h2 : i.log2 ≤ i := Nat.log2_le_self i
    omega)]
theorem join_c {a : Str} {r : List (Sl → M MV)} {acc : Str} {δ : Sl} (h : (acc ++ a).length ≤ sizeLine) : mJoin (mC (.str a) :: r) acc δ = mJoin r (acc ++ a) δ := by
  show M.bind (M.ret _) _ = _
  rw [ret_bind]
  dsimp only
  rw [if_pos h]
theorem join_m {m : Sl → M MV} {a : Str} {r : List (Sl → M MV)} {acc : Str} {δ : Sl} (hm : m δ = M.ret (.sh (.str a))) (h : (acc ++ a).length ≤ sizeLine) : mJoin (m :: r) acc δ = mJoin r (acc ++ a) δ := by
  show M.bind (m δ) _ = _
  rw [hm, ret_bind]
  dsimp only
  rw [if_pos h]
theorem join_nil {acc : Str} {δ : Sl} : mJoin [] acc δ = M.ret (.sh (.str acc)) := rfl
theorem forL_searchS {g : MG} {body : MS} {ws : List Nat} {xs : List MV} {δ : Sl} {μ : Mu} (S : Sl → Prop) (bad : Nat → MV → Prop) (T : Out → Prop) (hT : ∀ o, T o → (∃ y, o = .rt y) ∨ ∃ c δ', o = .ex c δ') (h0 : S δ)
    (step : ∀ (i : Nat) (x : MV) (δ : Sl), S δ → xs[i]? = some x → ∃ δ1, g x δ = some δ1 ∧ ((bad i x ∧ ∃ o, body δ1 μ = some (o, μ) ∧ T o) ∨ (¬ bad i x ∧ ∃ δ2, (body δ1 μ = some (.nx δ2, μ) ∨ body δ1 μ = some (.ct δ2, μ)) ∧ S (wipeS δ2 ws)))) :
    (∃ o, forL g body ws xs δ μ = some (o, μ) ∧ T o ∧ ∃ i x, xs[i]? = some x ∧ bad i x) ∨ (∃ δ', S δ' ∧ forL g body ws xs δ μ = some (.nx δ', μ) ∧ ∀ i x, xs[i]? = some x → ¬ bad i x) := by
  obtain ⟨o, μ', e, h⟩ := forL_ind2 (g := g) (body := body) (ws := ws) (xs := xs) (δ := δ) (μ := μ) (fun k δ' μ' => S δ' ∧ μ' = μ ∧ ∀ i < k, ∀ x, xs[i]? = some x → ¬ bad i x) (fun o μ' => μ' = μ ∧ T o ∧ ∃ i x, xs[i]? = some x ∧ bad i x)
    ⟨h0, rfl, fun i h => absurd h (Nat.not_lt_zero _)⟩ (fun i x δ' μ' hx hP => by
      obtain ⟨hS, rfl, hP⟩ := hP
      obtain ⟨δ1, e1, h⟩ := step i x δ' hS hx
      refine ⟨δ1, e1, ?_⟩
      rcases h with ⟨hb, o, e2, t⟩ | ⟨hb, δ2, e2, e3⟩
      · exact .inr ⟨o, _, e2, hT o t, rfl, t, i, x, hx, hb⟩
      · refine .inl ⟨δ2, _, e2, e3, rfl, fun j hj y hy => ?_⟩
        by_cases hji : j = i
        · subst hji
          rw [hx] at hy
          cases hy
          exact hb
        · exact hP j (by omega) y hy)
  rcases h with ⟨δ', rfl, hS, rfl, h⟩ | ⟨rfl, t, h⟩
  · exact .inr ⟨δ', hS, e, fun i x hx => h i (List.getElem?_eq_some_iff.mp hx).1 x hx⟩
  · exact .inl ⟨o, e, t, h⟩
theorem src_list {α : Type} [DecidableEq α] [Datum α] {δ : Sl} {m : Sl → M MV} {xs : List α} (h : m δ = M.ret (.sh (.list (xs.map Datum.toD)))) : mSeqS m δ = M.ret (.st (xs.map fun x => .sh (Datum.toD x))) := by
  show (M.bind (m δ) fun x => M.look fun μ => srcOf μ x) = _
  rw [h, ret_bind]
  show M.look (fun _ => some (Src.st ((xs.map Datum.toD).map MV.sh))) = _
  rw [List.map_map]
  rfl
end LW

set_option Elab.async false
set_option linter.all false
set_option maxRecDepth 100000
set_option maxHeartbeats 2000000
set_option exponentiation.threshold 300
namespace LW
open PySem PySem.W PD
local macro_rules | `(tactic| walk_at "ev") => `(tactic| simp (disch := first | assumption | decide | omega) only [ret_bind, opt_some, look_some, mVar_0, mVar_s, mC_ev, mOp2_ev, mOp1_ev, mNil_ev, mCons_ev, mCB_ev, mTest_ev, isB_ev, mAnd_ev, mOr_ev, mNot_ev, mAndV_ev, mOrV_ev, mNotV_ev, mIf_ev, mChain_ev, mTru_ev, truM_b, mTup_ev, mLst_ev,
  mkL_nil, mkL_1, mkL_2, mkL_3, mkL_4, mkT_2, mkT_3, mkT_4, mI2_ev, mI1_ev, fMod_ev, fDiv_ev, fPow_ev, mAdd_i, mMul_i, mEq_int, mEq_str, mEq_bool, mIx_l, mIx_t, mIx_s, mLen_l, mLen_t, mLen_s, mI2L_ev, mIsi_ev, isiM, kindM, isiT, liftR_ok, mCallP_ev,
  mSeq_ev, sbind_nx, sbind_rt, sbind_ct, sbind_bk, sbind_ex, withV_ret, asg_some, mAsg_name, mNext_ev, mCont_ev, mBreak_ev, mRetN_ev, mRaise_ev, mRet_ev, mDrop_ev, mIfS_ev, atI_0, atI_1, atI_2, atI_3,
  start_ev, List.map_cons, List.map_nil, List.length_cons, List.length_nil, Nat.reduceAdd, Nat.reduceSub, Nat.zero_add, List.replicate_succ, List.replicate_zero, List.cons_append, List.nil_append, List.append_nil, List.set_cons_zero, List.set_cons_succ, Nat.reduceLeDiff, if_true, if_false, Bool.false_eq_true, Bool.true_eq_false, Bool.not_true, Bool.not_false, decide_eq_true_eq, decide_true, decide_false, Bool.and_true, Bool.true_and, Bool.and_false, Bool.false_and, Bool.or_true, Bool.or_false, Bool.true_or, Bool.false_or, List.all_cons, List.all_nil, cf, and_self, and_true, true_and, Nat.le_refl, Option.map_some, reduceCtorEq])
/-! ### nets checked -/
theorem len_app (a b : Str) : (a ++ b).length = a.length + b.length := by
  show (a.cps ++ b.cps).size = _
  rw [Array.size_append]
  rfl
def GoodP (many : Nat) (p : Pipe) : Prop := (0 ≤ p.a ∧ p.a < many) ∧ (0 ≤ p.b ∧ p.b < many) ∧ 1 ≤ p.c ∧ p.c ≤ 1000
instance {many : Nat} {p : Pipe} : Decidable (GoodP many p) := by unfold GoodP; infer_instance
theorem is_pipe_ok (p : Pipe) (many : Nat) : is_pipe [.sh (Datum.toD p), .sh (.int many)] = some (.ok (.bool (decide (GoodP many p)))) := by
  refine bodyP_rt_at (x := .sh (.bool (decide (GoodP many p)))) (μ := []) ?_ rfl
  unfold m_is_pipe
  rw [seq_nx (asgG_at (x := .sh (Datum.toD p)) (δ' := [some (.sh (Datum.toD p)), some (.sh (.int many)), some (.sh (.int p.a)), some (.sh (.int p.b)), some (.sh (.int p.c))]) (at_ret rfl) rfl)]
  refine ret_at ?_
  have e1 := chain_ll (g := fLt) (δ := [some (.sh (Datum.toD p)), some (.sh (.int many)), some (.sh (.int p.a)), some (.sh (.int p.b)), some (.sh (.int p.c))]) (μ := []) (i := 0) (j := p.a) (a := mC (.int 0)) (b := mVar 2) (c := mVar 1) (k := decide (p.a < many)) rfl rfl fun _ => ⟨many, rfl, rfl⟩
  have e2 := chain_ll (g := fLt) (δ := [some (.sh (Datum.toD p)), some (.sh (.int many)), some (.sh (.int p.a)), some (.sh (.int p.b)), some (.sh (.int p.c))]) (μ := []) (i := 0) (j := p.b) (a := mC (.int 0)) (b := mVar 3) (c := mVar 1) (k := decide (p.b < many)) rfl rfl fun _ => ⟨many, rfl, rfl⟩
  have e3 := chain_ll (g := fLe) (δ := [some (.sh (Datum.toD p)), some (.sh (.int many)), some (.sh (.int p.a)), some (.sh (.int p.b)), some (.sh (.int p.c))]) (μ := []) (i := 1) (j := p.c) (a := mC (.int 1)) (b := mVar 4) (c := mC (.int 1000)) (k := decide (p.c ≤ 1000)) rfl rfl fun _ => ⟨1000, rfl, rfl⟩
  rw [andV_at e1 fun _ => andV_at e2 fun _ => e3]
  rw [show (decide (0 ≤ p.a) && decide (p.a < many) && (decide (0 ≤ p.b) && decide (p.b < many) && (decide (1 ≤ p.c) && decide (p.c ≤ 1000)))) = decide (GoodP many p) by
    rw [Bool.eq_iff_iff, decide_eq_true_iff]
    unfold GoodP
    simp only [Bool.and_eq_true, decide_eq_true_eq]]
theorem toD_pipesL (pipes : List Pipe) : Datum.toD pipes = PyData.list (pipes.map Datum.toD) := rfl
theorem len_evP {s : Nat} {δ : Sl} {pipes : List Pipe} (h : mVar s δ = M.ret (.sh (Datum.toD pipes))) : mCB mLen (mCons (mVar s) mNil) δ = M.ret (.sh (.int pipes.length)) := by
  rw [mCB_ev, mCons_ev, h, toD_pipesL]
  simp only [ret_bind, mNil_ev, mLen_l, List.length_map]
def GoodO (pipes : List Pipe) (who : Nat) (o : Ord) : Prop := o.1 = "set" ∨ ((o.1 = "put" ∨ o.1 = "take" ∨ o.1 = "add") ∧ ∃ (k : Nat) (p : Pipe), o.2 = (k : Int) ∧ pipes[k]? = some p ∧ (who : Int) = if o.1 = "put" then p.a else p.b)
noncomputable instance {pipes : List Pipe} {who : Nat} {o : Ord} : Decidable (GoodO pipes who o) := Classical.propDecidable _
theorem goodO_iff {pipes : List Pipe} {who : Nat} {o : Ord} (h1 : ¬ o.1 = "set") (h2 : o.1 = "put" ∨ o.1 = "take" ∨ o.1 = "add") {k : Nat} {p : Pipe} (hk : o.2 = (k : Int)) (hp : pipes[k]? = some p) : GoodO pipes who o ↔ (who : Int) = if o.1 = "put" then p.a else p.b := by
  constructor
  · rintro (h | ⟨_, k', p', e1, e2, e3⟩)
    · exact absurd h h1
    · have : k' = k := by omega
      subst this
      rw [hp] at e2
      cases e2
      exact e3
  · exact fun h => .inr ⟨h2, k, p, hk, hp, h⟩
def OS (o : Ord) (pipes : List Pipe) (who : Nat) (s5 s6 s7 : Option MV) : Sl := [some (.sh (Datum.toD o)), some (.sh (Datum.toD pipes)), some (.sh (.int who)), some (.sh (.str o.1)), some (.sh (.int o.2)), s5, s6, s7]
theorem is_order_ok (o : Ord) (pipes : List Pipe) (who : Nat) : is_order [.sh (Datum.toD o), .sh (Datum.toD pipes), .sh (.int who)] = some (.ok (.bool (decide (GoodO pipes who o)))) := by
  refine bodyP_rt_at (x := .sh (.bool (decide (GoodO pipes who o)))) (μ := []) ?_ rfl
  unfold m_is_order
  rw [seq_nx (asgG_at (x := .sh (Datum.toD o)) (δ' := OS o pipes who none none none) (at_ret rfl) rfl)]
  have hw : ∀ {s5 s6 s7}, mVar 3 (OS o pipes who s5 s6 s7) = M.ret (.sh (.str o.1)) := rfl
  have tw : ∀ {s5 s6 s7 : Option MV} (z : Str), mTest (mOp2 (mEq false) (mVar 3) (mC (.str z))) (OS o pipes who s5 s6 s7) = M.ret (decide (o.1 = z)) := fun z => by
    rw [mTest_ev, mOp2_ev, hw, ret_bind, mC_ev, ret_bind, mEq_str]
    rfl
  by_cases hset : o.1 = "set"
  · rw [seq_rt (x := .sh (.bool true)) (μ' := []) (by
      rw [if_t (at_ret (by rw [tw, decide_eq_true hset]))]
      exact ret_at (at_ret mC_ev))]
    rw [decide_eq_true (.inl hset)]
  · rw [seq_nx (by
      rw [if_f (at_ret (by rw [tw, decide_eq_false hset]))]
      exact next_at)]
    have e2 : mTest (mOp2 (mIn true) (mVar 3) (mTup (mCons (mC (.str "put")) (mCons (mC (.str "take")) (mCons (mC (.str "add")) mNil))))) (OS o pipes who none none none) [] = some (.ok (!decide (o.1 = "put" ∨ o.1 = "take" ∨ o.1 = "add")), []) :=
      test_at (by rw [op2_at (at_ret hw) (at_ret (x := .sh (.tuple [.str "put", .str "take", .str "add"])) (by walk_at "ev")), in_words]; rfl)
    by_cases hin : o.1 = "put" ∨ o.1 = "take" ∨ o.1 = "add"
    · rw [seq_nx (by
        rw [if_f (by rw [e2, decide_eq_true hin]; rfl)]
        exact next_at)]
      have e3 := chain_ll (g := fLt) (δ := OS o pipes who none none none) (μ := []) (i := 0) (j := o.2) (a := mC (.int 0)) (b := mVar 4) (c := mCB mLen (mCons (mVar 1) mNil)) (k := decide (o.2 < pipes.length)) rfl rfl fun _ => ⟨pipes.length, at_ret (len_evP rfl), rfl⟩
      by_cases hb : 0 ≤ o.2 ∧ o.2 < pipes.length
      · rw [seq_nx (by
          rw [if_f (not_at (test_at e3) |>.trans (by rw [decide_eq_true hb.1, decide_eq_true hb.2]; rfl))]
          exact next_at)]
        obtain ⟨k, hk⟩ : ∃ k : Nat, o.2 = k := ⟨_, (Int.toNat_of_nonneg hb.1).symm⟩
        have hk2 : k < pipes.length := by omega
        obtain ⟨p, hp⟩ : ∃ p, pipes[k]? = some p := ⟨_, List.getElem?_eq_getElem hk2⟩
        have pix : mIx (.sh (Datum.toD pipes)) (.sh (.int o.2)) = M.ret (.sh (Datum.toD p)) := by
          rw [toD_pipesL, mIx_l, hk, L2.atI_nat (v := Datum.toD p) (by rw [List.getElem?_map, hp]; rfl)]
          rfl
        rw [seq_nx (asgG_at (x := .sh (Datum.toD p)) (δ' := OS o pipes who (some (.sh (.int p.a))) (some (.sh (.int p.b))) (some (.sh (.int p.c)))) (at_ret (by
          rw [mOp2_ev, show mVar 1 (OS o pipes who none none none) = M.ret (.sh (Datum.toD pipes)) from rfl, ret_bind, show mVar 4 (OS o pipes who none none none) = M.ret (.sh (.int o.2)) from rfl, ret_bind, pix])) rfl)]
        have hg := goodO_iff (who := who) hset hin hk hp
        by_cases hput : o.1 = "put"
        · rw [if_pos hput] at hg
          rw [seq_rt (x := .sh (.bool (decide ((who : Int) = p.a)))) (μ' := []) (by
            rw [if_t (at_ret (by rw [tw, decide_eq_true hput]))]
            refine ret_at (at_ret ?_)
            rw [mOp2_ev, show mVar 2 _ = M.ret (.sh (.int who)) from rfl, ret_bind, show mVar 5 _ = M.ret (.sh (.int p.a)) from rfl, ret_bind, mEq_int]
            rfl)]
          rw [decide_eq_decide.mpr hg]
        · rw [if_neg hput] at hg
          rw [seq_nx (by
            rw [if_f (at_ret (by rw [tw, decide_eq_false hput]))]
            exact next_at)]
          rw [ret_at (x := .sh (.bool (decide ((who : Int) = p.b)))) (μ' := []) (at_ret (by
            rw [mOp2_ev, show mVar 2 _ = M.ret (.sh (.int who)) from rfl, ret_bind, show mVar 6 _ = M.ret (.sh (.int p.b)) from rfl, ret_bind, mEq_int]
            rfl)), decide_eq_decide.mpr hg]
      · rw [seq_rt (x := .sh (.bool false)) (μ' := []) (by
          rw [if_t (not_at (test_at e3) |>.trans (by
            rw [show (decide (0 ≤ o.2) && decide (o.2 < (pipes.length : Int))) = false by
              rw [Bool.and_eq_false_iff, decide_eq_false_iff_not, decide_eq_false_iff_not]
              omega]
            rfl))]
          exact ret_at (at_ret mC_ev))]
        rw [decide_eq_false]
        rintro (h | ⟨_, k, p, h1, h2, _⟩)
        · exact hset h
        · have := (List.getElem?_eq_some_iff.mp h2).1
          omega
    · rw [seq_rt (x := .sh (.bool false)) (μ' := []) (by
        rw [if_t (by rw [e2, decide_eq_false hin]; rfl)]
        exact ret_at (at_ret mC_ev))]
      rw [decide_eq_false]
      rintro (h | ⟨h, _⟩)
      · exact hset h
      · exact hin h
def AllP (pipes : List Pipe) (rows : List (List Ord)) : Prop := ∀ p ∈ pipes, GoodP rows.length p
def AllO (pipes : List Pipe) (rows : List (List Ord)) : Prop := ∀ (who : Nat) (r : List Ord), rows[who]? = some r → ∀ o ∈ r, GoodO pipes who o
def PMu (pipes : List Pipe) : Mu := [pipes.map fun p => .sh (Datum.toD p)]
def QMu (pre : Mu) (rows : List (List Ord)) : Mu := pre ++ (rows.map (fun r => r.map encO) ++ [(List.range rows.length).map fun i => .cell (pre.length + i)])
theorem copied_new {pipes : List Pipe} {rows : List (List Ord)} {μ : Mu} (hl : rows.length < 300) : copied [.sh (Datum.toD pipes), .sh (Datum.toD rows)] μ = some (.ok (.tp [.cell μ.length, .cell (μ.length + 1 + rows.length)]), QMu (μ ++ PMu pipes) rows) := by
  refine bodyI_rt_at ?_
  unfold m_copied
  have e1 : mCB (mListOf true) (mCons (mVar 0) mNil) (startM 3 [.sh (Datum.toD pipes), .sh (Datum.toD rows)]) μ = some (.ok (.cell μ.length), μ ++ PMu pipes) := by
    show mListOf true [.sh (.list (pipes.map Datum.toD))] μ = _
    rw [listOf_new, List.map_map]
    rfl
  have e2 : mComp true (mSeqS (mVar 1)) (gNameM 2) mYes (mCB (mListOf true) (mCons (mVar 2) mNil)) [2] (startM 3 [.sh (Datum.toD pipes), .sh (Datum.toD rows)]) (μ ++ PMu pipes) = some (.ok (.cell (μ.length + 1 + rows.length)), QMu (μ ++ PMu pipes) rows) := by
    unfold mComp
    rw [src_list (xs := rows) (m := mVar 1) rfl, ret_bind]
    dsimp only
    have hlen : (μ ++ PMu pipes).length = μ.length + 1 := by rw [List.length_append]; rfl
    have ef : (rows.map fun r => MV.sh (Datum.toD r)).map (fun x => match x with
        | .sh (.list ds) => ds.map MV.sh
        | _ => []) = rows.map fun r => r.map encO := by
      rw [List.map_map]
      apply List.map_congr_left
      intro r _
      show (r.map Datum.toD).map MV.sh = _
      rw [List.map_map]
      rfl
    rw [compL_fill (g := gNameM 2) (te := mCB (mListOf true) (mCons (mVar 2) mNil)) (fun x => match x with
        | .sh (.list ds) => ds.map MV.sh
        | _ => []) _ [] _ (by simp; omega) fun x hx => by
      obtain ⟨r, hr, rfl⟩ := List.mem_map.mp hx
      exact ⟨_, rfl, rfl⟩]
    rw [ef]
    have h1 : (PMu pipes).length = 1 := rfl
    unfold M.mkL PD.mkL QMu
    simp [hlen]
    omega
  rw [ret_at (x := .tp [.cell μ.length, .cell (μ.length + 1 + rows.length)]) (μ' := QMu (μ ++ PMu pipes) rows)]
  rw [tup_at (cons_at e1 (cons_at e2 nil_at)) (by simp)]
  rfl
def KS (pipes : List Pipe) (rows : List (List Ord)) (s3 s4 s5 s6 s7 : Option MV) : Sl := [some (.sh (Datum.toD ((pipes, rows) : Net))), some (.sh (Datum.toD pipes)), some (.sh (Datum.toD rows)), s3, s4, s5, s6, s7]
theorem chk_b1 {pipes : List Pipe} {rows : List (List Ord)} {p : Pipe} {i : Nat} {s5 s6 s7 : Option MV} {μ : Mu} (hi : i < 300) : (GoodP rows.length p ∧ m_checked_b1 (KS pipes rows (some (.sh (.int i))) (some (.sh (Datum.toD p))) s5 s6 s7) μ = some (.nx (KS pipes rows (some (.sh (.int i))) (some (.sh (Datum.toD p))) s5 s6 s7), μ)) ∨
    (¬ GoodP rows.length p ∧ ∃ δ, m_checked_b1 (KS pipes rows (some (.sh (.int i))) (some (.sh (Datum.toD p))) s5 s6 s7) μ = some (.ex 1 δ, μ)) := by
  generalize hδ : KS pipes rows (some (.sh (.int i))) (some (.sh (Datum.toD p))) s5 s6 s7 = δ
  have h4 : mVar 4 δ = M.ret (.sh (Datum.toD p)) := by rw [← hδ]; rfl
  have h3 : mVar 3 δ = M.ret (.sh (.int i)) := by rw [← hδ]; rfl
  have h2 : mVar 2 δ = M.ret (.sh (Datum.toD rows)) := by rw [← hδ]; rfl
  have hl : mCB mLen (mCons (mVar 2) mNil) δ = M.ret (.sh (.int rows.length)) := by
    rw [mCB_ev, mCons_ev, h2, show Datum.toD rows = PyData.list (rows.map Datum.toD) from rfl]
    simp only [ret_bind, mNil_ev, mLen_l, List.length_map]
  have ec : mCallP 2 is_pipe (mCons (mVar 4) (mCons (mCB mLen (mCons (mVar 2) mNil)) mNil)) δ = M.ret (.sh (.bool (decide (GoodP rows.length p)))) := by
    rw [mCallP_ev, mCons_ev, h4, ret_bind, mCons_ev, hl, ret_bind, mNil_ev, ret_bind, ret_bind, ret_bind, if_pos ⟨rfl, rfl⟩, is_pipe_ok]
    rfl
  unfold m_checked_b1
  rw [if_b (not_at (tru_at (at_ret ec)))]
  by_cases h : GoodP rows.length p
  · rw [decide_eq_true h, if_neg (by decide)]
    exact .inl ⟨h, rfl⟩
  · rw [decide_eq_false h, if_pos (by decide)]
    obtain ⟨y, hy, ey⟩ := fmt_i h3 hi
    refine .inr ⟨h, δ, raise_at (x := .sh (.str (Str.empty ++ "pipe " ++ y ++ " has a wrong maker, taker or room"))) ?_⟩
    have z0 : Str.empty.length = 0 := rfl
    have z1 : (Str.ofString "pipe ").length = 5 := by decide
    have z2 : (Str.ofString " has a wrong maker, taker or room").length = 33 := by decide
    rw [join_c (by rw [len_app, sizeLine_eq]; omega), join_m ey (by rw [len_app, len_app, sizeLine_eq]; omega), join_c (by rw [len_app, len_app, len_app, sizeLine_eq]; omega), join_nil]
theorem chk_b2 {pipes : List Pipe} {rows : List (List Ord)} {o : Ord} {who i : Nat} {s4 s6 : Option MV} {μ : Mu} (hi : i < 300) (hw : who < 300) : (GoodO pipes who o ∧ m_checked_b2 (KS pipes rows (some (.sh (.int i))) s4 (some (.sh (.int who))) s6 (some (.sh (Datum.toD o)))) μ = some (.nx (KS pipes rows (some (.sh (.int i))) s4 (some (.sh (.int who))) s6 (some (.sh (Datum.toD o)))), μ)) ∨
    (¬ GoodO pipes who o ∧ ∃ δ, m_checked_b2 (KS pipes rows (some (.sh (.int i))) s4 (some (.sh (.int who))) s6 (some (.sh (Datum.toD o)))) μ = some (.ex 2 δ, μ)) := by
  generalize hδ : KS pipes rows (some (.sh (.int i))) s4 (some (.sh (.int who))) s6 (some (.sh (Datum.toD o))) = δ
  have h7 : mVar 7 δ = M.ret (.sh (Datum.toD o)) := by rw [← hδ]; rfl
  have h3 : mVar 3 δ = M.ret (.sh (.int i)) := by rw [← hδ]; rfl
  have h5 : mVar 5 δ = M.ret (.sh (.int who)) := by rw [← hδ]; rfl
  have h1 : mVar 1 δ = M.ret (.sh (Datum.toD pipes)) := by rw [← hδ]; rfl
  have ec : mCallP 3 is_order (mCons (mVar 7) (mCons (mVar 1) (mCons (mVar 5) mNil))) δ = M.ret (.sh (.bool (decide (GoodO pipes who o)))) := by
    rw [mCallP_ev, mCons_ev, h7, ret_bind, mCons_ev, h1, ret_bind, mCons_ev, h5, ret_bind, mNil_ev, ret_bind, ret_bind, ret_bind, ret_bind, if_pos ⟨rfl, rfl⟩, is_order_ok]
    rfl
  unfold m_checked_b2
  rw [if_b (not_at (tru_at (at_ret ec)))]
  by_cases h : GoodO pipes who o
  · rw [decide_eq_true h, if_neg (by decide)]
    exact .inl ⟨h, rfl⟩
  · rw [decide_eq_false h, if_pos (by decide)]
    obtain ⟨y, hy, ey⟩ := fmt_i h5 hw
    obtain ⟨z, hz, ez⟩ := fmt_i h3 hi
    refine .inr ⟨h, δ, raise_at (x := .sh (.str (Str.empty ++ "worker " ++ y ++ " cannot be given the order at place " ++ z))) ?_⟩
    have z0 : Str.empty.length = 0 := rfl
    have z1 : (Str.ofString "worker ").length = 7 := by decide
    have z2 : (Str.ofString " cannot be given the order at place ").length = 36 := by decide
    rw [join_c (by rw [len_app, sizeLine_eq]; omega), join_m ey (by rw [len_app, len_app, sizeLine_eq]; omega), join_c (by rw [len_app, len_app, len_app, sizeLine_eq]; omega), join_m ez (by rw [len_app, len_app, len_app, len_app, sizeLine_eq]; omega), join_nil]
theorem checked_ok {pipes : List Pipe} {rows : List (List Ord)} (hp : pipes.length < 300) (hr : rows.length < 300) (ho : ∀ r ∈ rows, r.length < 300) (μ : Mu) : (¬ AllP pipes rows ∧ checked [.sh (Datum.toD ((pipes, rows) : Net))] μ = some (.exc 1, μ)) ∨
    (AllP pipes rows ∧ ¬ AllO pipes rows ∧ checked [.sh (Datum.toD ((pipes, rows) : Net))] μ = some (.exc 2, μ)) ∨
    (AllP pipes rows ∧ AllO pipes rows ∧ checked [.sh (Datum.toD ((pipes, rows) : Net))] μ = some (.ok (.tp [.cell μ.length, .cell (μ.length + 1 + rows.length)]), QMu (μ ++ PMu pipes) rows)) := by
  have first : mAsg (gTupM 2 (gConsM (gNameM 1) (gConsM (gNameM 2) gNilM))) (mVar 0) (startM 8 [.sh (Datum.toD ((pipes, rows) : Net))]) μ = some (.nx (KS pipes rows none none none none none), μ) := asgG_at (at_ret rfl) rfl
  have body : ∀ {o : Out} {μ' : Mu} {r : Res MV}, m_checked (startM 8 [.sh (Datum.toD ((pipes, rows) : Net))]) μ = some (o, μ') → ((∃ c δ, o = .ex c δ ∧ r = .exc c) ∨ (∃ x, o = .rt x ∧ r = .ok x)) → checked [.sh (Datum.toD ((pipes, rows) : Net))] μ = some (r, μ') := fun {o μ' r} e h => by
    unfold checked bodyI
    rw [e]
    rcases h with ⟨c, δ, rfl, rfl⟩ | ⟨x, rfl, rfl⟩ <;> rfl
  have h1 : ∀ {s3 s4 s5 s6 s7 : Option MV}, mVar 1 (KS pipes rows s3 s4 s5 s6 s7) = M.ret (.sh (.list (pipes.map Datum.toD))) := rfl
  have h2 : ∀ {s3 s4 s5 s6 s7 : Option MV}, mVar 2 (KS pipes rows s3 s4 s5 s6 s7) = M.ret (.sh (.list (rows.map Datum.toD))) := rfl
  have l1 := forL_searchS (g := gTupM 2 (gConsM (gNameM 3) (gConsM (gNameM 4) gNilM))) (body := m_checked_b1) (ws := [4]) (xs := enumI 0 ((pipes.map Datum.toD).map .sh)) (δ := KS pipes rows none none none none none) (μ := μ) (fun δ => ∃ s3, δ = KS pipes rows s3 none none none none)
    (fun i _ => ∃ p, pipes[i]? = some p ∧ ¬ GoodP rows.length p) (fun o => ∃ δ, o = .ex 1 δ) (fun o ⟨δ, h⟩ => .inr ⟨1, δ, h⟩) ⟨none, rfl⟩ (fun i x δ hS hx => by
      obtain ⟨s3, rfl⟩ := hS
      obtain ⟨p, hp', rfl⟩ := enum_at hx
      have hi : i < 300 := Nat.lt_trans (List.getElem?_eq_some_iff.mp hp').1 hp
      refine ⟨KS pipes rows (some (.sh (.int i))) (some (.sh (Datum.toD p))) none none none, rfl, ?_⟩
      rcases chk_b1 (pipes := pipes) (rows := rows) (p := p) (s5 := none) (s6 := none) (s7 := none) (μ := μ) hi with ⟨hg, e⟩ | ⟨hg, δ, e⟩
      · exact .inr ⟨fun ⟨q, e', n⟩ => by rw [hp'] at e'; cases e'; exact n hg, _, .inl e, ⟨_, rfl⟩⟩
      · exact .inl ⟨⟨p, hp', hg⟩, _, e, δ, rfl⟩)
  have s1 : mFor (mEnum (mCons (mVar 1) mNil)) (gTupM 2 (gConsM (gNameM 3) (gConsM (gNameM 4) gNilM))) m_checked_b1 [4] (KS pipes rows none none none none none) μ = forL (gTupM 2 (gConsM (gNameM 3) (gConsM (gNameM 4) gNilM))) m_checked_b1 [4] (enumI 0 ((pipes.map Datum.toD).map .sh)) (KS pipes rows none none none none none) μ := by
    rw [for_st (at_ret (enum_src h1))]
    rfl
  rcases l1 with ⟨o, e1, ⟨δ, rfl⟩, i, x, _, p, hp', hn⟩ | ⟨δ', ⟨s3, rfl⟩, e1, all1⟩
  · refine .inl ⟨fun z => hn (z p (List.mem_of_getElem? hp')), body (o := .ex 1 δ) ?_ (.inl ⟨1, δ, rfl, rfl⟩)⟩
    unfold m_checked
    rw [seq_nx first, seq_ex (s1.trans e1)]
  · have hAP : AllP pipes rows := fun p hp' => by
      obtain ⟨i, hi⟩ := List.getElem?_of_mem hp'
      exact Classical.byContradiction fun n => all1 i _ (enum_of hi) ⟨p, hi, n⟩
    have inner : ∀ (who : Nat) (r : List Ord) (s3 : Option MV), who < 300 → r.length < 300 → (∃ o, m_checked_b3 (KS pipes rows s3 none (some (.sh (.int who))) (some (.sh (Datum.toD r))) none) μ = some (o, μ) ∧ (∃ δ, o = .ex 2 δ) ∧ ∃ q ∈ r, ¬ GoodO pipes who q) ∨
        (∃ s3', m_checked_b3 (KS pipes rows s3 none (some (.sh (.int who))) (some (.sh (Datum.toD r))) none) μ = some (.nx (KS pipes rows s3' none (some (.sh (.int who))) (some (.sh (Datum.toD r))) none), μ) ∧ ∀ q ∈ r, GoodO pipes who q) := fun who r s3 hw hrl => by
      have l2 := forL_searchS (g := gTupM 2 (gConsM (gNameM 3) (gConsM (gNameM 7) gNilM))) (body := m_checked_b2) (ws := [7]) (xs := enumI 0 ((r.map Datum.toD).map .sh)) (δ := KS pipes rows s3 none (some (.sh (.int who))) (some (.sh (Datum.toD r))) none) (μ := μ)
        (fun δ => ∃ s3, δ = KS pipes rows s3 none (some (.sh (.int who))) (some (.sh (Datum.toD r))) none)
        (fun i _ => ∃ q, r[i]? = some q ∧ ¬ GoodO pipes who q) (fun o => ∃ δ, o = .ex 2 δ) (fun o ⟨δ, h⟩ => .inr ⟨2, δ, h⟩) ⟨s3, rfl⟩ (fun i x δ hS hx => by
          obtain ⟨s3, rfl⟩ := hS
          obtain ⟨q, hq, rfl⟩ := enum_at hx
          have hi : i < 300 := Nat.lt_trans (List.getElem?_eq_some_iff.mp hq).1 hrl
          refine ⟨KS pipes rows (some (.sh (.int i))) none (some (.sh (.int who))) (some (.sh (Datum.toD r))) (some (.sh (Datum.toD q))), rfl, ?_⟩
          rcases chk_b2 (pipes := pipes) (rows := rows) (o := q) (who := who) (s4 := none) (s6 := some (.sh (Datum.toD r))) (μ := μ) hi hw with ⟨hg, e⟩ | ⟨hg, δ, e⟩
          · exact .inr ⟨fun ⟨q', e', n⟩ => by rw [hq] at e'; cases e'; exact n hg, _, .inl e, ⟨_, rfl⟩⟩
          · exact .inl ⟨⟨q, hq, hg⟩, _, e, δ, rfl⟩)
      unfold m_checked_b3
      rw [for_st (at_ret (enum_src (show mVar 6 _ = M.ret (.sh (.list (r.map Datum.toD))) from rfl)))]
      rcases l2 with ⟨o, e, t, i, x, _, q, hq, n⟩ | ⟨δ', ⟨s3', rfl⟩, e, all⟩
      · exact .inl ⟨o, e, t, q, List.mem_of_getElem? hq, n⟩
      · refine .inr ⟨s3', e, fun q hq => ?_⟩
        obtain ⟨i, hi⟩ := List.getElem?_of_mem hq
        exact Classical.byContradiction fun n => all i _ (enum_of hi) ⟨q, hi, n⟩
    have l3 := forL_searchS (g := gTupM 2 (gConsM (gNameM 5) (gConsM (gNameM 6) gNilM))) (body := m_checked_b3) (ws := [5, 6, 7]) (xs := enumI 0 ((rows.map Datum.toD).map .sh)) (δ := KS pipes rows s3 none none none none) (μ := μ) (fun δ => ∃ s3, δ = KS pipes rows s3 none none none none)
      (fun i _ => ∃ r, rows[i]? = some r ∧ ∃ q ∈ r, ¬ GoodO pipes i q) (fun o => ∃ δ, o = .ex 2 δ) (fun o ⟨δ, h⟩ => .inr ⟨2, δ, h⟩) ⟨s3, rfl⟩ (fun i x δ hS hx => by
        obtain ⟨s3, rfl⟩ := hS
        obtain ⟨r, hr', rfl⟩ := enum_at hx
        have hi : i < 300 := by have := (List.getElem?_eq_some_iff.mp hr').1; omega
        refine ⟨KS pipes rows s3 none (some (.sh (.int i))) (some (.sh (Datum.toD r))) none, rfl, ?_⟩
        rcases inner i r s3 hi (ho r (List.mem_of_getElem? hr')) with ⟨o, e, t, q, hq, n⟩ | ⟨s3', e, all⟩
        · exact .inl ⟨⟨r, hr', q, hq, n⟩, o, e, t⟩
        · exact .inr ⟨fun ⟨r', e', q, hq, n⟩ => by rw [hr'] at e'; cases e'; exact n (all q hq), _, .inl e, ⟨_, rfl⟩⟩)
    have s2 : mFor (mEnum (mCons (mVar 2) mNil)) (gTupM 2 (gConsM (gNameM 5) (gConsM (gNameM 6) gNilM))) m_checked_b3 [5, 6, 7] (KS pipes rows s3 none none none none) μ = forL (gTupM 2 (gConsM (gNameM 5) (gConsM (gNameM 6) gNilM))) m_checked_b3 [5, 6, 7] (enumI 0 ((rows.map Datum.toD).map .sh)) (KS pipes rows s3 none none none none) μ := by
      rw [for_st (at_ret (enum_src h2))]
      rfl
    rcases l3 with ⟨o, e, ⟨δ, rfl⟩, i, x, _, r, hr', q, hq, n⟩ | ⟨δ', ⟨s3', rfl⟩, e, all⟩
    · refine .inr (.inl ⟨hAP, fun z => n (z i r hr' q hq), body (o := .ex 2 δ) ?_ (.inl ⟨2, δ, rfl, rfl⟩)⟩)
      unfold m_checked
      rw [seq_nx first, seq_nx (s1.trans e1), seq_ex (s2.trans e)]
    · refine .inr (.inr ⟨hAP, fun who r hr' q hq => Classical.byContradiction fun n => all who _ (enum_of hr') ⟨r, hr', q, hq, n⟩, body (o := .rt _) ?_ (.inr ⟨_, rfl, rfl⟩)⟩)
      unfold m_checked
      rw [seq_nx first, seq_nx (s1.trans e1), seq_nx (s2.trans e)]
      exact ret_at (mCallI_at (k := 2) (xs := [.sh (Datum.toD pipes), .sh (Datum.toD rows)]) (at_ret rfl) rfl (copied_new hr))
end LW

set_option Elab.async false
set_option linter.all false
set_option maxRecDepth 100000
set_option maxHeartbeats 2000000
set_option exponentiation.threshold 300
namespace LW
open PySem PySem.W PD NumText
local macro_rules | `(tactic| walk_at "ev") => `(tactic| simp (disch := first | assumption | decide | omega) only [ret_bind, opt_some, look_some, mVar_0, mVar_s, mC_ev, mOp2_ev, mOp1_ev, mNil_ev, mCons_ev, mCB_ev, mTest_ev, isB_ev, mAnd_ev, mOr_ev, mNot_ev, mAndV_ev, mOrV_ev, mNotV_ev, mIf_ev, mChain_ev, mTru_ev, truM_b, mTup_ev, mLst_ev,
  mkL_nil, mkL_1, mkL_2, mkL_3, mkL_4, mkT_2, mkT_3, mkT_4, mI2_ev, mI1_ev, fMod_ev, fDiv_ev, fPow_ev, mAdd_i, mMul_i, mEq_int, mEq_str, mEq_bool, mIx_l, mIx_t, mIx_s, mLen_l, mLen_t, mLen_s, mI2L_ev, mIsi_ev, isiM, kindM, isiT, liftR_ok, mCallP_ev,
  mSeq_ev, sbind_nx, sbind_rt, sbind_ct, sbind_bk, sbind_ex, withV_ret, asg_some, mAsg_name, mNext_ev, mCont_ev, mBreak_ev, mRetN_ev, mRaise_ev, mRet_ev, mDrop_ev, mIfS_ev, atI_0, atI_1, atI_2, atI_3,
  start_ev, List.map_cons, List.map_nil, List.length_cons, List.length_nil, Nat.reduceAdd, Nat.reduceSub, Nat.zero_add, List.replicate_succ, List.replicate_zero, List.cons_append, List.nil_append, List.append_nil, List.set_cons_zero, List.set_cons_succ, Nat.reduceLeDiff, if_true, if_false, Bool.false_eq_true, Bool.true_eq_false, Bool.not_true, Bool.not_false, decide_eq_true_eq, decide_true, decide_false, Bool.and_true, Bool.true_and, Bool.and_false, Bool.false_and, Bool.or_true, Bool.or_false, Bool.true_or, Bool.false_or, List.all_cons, List.all_nil, cf, and_self, and_true, true_and, Nat.le_refl, Option.map_some, reduceCtorEq])
/-! ### what the program asks of a word and of a line -/
def isCount (p : Str) : Bool := if (!Txt.isascii p || !Txt.isdigit p) = true then false else (decide (p = "0") || !Txt.startswith p "0")
def isNumber (p : Str) : Bool := if Txt.startswith p "-" = true then (!decide (p = "-0") && isCount (L2.cutS p (some 1) none)) else isCount p
def isLineP (w : Str) (ps : List Str) (k : Int) : Bool :=
  if w = "worker" then ps.isEmpty
  else if w = "pipe" then (decide (k = 0) && (decide ((ps.length : Int) = 3) && ps.all isCount))
  else if k = 0 ∨ ¬ (ps.length : Int) = 1 then false
  else if w = "set" then isNumber (ps.getD 0 "")
  else (decide (w = "put" ∨ w = "take" ∨ w = "add") && isCount (ps.getD 0 ""))
theorem str0F {g : Str → Bool} {o : Sl → M MV} {δ : Sl} {a : Str} (h : o δ = M.ret (.sh (.str a))) : mStr0 g o δ = M.ret (.sh (.bool (g a))) := by
  unfold mStr0
  rw [h]
  rfl
theorem strMF {f : Str → List MV → M MV} {o : Sl → M MV} {a : Sl → M (List MV)} {δ : Sl} {z : Str} {ys : List MV} (h : o δ = M.ret (.sh (.str z))) (ha : a δ = M.ret ys) : mStrM f o a δ = f z ys := by
  unfold mStrM
  rw [h, ret_bind]
  dsimp only
  rw [ha, ret_bind]
theorem notF {a : Sl → M Bool} {δ : Sl} {b : Bool} (h : a δ = M.ret b) : mNot a δ = M.ret (!b) := by rw [mNot_ev, h, ret_bind]
theorem orF {a b : Sl → M Bool} {δ : Sl} {x y : Bool} (ha : a δ = M.ret x) (hb : b δ = M.ret y) : mOr a b δ = M.ret (x || y) := by
  rw [mOr_ev, ha, ret_bind, hb]
  cases x <;> rfl
theorem andF {a b : Sl → M Bool} {δ : Sl} {x y : Bool} (ha : a δ = M.ret x) (hb : b δ = M.ret y) : mAnd a b δ = M.ret (x && y) := by
  rw [mAnd_ev, ha, ret_bind, hb]
  cases x <;> rfl
theorem orVF {a b : Sl → M MV} {δ : Sl} {x y : Bool} (ha : a δ = M.ret (.sh (.bool x))) (hb : b δ = M.ret (.sh (.bool y))) : mOrV a b δ = M.ret (.sh (.bool (x || y))) := by
  rw [mOrV_ev, ha, ret_bind, isB_ev, opt_some, ret_bind, hb]
  cases x <;> rfl
theorem andVF {a b : Sl → M MV} {δ : Sl} {x y : Bool} (ha : a δ = M.ret (.sh (.bool x))) (hb : b δ = M.ret (.sh (.bool y))) : mAndV a b δ = M.ret (.sh (.bool (x && y))) := by
  rw [mAndV_ev, ha, ret_bind, isB_ev, opt_some, ret_bind, hb]
  cases x <;> rfl
theorem notVF {a : Sl → M MV} {δ : Sl} {x : Bool} (ha : a δ = M.ret (.sh (.bool x))) : mNotV a δ = M.ret (.sh (.bool (!x))) := by
  rw [mNotV_ev, ha, ret_bind, isB_ev, opt_some, ret_bind]
theorem eqSF {neg : Bool} {a b : Sl → M MV} {δ : Sl} {x y : Str} (ha : a δ = M.ret (.sh (.str x))) (hb : b δ = M.ret (.sh (.str y))) : mOp2 (mEq neg) a b δ = M.ret (.sh (.bool (if neg = true then !decide (x = y) else decide (x = y)))) := by
  rw [mOp2_ev, ha, ret_bind, hb, ret_bind, mEq_str]
theorem eqIF {neg : Bool} {a b : Sl → M MV} {δ : Sl} {x y : Int} (ha : a δ = M.ret (.sh (.int x))) (hb : b δ = M.ret (.sh (.int y))) : mOp2 (mEq neg) a b δ = M.ret (.sh (.bool (if neg = true then !decide (x = y) else decide (x = y)))) := by
  rw [mOp2_ev, ha, ret_bind, hb, ret_bind, mEq_int]
theorem start1F {o b : Sl → M MV} {δ : Sl} {x y : Str} (ha : o δ = M.ret (.sh (.str x))) (hb : b δ = M.ret (.sh (.str y))) : mStrM (fStr1 Txt.startswith) o (mCons b mNil) δ = M.ret (.sh (.bool (Txt.startswith x y))) := by
  rw [strMF (ys := [.sh (.str y)]) ha (by rw [mCons_ev, hb]; rfl)]
  rfl
theorem is_count_ok (p : Str) : is_count [.sh (.str p)] = some (.ok (.bool (isCount p))) := by
  refine bodyP_rt ?_
  unfold m_is_count
  have hc : mOr (mNot (mTru (mStr0 Txt.isascii (mVar 0)))) (mNot (mTru (mStr0 Txt.isdigit (mVar 0)))) (startM 1 [.sh (.str p)]) = M.ret (!Txt.isascii p || !Txt.isdigit p) :=
    orF (notF (truF (str0F rfl))) (notF (truF (str0F rfl)))
  unfold isCount
  by_cases h : (!Txt.isascii p || !Txt.isdigit p) = true
  · rw [if_pos h, seqF_rt (x := .sh (.bool false)) (by rw [ifF hc, if_pos h]; rfl)]
  · rw [if_neg h, seqF_nx (δ' := startM 1 [.sh (.str p)]) (by rw [ifF hc, if_neg h]; rfl)]
    exact retF (orVF (eqSF rfl rfl) (notVF (start1F rfl rfl)))
theorem slF {p : Str} {δ : Sl} {m : Sl → M MV} {lo hi : Sl → M (Option Int)} {l h : Option Int} (hm : m δ = M.ret (.sh (.str p))) (hl : lo δ = M.ret l) (hh : hi δ = M.ret h) (hs : p.length ≤ sizeLine) : mSl false m lo hi δ = M.ret (.sh (.str (L2.cutS p l h))) := by
  unfold mSl
  rw [hm, ret_bind, hl, ret_bind, hh, ret_bind]
  dsimp only
  rw [if_pos hs]
theorem is_number_ok {p : Str} (hs : p.length ≤ sizeLine) : is_number [.sh (.str p)] = some (.ok (.bool (isNumber p))) := by
  refine bodyP_rt ?_
  unfold m_is_number
  have hc : mTru (mStrM (fStr1 Txt.startswith) (mVar 0) (mCons (mC (.str "-")) mNil)) (startM 1 [.sh (.str p)]) = M.ret (Txt.startswith p "-") := truF (start1F rfl rfl)
  unfold isNumber
  by_cases h : Txt.startswith p "-" = true
  · rw [if_pos h, seqF_rt (x := .sh (.bool (!decide (p = "-0") && isCount (L2.cutS p (some 1) none)))) (by
      rw [ifF hc, if_pos h]
      refine retF (andVF (eqSF rfl rfl) (callF (k := 1) (xs := [.sh (.str (L2.cutS p (some 1) none))]) ?_ ⟨rfl, rfl⟩ (is_count_ok _)))
      rw [mCons_ev, slF (p := p) (l := some 1) (h := none) rfl rfl rfl hs]
      rfl)]
  · rw [if_neg h, seqF_nx (δ' := startM 1 [.sh (.str p)]) (by rw [ifF hc, if_neg h]; rfl)]
    exact retF (callF (k := 1) (xs := [.sh (.str p)]) rfl ⟨rfl, rfl⟩ (is_count_ok _))
def strsL (ps : List Str) : PyData := .list (ps.map .str)
theorem boolsD_map {bs : List Bool} : boolsD (bs.map fun b => MV.sh (.bool b)) = some bs := by
  induction bs with
  | nil => rfl
  | cons b r ih =>
    show (boolsD (r.map fun b => MV.sh (.bool b))).map (b :: ·) = _
    rw [ih]
    rfl
theorem mAll_map {bs : List Bool} : mAll [.sh (.list (bs.map .bool))] = M.ret (.sh (.bool (bs.all id))) := by
  funext μ
  show (((some ((bs.map PyData.bool).map MV.sh)).bind boolsD).map fun bs => MV.sh (.bool (bs.all id))).map (fun b => (Res.ok b, μ)) = _
  rw [List.map_map]
  show (((boolsD (bs.map fun b => MV.sh (.bool b))).map fun bs => MV.sh (.bool (bs.all id))).map (fun b => (Res.ok b, μ))) = _
  rw [boolsD_map]
  rfl
theorem all_map {α : Type} (f : α → Bool) (l : List α) : (l.map f).all id = l.all f := by
  induction l with
  | nil => rfl
  | cons a r ih => rw [List.map_cons, List.all_cons, List.all_cons, ih]; rfl
theorem is_line_ok {w : Str} {ps : List Str} {k : Int} (hl : ps.length ≤ 100000) (hs : ∀ p ∈ ps, p.length ≤ sizeLine) : is_line [.sh (.str w), .sh (strsL ps), .sh (.int k)] = some (.ok (.bool (isLineP w ps k))) := by
  refine bodyP_rt ?_
  unfold m_is_line
  generalize hδ : startM 4 [.sh (.str w), .sh (strsL ps), .sh (.int k)] = δ
  have h0 : mVar 0 δ = M.ret (.sh (.str w)) := by rw [← hδ]; rfl
  have h1 : mVar 1 δ = M.ret (.sh (strsL ps)) := by rw [← hδ]; rfl
  have h2 : mVar 2 δ = M.ret (.sh (.int k)) := by rw [← hδ]; rfl
  have tw : ∀ z : Str, mTest (mOp2 (mEq false) (mVar 0) (mC (.str z))) δ = M.ret (decide (w = z)) := fun z => testF (eqSF h0 rfl)
  have hlen : mCB mLen (mCons (mVar 1) mNil) δ = M.ret (.sh (.int (ps.length : Int))) := by
    rw [mCB_ev, mCons_ev, h1]
    simp only [ret_bind, mNil_ev, strsL, mLen_l, List.length_map]
  unfold isLineP
  by_cases hw : w = "worker"
  · rw [if_pos hw, seqF_rt (x := .sh (.bool ps.isEmpty))]
    rw [ifF (tw "worker"), decide_eq_true hw, if_pos rfl]
    refine retF ?_
    unfold mNotTV
    rw [mTru_ev, h1, ret_bind]
    cases ps <;> rfl
  rw [if_neg hw, seqF_nx (δ' := δ) (by rw [ifF (tw "worker"), decide_eq_false hw]; rfl)]
  by_cases hp : w = "pipe"
  · rw [if_pos hp, seqF_rt (x := .sh (.bool (decide (k = 0) && (decide ((ps.length : Int) = 3) && ps.all isCount))))]
    rw [ifF (tw "pipe"), decide_eq_true hp, if_pos rfl]
    refine retF (andVF (eqIF h2 rfl) (andVF (eqIF hlen rfl) ?_))
    have ec : mComp false (mSeqS (mVar 1)) (gNameM 3) mYes (mCallP 1 is_count (mCons (mVar 3) mNil)) [3] δ = M.ret (.sh (.list (ps.map fun p => PyData.bool (isCount p)))) :=
      compF (e := PyData.str) (f := fun p => PyData.bool (isCount p)) (l := ps) (src_l h1) hl fun p _ => ⟨_, rfl, callF (k := 1) (xs := [.sh (.str p)]) (by rw [← hδ]; rfl) ⟨rfl, rfl⟩ (is_count_ok _)⟩
    rw [mCB_ev, mCons_ev, ec, ret_bind, mNil_ev, ret_bind, ret_bind]
    have := mAll_map (bs := ps.map isCount)
    rw [List.map_map, all_map] at this
    exact this
  rw [if_neg hp, seqF_nx (δ' := δ) (by rw [ifF (tw "pipe"), decide_eq_false hp]; rfl)]
  have hc : mOr (mTest (mOp2 (mEq false) (mVar 2) (mC (.int 0)))) (mTest (mOp2 (mEq true) (mCB mLen (mCons (mVar 1) mNil)) (mC (.int 1)))) δ = M.ret (decide (k = 0) || !decide ((ps.length : Int) = 1)) :=
    orF (testF (eqIF h2 rfl)) (testF (eqIF hlen rfl))
  by_cases hk : k = 0 ∨ ¬ (ps.length : Int) = 1
  · rw [if_pos hk, seqF_rt (x := .sh (.bool false))]
    rw [ifF hc, if_pos (by
      rw [Bool.or_eq_true, decide_eq_true_eq, Bool.not_eq_true', decide_eq_false_iff_not]
      exact hk)]
    rfl
  rw [if_neg hk, seqF_nx (δ' := δ) (by
    rw [ifF hc, if_neg (by
      rw [Bool.or_eq_true, decide_eq_true_eq, Bool.not_eq_true', decide_eq_false_iff_not]
      exact hk)]
    rfl)]
  obtain ⟨p, rfl⟩ : ∃ p, ps = [p] := by
    match ps, hk with
    | [], hk => exact absurd (.inr (by decide)) hk
    | [p], _ => exact ⟨p, rfl⟩
    | _ :: _ :: _, hk => exact absurd (.inr (by rw [List.length_cons, List.length_cons]; omega)) hk
  have hi : mOp2 mIx (mVar 1) (mC (.int 0)) δ = M.ret (.sh (.str p)) := by
    rw [mOp2_ev, h1, ret_bind, mC_ev, ret_bind]
    exact ixl_0
  show _ = S.ret (.rt (.sh (.bool (if w = "set" then isNumber p else (decide (w = "put" ∨ w = "take" ∨ w = "add") && isCount p)))))
  by_cases hset : w = "set"
  · rw [if_pos hset, seqF_rt (x := .sh (.bool (isNumber p)))]
    rw [ifF (tw "set"), decide_eq_true hset, if_pos rfl]
    exact retF (callF (k := 1) (xs := [.sh (.str p)]) (by rw [mCons_ev, hi]; rfl) ⟨rfl, rfl⟩ (is_number_ok (hs p List.mem_cons_self)))
  rw [if_neg hset, seqF_nx (δ' := δ) (by rw [ifF (tw "set"), decide_eq_false hset]; rfl)]
  refine retF (andVF ?_ (callF (k := 1) (xs := [.sh (.str p)]) (by rw [mCons_ev, hi]; rfl) ⟨rfl, rfl⟩ (is_count_ok p)))
  rw [mOp2_ev, h0, ret_bind, show mTup (mCons (mC (.str "put")) (mCons (mC (.str "take")) (mCons (mC (.str "add")) mNil))) δ = M.ret (.sh (.tuple [.str "put", .str "take", .str "add"])) by walk_at "ev", ret_bind]
  funext μ
  rw [in_words]
  rfl
end LW

set_option Elab.async false
set_option linter.all false
set_option maxRecDepth 100000
set_option maxHeartbeats 2000000
set_option exponentiation.threshold 300
namespace LW
open PySem PySem.W PD NumText
local macro_rules | `(tactic| walk_at "ev") => `(tactic| simp (disch := first | assumption | decide | omega) only [ret_bind, opt_some, look_some, mVar_0, mVar_s, mC_ev, mOp2_ev, mOp1_ev, mNil_ev, mCons_ev, mCB_ev, mTest_ev, isB_ev, mAnd_ev, mOr_ev, mNot_ev, mAndV_ev, mOrV_ev, mNotV_ev, mIf_ev, mChain_ev, mTru_ev, truM_b, mTup_ev, mLst_ev,
  mkL_nil, mkL_1, mkL_2, mkL_3, mkL_4, mkT_2, mkT_3, mkT_4, mI2_ev, mI1_ev, fMod_ev, fDiv_ev, fPow_ev, mAdd_i, mMul_i, mEq_int, mEq_str, mEq_bool, mIx_l, mIx_t, mIx_s, mLen_l, mLen_t, mLen_s, mI2L_ev, mIsi_ev, isiM, kindM, isiT, liftR_ok, mCallP_ev,
  mSeq_ev, sbind_nx, sbind_rt, sbind_ct, sbind_bk, sbind_ex, withV_ret, asg_some, mAsg_name, mNext_ev, mCont_ev, mBreak_ev, mRetN_ev, mRaise_ev, mRet_ev, mDrop_ev, mIfS_ev, atI_0, atI_1, atI_2, atI_3,
  start_ev, List.map_cons, List.map_nil, List.length_cons, List.length_nil, Nat.reduceAdd, Nat.reduceSub, Nat.zero_add, List.replicate_succ, List.replicate_zero, List.cons_append, List.nil_append, List.append_nil, List.set_cons_zero, List.set_cons_succ, Nat.reduceLeDiff, if_true, if_false, Bool.false_eq_true, Bool.true_eq_false, Bool.not_true, Bool.not_false, decide_eq_true_eq, decide_true, decide_false, Bool.and_true, Bool.true_and, Bool.and_false, Bool.false_and, Bool.or_true, Bool.or_false, Bool.true_or, Bool.false_or, List.all_cons, List.all_nil, cf, and_self, and_true, true_and, Nat.le_refl, Option.map_some, reduceCtorEq])
/-! ### words that are numbers -/
theorem isDigit_back {c : Nat} (h : c < 128) (hd : Unicode.isDigit c = true) : 48 ≤ c ∧ c ≤ 57 := by
  have key : ∀ i : Fin 128, Unicode.isDigit i.val = true → 48 ≤ i.val ∧ i.val ≤ 57 := by decide +kernel
  exact key ⟨c, h⟩ hd
theorem arr_all {p : Nat → Bool} {a : Array Nat} (h : a.all p = true) : ∀ c ∈ a.toList, p c = true := by
  rw [← Array.all_toList] at h
  exact List.all_eq_true.mp h
theorem digits_back {x : Str} (h1 : Txt.isascii x = true) (h2 : Txt.isdigit x = true) : AllDigits x.cps.toList ∧ x.cps.toList ≠ [] := by
  unfold Txt.isdigit at h2
  rw [Bool.and_eq_true] at h2
  constructor
  · intro c hc
    have a := arr_all h1 c hc
    exact isDigit_back (by have := of_decide_eq_true a; omega) (arr_all h2.2 c hc)
  · intro e
    have := of_decide_eq_true h2.1
    rw [len_toList, e] at this
    exact absurd this (by decide)
/-- what a word from nought on is: figures, no nought ahead but alone -/
theorem count_iff (p : Str) : isCount p = true ↔ (AllDigits p.cps.toList ∧ p.cps.toList ≠ []) ∧ (p = "0" ∨ Txt.startswith p "0" = false) := by
  unfold isCount
  constructor
  · intro h
    split at h
    · cases h
    · rename_i hn
      rw [Bool.or_eq_true, Bool.not_eq_true', Bool.not_eq_true'] at hn
      have h1 : Txt.isascii p = true := by
        cases e : Txt.isascii p
        · exact absurd (.inl e) hn
        · rfl
      have h2 : Txt.isdigit p = true := by
        cases e : Txt.isdigit p
        · exact absurd (.inr e) hn
        · rfl
      refine ⟨digits_back h1 h2, ?_⟩
      rw [Bool.or_eq_true, decide_eq_true_eq, Bool.not_eq_true'] at h
      exact h
  · rintro ⟨⟨h1, h2⟩, h3⟩
    obtain ⟨a, b⟩ := digits_ask h1 h2
    rw [a, b, if_neg (by decide), Bool.or_eq_true, decide_eq_true_eq, Bool.not_eq_true']
    exact h3
def numP (p : Str) : Int := (PySem.intText? p).getD 0
theorem count_int {p : Str} (h : isCount p = true) (hl : p.length ≤ 600) : PySem.intText? p = some ((digitsVal p.cps.toList : Nat) : Int) := by
  obtain ⟨⟨h1, h2⟩, _⟩ := (count_iff p).mp h
  exact intText_digits h1 h2 (by omega)
theorem cut_one {p : Str} {a : Nat} {r : List Nat} (h : p.cps.toList = a :: r) : (L2.cutS p (some 1) none).cps.toList = r := by
  have hl : p.length = r.length + 1 := by
    rw [len_toList, h]
    rfl
  unfold L2.cutS
  rw [show HT.sIx p.length 0 (some 1) = 1 by
    rw [show (some (1 : Int)) = some ((1 : Nat) : Int) from rfl, HT.sIx_nat]
    omega, HT.sIx_none, h, hl]
  simp
theorem starts_iff {p : Str} {c : Nat} : Txt.startswith p ⟨#[c]⟩ = true ↔ ∃ r, p.cps.toList = c :: r := by
  constructor
  · intro h
    cases e : p.cps.toList with
    | nil =>
      exfalso
      unfold Txt.startswith at h
      rw [Bool.and_eq_true] at h
      have := of_decide_eq_true h.1
      rw [len_toList p, e] at this
      have h2 : 0 + 1 ≤ 0 := this
      omega
    | cons a r =>
      rw [starts_sign e] at h
      exact ⟨r, by rw [of_decide_eq_true h]⟩
  · rintro ⟨r, h⟩
    rw [starts_sign h]
    exact decide_eq_true rfl
theorem minus_str : ("-" : Str) = ⟨#[45]⟩ := by decide +kernel
theorem nought_str : ("0" : Str) = ⟨#[48]⟩ := by decide +kernel
theorem number_int {p : Str} (h : isNumber p = true) (hl : p.length ≤ 600) : ∃ n, PySem.intText? p = some n := by
  unfold isNumber at h
  split at h
  · rename_i hs
    rw [minus_str] at hs
    obtain ⟨r, hr⟩ := starts_iff.mp hs
    rw [Bool.and_eq_true] at h
    obtain ⟨⟨h1, h2⟩, _⟩ := (count_iff _).mp h.2
    rw [cut_one hr] at h1 h2
    exact ⟨_, intText_neg hr h1 h2 (by omega)⟩
  · exact ⟨_, count_int h hl⟩
theorem line_int {w : Str} {ps : List Str} {k : Int} (h : isLineP w ps k = true) (hl : ∀ p ∈ ps, p.length ≤ 600) : ∀ p ∈ ps, PySem.intText? p = some (numP p) := by
  have key : ∀ p ∈ ps, ∃ n, PySem.intText? p = some n := by
    unfold isLineP at h
    split at h
    · intro p hp
      rw [List.isEmpty_iff.mp h] at hp
      cases hp
    · split at h
      · intro p hp
        rw [Bool.and_eq_true, Bool.and_eq_true] at h
        exact ⟨_, count_int (List.all_eq_true.mp h.2.2 p hp) (hl p hp)⟩
      · split at h
        · cases h
        · rename_i hk
          obtain ⟨q, rfl⟩ : ∃ q, ps = [q] := by
            match ps, hk with
            | [], hk => exact absurd (.inr (by decide)) hk
            | [p], _ => exact ⟨p, rfl⟩
            | _ :: _ :: _, hk => exact absurd (.inr (by rw [List.length_cons, List.length_cons]; omega)) hk
          intro p hp
          rw [List.mem_singleton.mp hp]
          split at h
          · exact number_int h (hl q List.mem_cons_self)
          · rw [Bool.and_eq_true] at h
            exact ⟨_, count_int h.2 (hl q List.mem_cons_self)⟩
  intro p hp
  obtain ⟨n, e⟩ := key p hp
  unfold numP
  rw [e]
  rfl
/-! ### joined texts' lengths -/
theorem join_len (c : Nat) : ∀ P : List Str, (∀ p ∈ P, p.length ≤ (Str.join ⟨#[c]⟩ P).length) ∧ P.length ≤ (Str.join ⟨#[c]⟩ P).length + 1
  | [] => ⟨fun p h => absurd h List.not_mem_nil, by simp⟩
  | [x] => ⟨fun p h => by rw [List.mem_singleton.mp h, join_one']; exact Nat.le_refl _, by simp⟩
  | x :: y :: r => by
    obtain ⟨h1, h2⟩ := join_len c (y :: r)
    have e := congrArg List.length (join_two' c x y r)
    rw [List.length_append, List.length_cons, ← len_toList, ← len_toList, ← len_toList] at e
    refine ⟨fun p hp => ?_, ?_⟩
    · rcases List.mem_cons.mp hp with z | z
      · rw [z]
        omega
      · have := h1 p z
        omega
    · rw [List.length_cons]
      omega
theorem split_len (c : Nat) (x : Str) : (∀ p ∈ Txt.split x ⟨#[c]⟩, p.length ≤ x.length) ∧ (Txt.split x ⟨#[c]⟩).length ≤ x.length + 1 := by
  have h := join_len c (Txt.split x ⟨#[c]⟩)
  have e : Str.join ⟨#[c]⟩ (Txt.split x ⟨#[c]⟩) = x := StrLaws.join_split x ⟨#[c]⟩
  rw [e] at h
  exact h
theorem split_ne (x y : Str) : ∃ w ps, Txt.split x y = w :: ps := by
  have := PyProof.Rows.split_pos x y
  cases h : Txt.split x y with
  | nil =>
    rw [h] at this
    simp at this
  | cons w ps => exact ⟨w, ps, rfl⟩
end LW

set_option Elab.async false
set_option linter.all false
set_option maxRecDepth 100000
set_option maxHeartbeats 2000000
set_option exponentiation.threshold 300
namespace LW
open PySem PySem.W PD NumText
local macro_rules | `(tactic| walk_at "ev") => `(tactic| simp (disch := first | assumption | decide | omega) only [ret_bind, opt_some, look_some, mVar_0, mVar_s, mC_ev, mOp2_ev, mOp1_ev, mNil_ev, mCons_ev, mCB_ev, mTest_ev, isB_ev, mAnd_ev, mOr_ev, mNot_ev, mAndV_ev, mOrV_ev, mNotV_ev, mIf_ev, mChain_ev, mTru_ev, truM_b, mTup_ev, mLst_ev,
  mkL_nil, mkL_1, mkL_2, mkL_3, mkL_4, mkT_2, mkT_3, mkT_4, mI2_ev, mI1_ev, fMod_ev, fDiv_ev, fPow_ev, mAdd_i, mMul_i, mEq_int, mEq_str, mEq_bool, mIx_l, mIx_t, mIx_s, mLen_l, mLen_t, mLen_s, mI2L_ev, mIsi_ev, isiM, kindM, isiT, liftR_ok, mCallP_ev,
  mSeq_ev, sbind_nx, sbind_rt, sbind_ct, sbind_bk, sbind_ex, withV_ret, asg_some, mAsg_name, mNext_ev, mCont_ev, mBreak_ev, mRetN_ev, mRaise_ev, mRet_ev, mDrop_ev, mIfS_ev, atI_0, atI_1, atI_2, atI_3,
  start_ev, List.map_cons, List.map_nil, List.length_cons, List.length_nil, Nat.reduceAdd, Nat.reduceSub, Nat.zero_add, List.replicate_succ, List.replicate_zero, List.cons_append, List.nil_append, List.append_nil, List.set_cons_zero, List.set_cons_succ, Nat.reduceLeDiff, if_true, if_false, Bool.false_eq_true, Bool.true_eq_false, Bool.not_true, Bool.not_false, decide_eq_true_eq, decide_true, decide_false, Bool.and_true, Bool.true_and, Bool.and_false, Bool.false_and, Bool.or_true, Bool.or_false, Bool.true_or, Bool.false_or, List.all_cons, List.all_nil, cf, and_self, and_true, true_and, Nat.le_refl, Option.map_some, reduceCtorEq])
/-! ### a text read, line by line -/
def pipeOf : List Str → Pipe
  | [a, b, c] => ⟨numP a, numP b, numP c⟩
  | _ => ⟨0, 0, 0⟩
def addLast (rows : Rows) (o : Ord) : Rows := rows.set (rows.length - 1) (rows.getD (rows.length - 1) [] ++ [o])
def stepW (ps : List Pipe) (rows : Rows) (w : Str) (qs : List Str) : List Pipe × Rows :=
  if w = "pipe" then (ps ++ [pipeOf qs], rows) else if w = "worker" then (ps, rows ++ [[]]) else (ps, addLast rows (w, numP (qs.getD 0 "")))
def stepP (st : List Pipe × Rows) : List Str → Option (List Pipe × Rows)
  | w :: qs => if isLineP w qs (st.2.length : Int) = true then some (stepW st.1 st.2 w qs) else none
  | [] => none
def readL : List Str → List Pipe × Rows → Option (List Pipe × Rows)
  | [], st => some st
  | l :: r, st => match stepP st (Txt.split l ⟨#[32]⟩) with
    | some st' => readL r st'
    | none => none
def readP (text : Str) : Option (List Pipe × Rows) := match readL (Txt.split text ⟨#[10]⟩) ([], []) with
  | some st => if st.2 = [] then none else some st
  | none => none
theorem blank_str : (" " : Str) = ⟨#[32]⟩ := by decide +kernel
theorem end_str : ("\n" : Str) = ⟨#[10]⟩ := by decide +kernel
/-! the heap of a reading -/
def encP (p : Pipe) : MV := .sh (Datum.toD p)
def VMu (ps : List Pipe) (rows : Rows) : Mu := ps.map encP :: (List.range rows.length).map (fun i => MV.cell (2 + i)) :: rows.map fun r => r.map encO
theorem vmu_row {ps : List Pipe} {rows : Rows} {i : Nat} {r : List Ord} (h : rows[i]? = some r) : (VMu ps rows)[2 + i]? = some (r.map encO) := by
  rw [Nat.add_comm]
  show (rows.map fun r => r.map encO)[i]? = _
  rw [List.getElem?_map, h]
  rfl
theorem vmu_addP {ps : List Pipe} {rows : Rows} {p : Pipe} : (VMu ps rows).set 0 (ps.map encP ++ [encP p]) = VMu (ps ++ [p]) rows := by
  unfold VMu
  rw [List.map_append]
  rfl
theorem vmu_addR {ps : List Pipe} {rows : Rows} : (VMu ps rows ++ [[]]).set 1 ((List.range rows.length).map (fun i => MV.cell (2 + i)) ++ [MV.cell (2 + rows.length)]) = VMu ps (rows ++ [[]]) := by
  unfold VMu
  rw [List.length_append, List.length_singleton, List.range_succ, List.map_append, List.map_append]
  rfl
theorem vmu_addO {ps : List Pipe} {rows : Rows} {i : Nat} {r : List Ord} : (VMu ps rows).set (2 + i) (r.map encO) = VMu ps (rows.set i r) := by
  rw [Nat.add_comm]
  show ps.map encP :: (List.range rows.length).map (fun i => MV.cell (2 + i)) :: (rows.map fun r => r.map encO).set i (r.map encO) = _
  unfold VMu
  rw [List.length_set, List.map_set]
theorem callP_at {k : Nat} {f : List MV → Option (Res PyData)} {ma : Sl → M (List MV)} {δ : Sl} {μ μ' : Mu} {xs : List MV} (ha : ma δ μ = some (.ok xs, μ')) (hk : xs.length = k ∧ xs.all cf = true) : mCallP k f ma δ μ = liftR (f xs) μ' := by
  rw [mCallP_ev, bindA, ha]
  dsimp only
  rw [if_pos hk]
theorem splitF {o a : Sl → M MV} {δ : Sl} {x : Str} {c : Nat} (ho : o δ = M.ret (.sh (.str x))) (ha : a δ = M.ret (.sh (.str ⟨#[c]⟩))) (hl : x.length ≤ 1000000) : mStrM fSplit o (mCons a mNil) δ = M.ret (.sh (strsL (Txt.split x ⟨#[c]⟩))) := by
  rw [strMF (ys := [.sh (.str ⟨#[c]⟩)]) ho (by rw [mCons_ev, ha]; rfl)]
  unfold fSplit
  dsimp only
  rw [if_pos ⟨rfl, hl⟩]
  have := mkL_sh ((Txt.split x ⟨#[c]⟩).map PyData.str)
  rw [List.map_map] at this
  exact this
theorem log2_num {n : Int} (h : n.natAbs < 10 ^ 60) : n.natAbs.log2 < 1920 := by
  by_cases h0 : n.natAbs = 0
  · rw [h0]
    decide
  · rw [Nat.log2_lt h0]
    refine Nat.lt_trans h (?_ : (10 : Nat) ^ 60 < 2 ^ 1920)
    exact (by
      have : (10 : Nat) ^ 60 < 2 ^ 200 := by decide
      exact Nat.lt_of_lt_of_le this (Nat.pow_le_pow_right (by decide) (by decide)))
theorem fmtF {m : Sl → M MV} {δ : Sl} {n : Int} (h : m δ = M.ret (.sh (.int n))) (hn : n.natAbs < 10 ^ 60) : mFmt m δ = M.ret (.sh (.str (numT n))) := by
  unfold mFmt
  rw [h, ret_bind]
  dsimp only
  rw [if_pos (log2_num hn)]
def RB (text : Str) (s3 s4 s5 s6 s8 : Option MV) : Sl := [some (.sh (.str text)), some (.cell 0), some (.cell 1), s3, s4, s5, s6, none, s8]
theorem star_at {i j : Nat} {me : Sl → M MV} {δ : Sl} {d : PyData} {ds : List PyData} {μ : Mu} (h : me δ = M.ret (.sh (.list (d :: ds)))) : mStar i j me δ μ = some (.nx ((δ.set i (some (.sh d))).set j (some (.sh (.list ds)))), μ) := by
  unfold mStar
  rw [h]
  rfl
theorem one_of {qs : List Str} (h : (qs.length : Int) = 1) : ∃ q, qs = [q] := by
  match qs, h with
  | [], h => cases h
  | [p], _ => exact ⟨p, rfl⟩
  | _ :: _ :: _, h => rw [List.length_cons, List.length_cons] at h; omega
theorem three_of {qs : List Str} (h : (qs.length : Int) = 3) : ∃ a b c, qs = [a, b, c] := by
  match qs, h with
  | [], h => cases h
  | [_], h => cases h
  | [_, _], h => cases h
  | [a, b, c], _ => exact ⟨a, b, c, rfl⟩
  | _ :: _ :: _ :: _ :: _, h => rw [List.length_cons, List.length_cons, List.length_cons, List.length_cons] at h; omega
theorem line_cases {w : Str} {qs : List Str} {k : Int} (h : isLineP w qs k = true) : (w = "worker" ∧ qs = []) ∨ (w = "pipe" ∧ k = 0 ∧ ∃ a b c, qs = [a, b, c]) ∨ (¬ w = "worker" ∧ ¬ w = "pipe" ∧ ¬ k = 0 ∧ ∃ a, qs = [a]) := by
  unfold isLineP at h
  split at h
  · rename_i hw
    exact .inl ⟨hw, List.isEmpty_iff.mp h⟩
  · rename_i hw
    split at h
    · rename_i hp
      rw [Bool.and_eq_true, Bool.and_eq_true] at h
      exact .inr (.inl ⟨hp, of_decide_eq_true h.1, three_of (of_decide_eq_true h.2.1)⟩)
    · rename_i hp
      split at h
      · cases h
      · rename_i hk
        exact .inr (.inr ⟨hw, hp, fun z => hk (.inl z), one_of (Classical.byContradiction fun z => hk (.inr z))⟩)
theorem read_b1 {text line w : Str} {qs : List Str} {i : Nat} {ps : List Pipe} {rows : Rows} (hi : i < 10 ^ 50) (hl : line.length ≤ 600) (hs : Txt.split line ⟨#[32]⟩ = w :: qs)
    (h1 : ps.length < 100000) (h2 : rows.length < 100000) (h3 : ∀ r ∈ rows, r.length < 100000) :
    (isLineP w qs (rows.length : Int) = true ∧ ∃ s5 s6 s8, m_read_b1 (RB text (some (.sh (.int (i : Int)))) (some (.sh (.str line))) none none none) (VMu ps rows) =
      some (.nx (RB text (some (.sh (.int (i : Int)))) (some (.sh (.str line))) s5 s6 s8), VMu (stepW ps rows w qs).1 (stepW ps rows w qs).2)) ∨
    (isLineP w qs (rows.length : Int) = false ∧ ∃ δ μ, m_read_b1 (RB text (some (.sh (.int (i : Int)))) (some (.sh (.str line))) none none none) (VMu ps rows) = some (.ex 3 δ, μ)) := by
  have hp := split_len 32 line
  rw [hs] at hp
  have hq : ∀ p ∈ qs, p.length ≤ 600 := fun p h => Nat.le_trans (hp.1 p (List.mem_cons_of_mem _ h)) hl
  have hql : qs.length ≤ 600 := by
    have := hp.2
    rw [List.length_cons] at this
    omega
  unfold m_read_b1
  rw [seq_nx (star_at (d := .str w) (ds := qs.map .str) (by
    rw [blank_str, splitF (x := line) rfl rfl (by omega), hs]
    rfl))]
  show (_ ∧ ∃ s5 s6 s8, mSeq _ _ (RB text (some (.sh (.int (i : Int)))) (some (.sh (.str line))) (some (.sh (.str w))) (some (.sh (strsL qs))) none) _ = _) ∨ (_ ∧ ∃ δ μ, mSeq _ _ (RB text (some (.sh (.int (i : Int)))) (some (.sh (.str line))) (some (.sh (.str w))) (some (.sh (strsL qs))) none) _ = _)
  generalize hδ : RB text (some (.sh (.int (i : Int)))) (some (.sh (.str line))) (some (.sh (.str w))) (some (.sh (strsL qs))) none = δ
  have hlen : mCB mLen (mCons (mVar 2) mNil) δ (VMu ps rows) = some (.ok (.sh (.int (rows.length : Int))), VMu ps rows) := by
    rw [cb_at (xs := [.cell 1]) (by rw [← hδ]; rfl), mLen_c]
    show some (Res.ok (MV.sh (.int ((List.range rows.length).map _).length)), _) = _
    rw [List.length_map, List.length_range]
  have ec : mNot (mTru (mCallP 3 is_line (mCons (mVar 5) (mCons (mVar 6) (mCons (mCB mLen (mCons (mVar 2) mNil)) mNil))))) δ (VMu ps rows) = some (.ok (!isLineP w qs (rows.length : Int)), VMu ps rows) := by
    refine not_at (tru_at ?_)
    have hargs : (mCons (mVar 5) (mCons (mVar 6) (mCons (mCB mLen (mCons (mVar 2) mNil)) mNil))) δ (VMu ps rows) = some (.ok [.sh (.str w), .sh (strsL qs), .sh (.int (rows.length : Int))], VMu ps rows) :=
      cons_at (at_ret (by rw [← hδ]; rfl)) (cons_at (at_ret (by rw [← hδ]; rfl)) (cons_at hlen nil_at))
    rw [callP_at (k := 3) hargs ⟨rfl, rfl⟩,
      is_line_ok (by omega) (fun p h => by have := hq p h; rw [sizeLine_eq]; omega)]
    rfl
  cases hL : isLineP w qs (rows.length : Int) with
  | false =>
    refine .inr ⟨rfl, δ, VMu ps rows, ?_⟩
    rw [seq_ex (k := 3) (δ' := δ) (μ' := VMu ps rows)]
    rw [if_t (by rw [ec, hL]; rfl)]
    have hn : ((i : Int)).natAbs < 10 ^ 60 := Nat.lt_trans hi (by decide)
    have e3 := fmtF (m := mVar 3) (δ := δ) (n := (i : Int)) (by rw [← hδ]; rfl) hn
    have l3 := (int_num hn).2
    have z0 : Str.empty.length = 0 := rfl
    have z1 : (Str.ofString "line ").length = 5 := by decide
    have z2 : (Str.ofString " is none that may stand there").length = 29 := by decide
    refine raise_at (x := .sh (.str (Str.empty ++ "line " ++ numT (i : Int) ++ " is none that may stand there"))) ?_
    rw [join_c (by rw [len_app, sizeLine_eq]; omega), join_m e3 (by rw [len_app, len_app, sizeLine_eq]; omega), join_c (by rw [len_app, len_app, len_app, sizeLine_eq]; omega), join_nil]
  | true =>
    refine .inl ⟨rfl, ?_⟩
    have hint := line_int hL hq
    rw [seq_nx (δ' := δ) (μ' := VMu ps rows) (by rw [if_f (by rw [ec, hL]; rfl)]; rfl)]
    have enum8 : mComp false (mSeqS (mVar 6)) (gNameM 7) mYes (mCB mIntStr (mCons (mVar 7) mNil)) [7] δ = M.ret (.sh (.list (qs.map fun p => PyData.int (numP p)))) :=
      compF (e := PyData.str) (f := fun p => PyData.int (numP p)) (l := qs) (src_l (by rw [← hδ]; rfl)) (by omega) fun p hp' => ⟨_, rfl, by
        have e1 := hint p hp'
        have e2 := hq p hp'
        rw [mCB_ev, mCons_ev, show mVar 7 ((wipeS δ [7]).set 7 (some (.sh (.str p)))) = M.ret (.sh (.str p)) by rw [← hδ]; rfl]
        show mIntStr [.sh (.str p)] = _
        unfold mIntStr
        dsimp only
        rw [e1]
        dsimp only
        rw [if_pos (by omega)]⟩
    rw [seq_nx (asg_at (at_ret enum8))]
    have hδ8 : δ.set 8 (some (.sh (.list (qs.map fun p => PyData.int (numP p))))) = RB text (some (.sh (.int (i : Int)))) (some (.sh (.str line))) (some (.sh (.str w))) (some (.sh (strsL qs))) (some (.sh (.list (qs.map fun p => PyData.int (numP p))))) := by
      rw [← hδ]
      rfl
    rw [hδ8]
    clear ec hlen enum8 hδ8 hδ
    refine ⟨some (.sh (.str w)), some (.sh (strsL qs)), some (.sh (.list (qs.map fun p => PyData.int (numP p)))), ?_⟩
    have tw : ∀ z : Str, mTest (mOp2 (mEq false) (mVar 5) (mC (.str z))) (RB text (some (.sh (.int (i : Int)))) (some (.sh (.str line))) (some (.sh (.str w))) (some (.sh (strsL qs))) (some (.sh (.list (qs.map fun p => PyData.int (numP p)))))) = M.ret (decide (w = z)) := fun z => testF (eqSF rfl rfl)
    unfold stepW
    rcases line_cases hL with ⟨hw, rfl⟩ | ⟨hw, hk, a, b, c, rfl⟩ | ⟨hw1, hw2, hk, a, rfl⟩
    · have hnp : ¬ w = "pipe" := by rw [hw]; decide +kernel
      rw [if_neg hnp, if_pos hw, if_f (at_ret (by rw [tw, decide_eq_false hnp])), if_t (at_ret (by rw [tw, decide_eq_true hw]))]
      refine (drop_at (x := .sh .none) (μ' := VMu ps (rows ++ [[]])) ?_).trans rfl
      have hlm : (VMu ps rows).length = 2 + rows.length := by
        unfold VMu
        rw [List.length_cons, List.length_cons, List.length_map]
        omega
      rw [mCellM_ev, bindA, show mVar 2 (RB text _ _ _ _ _) (VMu ps rows) = some (.ok (.cell 1), VMu ps rows) from rfl]
      dsimp only
      rw [bindA, cons_at (x := .cell (2 + rows.length)) (μ1 := VMu ps rows ++ [[]]) (by
        show some (Res.ok (MV.cell (VMu ps rows).length), VMu ps rows ++ [[]]) = _
        rw [hlm]) nil_at]
      dsimp only
      rw [cellStepA, show (VMu ps rows ++ [[]])[1]? = some ((List.range rows.length).map fun i => MV.cell (2 + i)) from rfl]
      dsimp only
      rw [show fAppend ((List.range rows.length).map fun i => MV.cell (2 + i)) [.cell (2 + rows.length)] = some (.sh .none, (List.range rows.length).map (fun i => MV.cell (2 + i)) ++ [.cell (2 + rows.length)]) by
        unfold fAppend
        dsimp only
        rw [if_pos (by rw [List.length_map, List.length_range]; exact h2)]]
      show some (Res.ok (MV.sh .none), (VMu ps rows ++ [[]]).set 1 _) = _
      rw [vmu_addR]
    · rw [if_pos hw, if_t (at_ret (by rw [tw, decide_eq_true hw]))]
      rw [app_cell (n := 0) (xs := ps.map encP) (y := encP (pipeOf [a, b, c])) rfl (by
        refine at_ret ?_
        rw [mCB_ev]
        show mTupleOf [.sh (.list ([a, b, c].map fun p => PyData.int (numP p)))] = _
        rw [tupleOf_l]
        rfl) rfl (by rw [List.length_map]; exact h1), vmu_addP]
    · rw [if_neg hw2, if_neg hw1, if_f (at_ret (by rw [tw, decide_eq_false hw2])), if_f (at_ret (by rw [tw, decide_eq_false hw1]))]
      have hk' : rows.length ≠ 0 := by omega
      have hlast : rows[rows.length - 1]? = some (rows.getD (rows.length - 1) []) := get_getD [] (by omega)
      have hmem := List.mem_of_getElem? hlast
      rw [app_cell (n := 2 + (rows.length - 1)) (xs := (rows.getD (rows.length - 1) []).map encO) (y := encO (w, numP a)) (by
        rw [op2_at (x := .cell 1) (y := .sh (.int (-1))) (μ1 := VMu ps rows) (μ2 := VMu ps rows) rfl rfl, mIx_c]
        show (match some ((List.range rows.length).map fun i => MV.cell (2 + i)) with
          | some xs => (L2.atI xs (-1)).map fun x => (Res.ok x, VMu ps rows)
          | none => none) = _
        dsimp only
        obtain ⟨k, hk⟩ : ∃ k, rows.length = k + 1 := ⟨rows.length - 1, by omega⟩
        rw [hk, List.range_succ, List.map_append]
        show (L2.atI (_ ++ [MV.cell (2 + k)]) (-1)).map _ = _
        rw [L2.atI_last]
        rfl) (by
        refine at_ret ?_
        refine tup_ev rfl ?_
        rw [mOp2_ev]
        show mIx (.sh (.list [PyData.int (numP a)])) (.sh (.int 0)) = _
        exact ixl_0) (vmu_row hlast) (by rw [List.length_map]; exact h3 _ hmem)]
      rw [show (rows.getD (rows.length - 1) []).map encO ++ [encO (w, numP a)] = (rows.getD (rows.length - 1) [] ++ [(w, numP a)]).map encO by rw [List.map_append]; rfl, vmu_addO]
      rfl
end LW

set_option Elab.async false
set_option linter.all false
set_option maxRecDepth 100000
set_option maxHeartbeats 2000000
set_option exponentiation.threshold 300
namespace LW
open PySem PySem.W PD NumText
local macro_rules | `(tactic| walk_at "ev") => `(tactic| simp (disch := first | assumption | decide | omega) only [ret_bind, opt_some, look_some, mVar_0, mVar_s, mC_ev, mOp2_ev, mOp1_ev, mNil_ev, mCons_ev, mCB_ev, mTest_ev, isB_ev, mAnd_ev, mOr_ev, mNot_ev, mAndV_ev, mOrV_ev, mNotV_ev, mIf_ev, mChain_ev, mTru_ev, truM_b, mTup_ev, mLst_ev,
  mkL_nil, mkL_1, mkL_2, mkL_3, mkL_4, mkT_2, mkT_3, mkT_4, mI2_ev, mI1_ev, fMod_ev, fDiv_ev, fPow_ev, mAdd_i, mMul_i, mEq_int, mEq_str, mEq_bool, mIx_l, mIx_t, mIx_s, mLen_l, mLen_t, mLen_s, mI2L_ev, mIsi_ev, isiM, kindM, isiT, liftR_ok, mCallP_ev,
  mSeq_ev, sbind_nx, sbind_rt, sbind_ct, sbind_bk, sbind_ex, withV_ret, asg_some, mAsg_name, mNext_ev, mCont_ev, mBreak_ev, mRetN_ev, mRaise_ev, mRet_ev, mDrop_ev, mIfS_ev, atI_0, atI_1, atI_2, atI_3,
  start_ev, List.map_cons, List.map_nil, List.length_cons, List.length_nil, Nat.reduceAdd, Nat.reduceSub, Nat.zero_add, List.replicate_succ, List.replicate_zero, List.cons_append, List.nil_append, List.append_nil, List.set_cons_zero, List.set_cons_succ, Nat.reduceLeDiff, if_true, if_false, Bool.false_eq_true, Bool.true_eq_false, Bool.not_true, Bool.not_false, decide_eq_true_eq, decide_true, decide_false, Bool.and_true, Bool.true_and, Bool.and_false, Bool.false_and, Bool.or_true, Bool.or_false, Bool.true_or, Bool.false_or, List.all_cons, List.all_nil, cf, and_self, and_true, true_and, Nat.le_refl, Option.map_some, reduceCtorEq])
/-! ### a text read as a whole -/
def gRd : MG := gTupM 2 (gConsM (gNameM 3) (gConsM (gNameM 4) gNilM))
structure Fit (L : Nat) (ps : List Pipe) (rows : Rows) : Prop where
  p : ps.length + L ≤ 50000
  r : rows.length + L ≤ 50000
  o : ∀ r ∈ rows, r.length + L ≤ 50000
theorem step_fit {L : Nat} {ps : List Pipe} {rows : Rows} {w : Str} {qs : List Str} (h : Fit (L + 1) ps rows) (hL : isLineP w qs (rows.length : Int) = true) : Fit L (stepW ps rows w qs).1 (stepW ps rows w qs).2 := by
  have hp := h.p
  have hr := h.r
  have ho : ∀ r ∈ rows, r.length + L ≤ 50000 := fun r hr => by have := h.o r hr; omega
  unfold stepW
  split
  · exact ⟨by rw [List.length_append, List.length_singleton]; omega, by show rows.length + L ≤ _; omega, ho⟩
  · split
    · refine ⟨by show ps.length + L ≤ _; omega, by rw [List.length_append, List.length_singleton]; omega, fun r hr => ?_⟩
      rcases List.mem_append.mp hr with z | z
      · exact ho r z
      · rw [List.mem_singleton.mp z]
        show 0 + L ≤ _
        omega
    · rename_i hw2 hw1
      rcases line_cases hL with ⟨z, _⟩ | ⟨z, _⟩ | ⟨_, _, hk, a, _⟩
      · exact absurd z hw1
      · exact absurd z hw2
      refine ⟨by show ps.length + L ≤ _; omega, by show (rows.set _ _).length + L ≤ _; rw [List.length_set]; omega, fun r hr => ?_⟩
      rcases List.mem_or_eq_of_mem_set hr with z | z
      · exact ho r z
      · have hm : rows.getD (rows.length - 1) [] ∈ rows := List.mem_of_getElem? (get_getD [] (by omega))
        have := h.o _ hm
        rw [z, List.length_append, List.length_singleton]
        omega
theorem read_loop {text : Str} : ∀ (lines : List Str) (i : Nat) (ps : List Pipe) (rows : Rows), i + lines.length ≤ 10 ^ 50 → (∀ l ∈ lines, l.length ≤ 600) → Fit lines.length ps rows →
    (readL lines (ps, rows) = none ∧ ∃ δ μ, forL gRd m_read_b1 [3, 4, 5, 6, 8] (enumI i (lines.map fun l => .sh (.str l))) (RB text none none none none none) (VMu ps rows) = some (.ex 3 δ, μ)) ∨
    ∃ ps' rows', readL lines (ps, rows) = some (ps', rows') ∧ forL gRd m_read_b1 [3, 4, 5, 6, 8] (enumI i (lines.map fun l => .sh (.str l))) (RB text none none none none none) (VMu ps rows) = some (.nx (RB text none none none none none), VMu ps' rows')
  | [], i, ps, rows, _, _, _ => .inr ⟨ps, rows, rfl, rfl⟩
  | l :: r, i, ps, rows, hi, hl, hf => by
    have hi' : i + (r.length + 1) ≤ 10 ^ 50 := hi
    obtain ⟨w, qs, hs⟩ := split_ne l ⟨#[32]⟩
    have hb := read_b1 (text := text) (line := l) (w := w) (qs := qs) (i := i) (ps := ps) (rows := rows) (by omega) (hl l List.mem_cons_self) hs
      (by have := hf.p; rw [List.length_cons] at this; omega) (by have := hf.r; rw [List.length_cons] at this; omega) (fun r hr => by have := hf.o r hr; rw [List.length_cons] at this; omega)
    have ex : enumI i ((l :: r).map fun l => MV.sh (.str l)) = .sh (.tuple [.int (i : Int), .str l]) :: enumI (i + 1) (r.map fun l => MV.sh (.str l)) := rfl
    have eg : gRd (.sh (.tuple [.int (i : Int), .str l])) (RB text none none none none none) = some (RB text (some (.sh (.int (i : Int)))) (some (.sh (.str l))) none none none) := rfl
    rw [ex]
    have er : readL (l :: r) (ps, rows) = match stepP (ps, rows) (w :: qs) with
      | some st' => readL r st'
      | none => none := by
      show (match stepP (ps, rows) (Txt.split l ⟨#[32]⟩) with
        | some st' => readL r st'
        | none => none) = _
      rw [hs]
    rcases hb with ⟨hL, s5, s6, s8, e⟩ | ⟨hL, δ, μ, e⟩
    · have e1 : stepP (ps, rows) (w :: qs) = some (stepW ps rows w qs) := by
        show (if isLineP w qs (rows.length : Int) = true then _ else _) = _
        rw [if_pos hL]
      rw [er, e1]
      have ef : forL gRd m_read_b1 [3, 4, 5, 6, 8] (.sh (.tuple [.int (i : Int), .str l]) :: enumI (i + 1) (r.map fun l => MV.sh (.str l))) (RB text none none none none none) (VMu ps rows) =
          forL gRd m_read_b1 [3, 4, 5, 6, 8] (enumI (i + 1) (r.map fun l => MV.sh (.str l))) (RB text none none none none none) (VMu (stepW ps rows w qs).1 (stepW ps rows w qs).2) := by
        conv => lhs; unfold forL
        rw [eg]
        dsimp only
        rw [e]
        rfl
      rw [ef]
      exact read_loop r (i + 1) (stepW ps rows w qs).1 (stepW ps rows w qs).2 (by omega) (fun l h => hl l (List.mem_cons_of_mem _ h)) (step_fit hf hL)
    · refine .inl ⟨?_, δ, μ, ?_⟩
      · rw [er]
        show (match (if isLineP w qs (rows.length : Int) = true then some (stepW ps rows w qs) else none) with
          | some st' => readL r st'
          | none => none) = _
        rw [hL]
        rfl
      · unfold forL
        rw [eg]
        dsimp only
        rw [e]
/-! what is looked at -/
theorem peekA_map {α : Type} {f : MV → Option PyData} (g : α → MV) (d : α → PyData) : ∀ l : List α, (∀ a ∈ l, f (g a) = some (d a)) → peekA f (l.map g) = some (l.map d)
  | [], _ => rfl
  | a :: r, h => by
    rw [List.map_cons]
    unfold PD.peekA
    rw [h a List.mem_cons_self]
    dsimp only
    rw [peekA_map g d r fun b hb => h b (List.mem_cons_of_mem _ hb)]
    rfl
theorem range_map {α β : Type} (f : α → β) (d : α) (l : List α) : (List.range l.length).map (fun i => f (l.getD i d)) = l.map f := by
  refine List.ext_getElem? fun i => ?_
  rw [List.getElem?_map, List.getElem?_map]
  by_cases h : i < l.length
  · rw [List.getElem?_range h, get_getD d h]
    rfl
  · rw [List.getElem?_eq_none (by rw [List.length_range]; omega), List.getElem?_eq_none (by omega)]
    rfl
theorem peek_vmu {ps : List Pipe} {rows : Rows} {n : Nat} : peek (n + 4) (VMu ps rows) (.tp [.cell 0, .cell 1]) = some (Datum.toD ((ps, rows) : Net)) := by
  have e0 : peek (n + 3) (VMu ps rows) (.cell 0) = some (Datum.toD ps) := by
    show (peekA (peek (n + 2) (VMu ps rows)) (ps.map encP)).map PyData.list = _
    rw [peekA_map encP Datum.toD ps fun a _ => peek_sh]
    rfl
  have e1 : peek (n + 3) (VMu ps rows) (.cell 1) = some (Datum.toD rows) := by
    show (peekA (peek (n + 2) (VMu ps rows)) ((List.range rows.length).map fun i => MV.cell (2 + i))).map PyData.list = _
    rw [peekA_map (fun i => MV.cell (2 + i)) (fun i => Datum.toD (rows.getD i [])) (List.range rows.length) fun i hi => ?_, range_map Datum.toD []]
    · rfl
    · have hr := get_getD [] (List.mem_range.mp hi) (l := rows)
      show (match (VMu ps rows)[2 + i]? with
        | some xs => (peekA (peek (n + 1) (VMu ps rows)) xs).map PyData.list
        | none => none) = _
      rw [vmu_row hr]
      dsimp only
      rw [peekA_map encO Datum.toD (rows.getD i []) fun a _ => peek_sh]
      rfl
  show (peekA (peek (n + 3) (VMu ps rows)) [.cell 0, .cell 1]).map PyData.tuple = _
  unfold PD.peekA
  rw [e0]
  dsimp only
  unfold PD.peekA
  rw [e1]
  rfl
theorem peekF_sh {n : Nat} {ν : Mu} {d : PyData} (h : flatD d = true) : peekF (n + 1) ν (.sh d) = some d := by
  show (if flatD d = true then some d else none) = _
  rw [if_pos h]
theorem peekF_qmu {ps : List Pipe} {rows : Rows} {n : Nat} : peekF (n + 4) (QMu (PMu ps) rows) (.tp [.cell 0, .cell (1 + rows.length)]) = some (Datum.toD ((ps, rows) : Net)) := by
  have e0 : peekF (n + 3) (QMu (PMu ps) rows) (.cell 0) = some (Datum.toD ps) := by
    show (peekA (peekF (n + 2) (QMu (PMu ps) rows)) (ps.map fun p => MV.sh (Datum.toD p))).map PyData.list = _
    rw [peekA_map (fun p => MV.sh (Datum.toD p)) Datum.toD ps fun a _ => peekF_sh rfl]
    rfl
  have eo : (QMu (PMu ps) rows)[1 + rows.length]? = some ((List.range rows.length).map fun i => .cell (1 + i)) := by
    unfold QMu
    rw [List.getElem?_append_right (by show 1 ≤ _; omega)]
    show (rows.map (fun r => r.map encO) ++ [_])[1 + rows.length - 1]? = _
    rw [Nat.add_sub_cancel_left, List.getElem?_append_right (by simp)]
    simp [PMu]
  have er : ∀ {i : Nat} {r : List Ord}, rows[i]? = some r → (QMu (PMu ps) rows)[1 + i]? = some (r.map encO) := fun {i r} h => by
    unfold QMu
    rw [List.getElem?_append_right (by show 1 ≤ _; omega)]
    show (rows.map (fun r => r.map encO) ++ [_])[1 + i - 1]? = _
    have := (List.getElem?_eq_some_iff.mp h).1
    rw [Nat.add_sub_cancel_left, List.getElem?_append_left (by rw [List.length_map]; exact this), List.getElem?_map, h]
    rfl
  have e1 : peekF (n + 3) (QMu (PMu ps) rows) (.cell (1 + rows.length)) = some (Datum.toD rows) := by
    show (match (QMu (PMu ps) rows)[1 + rows.length]? with
      | some xs => (peekA (peekF (n + 2) (QMu (PMu ps) rows)) xs).map PyData.list
      | none => none) = _
    rw [eo]
    dsimp only
    rw [peekA_map (fun i => MV.cell (1 + i)) (fun i => Datum.toD (rows.getD i [])) (List.range rows.length) fun i hi => ?_, range_map Datum.toD []]
    · rfl
    · have hr := get_getD [] (List.mem_range.mp hi) (l := rows)
      show (match (QMu (PMu ps) rows)[1 + i]? with
        | some xs => (peekA (peekF (n + 1) (QMu (PMu ps) rows)) xs).map PyData.list
        | none => none) = _
      rw [er hr]
      dsimp only
      rw [peekA_map encO Datum.toD (rows.getD i []) fun a _ => peekF_sh rfl]
      rfl
  show (peekA (peekF (n + 3) (QMu (PMu ps) rows)) [.cell 0, .cell (1 + rows.length)]).map PyData.tuple = _
  unfold PD.peekA
  rw [e0]
  dsimp only
  unfold PD.peekA
  rw [e1]
  rfl
theorem callF_at {k : Nat} {f : List MV → M MV} {ma : Sl → M (List MV)} {δ : Sl} {μ μ' ν : Mu} {xs ys : List MV} {x : MV} {d : PyData} (ha : ma δ μ = some (.ok xs, μ')) (hk : xs.length = k) (hp : peekSs μ' xs = some ys) (hf : f ys [] = some (.ok x, ν)) (hd : peekF 8 ν x = some d) :
    mCallF k f ma δ μ = some (.ok (.sh d), μ') := by
  unfold mCallF
  rw [bindA, ha]
  dsimp only
  rw [if_pos hk, hp]
  dsimp only
  rw [hf]
  dsimp only
  rw [hd]
  rfl
theorem callF_ex {k : Nat} {f : List MV → M MV} {ma : Sl → M (List MV)} {δ : Sl} {μ μ' ν : Mu} {xs ys : List MV} {c : Nat} (ha : ma δ μ = some (.ok xs, μ')) (hk : xs.length = k) (hp : peekSs μ' xs = some ys) (hf : f ys [] = some (.exc c, ν)) :
    mCallF k f ma δ μ = some (.exc c, μ') := by
  unfold mCallF
  rw [bindA, ha]
  dsimp only
  rw [if_pos hk, hp]
  dsimp only
  rw [hf]
theorem bodyP_ex_at {N : Nat} {m : MS} {xs : List MV} {c : Nat} {δ : Sl} {μ : Mu} (h : m (startM N xs) [] = some (.ex c δ, μ)) : bodyP N m xs = some (.exc c) := by
  unfold bodyP
  rw [h]
/-- what the program's reading answers -/
theorem read_ok {text : Str} (ht : text.length ≤ 1000000) (hl : ∀ l ∈ Txt.split text ⟨#[10]⟩, l.length ≤ 600) (hn : (Txt.split text ⟨#[10]⟩).length ≤ 50000)
    (hz : ∀ ps rows, readP text = some (ps, rows) → ps.length < 300 ∧ rows.length < 300 ∧ ∀ r ∈ rows, r.length < 300) :
    (readP text = none ∧ read [.sh (.str text)] = some (.exc 3)) ∨ ∃ ps rows, readP text = some (ps, rows) ∧
      ((¬ AllP ps rows ∧ read [.sh (.str text)] = some (.exc 1)) ∨ (AllP ps rows ∧ ¬ AllO ps rows ∧ read [.sh (.str text)] = some (.exc 2)) ∨
        (AllP ps rows ∧ AllO ps rows ∧ read [.sh (.str text)] = some (.ok (Datum.toD ((ps, rows) : Net))))) := by
  have pre : ∀ {b : MS}, mSeq (mAsg (gNameM 1) (mLst true mNil)) (mSeq (mAsg (gNameM 2) (mLst true mNil)) b) (startM 9 [.sh (.str text)]) [] = b (RB text none none none none none) (VMu [] []) := fun {b} => by
    rw [seq_nx (δ' := [some (.sh (.str text)), some (.cell 0), none, none, none, none, none, none, none]) (μ' := [[]]) rfl, seq_nx (δ' := RB text none none none none none) (μ' := VMu [] []) rfl]
  have src : mEnum1 (mCons (mStrM fSplit (mVar 0) (mCons (mC (.str "\n")) mNil)) mNil) (RB text none none none none none) = M.ret (.st (enumI 1 ((Txt.split text ⟨#[10]⟩).map fun l => .sh (.str l)))) := by
    unfold mEnum1
    rw [mCons_ev, end_str, splitF (x := text) rfl rfl ht, ret_bind, mNil_ev, ret_bind, ret_bind]
    show M.look (fun _ => some (Src.st (enumI 1 (((Txt.split text ⟨#[10]⟩).map PyData.str).map MV.sh)))) = _
    rw [List.map_map]
    rfl
  have hfor : mFor (mEnum1 (mCons (mStrM fSplit (mVar 0) (mCons (mC (.str "\n")) mNil)) mNil)) (gTupM 2 (gConsM (gNameM 3) (gConsM (gNameM 4) gNilM))) m_read_b1 [3, 4, 5, 6, 8] (RB text none none none none none) (VMu [] []) =
      forL gRd m_read_b1 [3, 4, 5, 6, 8] (enumI 1 ((Txt.split text ⟨#[10]⟩).map fun l => .sh (.str l))) (RB text none none none none none) (VMu [] []) := by
    rw [for_st (at_ret src)]
    rfl
  have lp := read_loop (text := text) (Txt.split text ⟨#[10]⟩) 1 [] [] (by
    have : (50001 : Nat) ≤ 10 ^ 50 := by decide
    omega) hl ⟨by show 0 + _ ≤ _; omega, by show 0 + _ ≤ _; omega, fun r h => by cases h⟩
  rcases lp with ⟨hr, δ, μ, e⟩ | ⟨ps, rows, hr, e⟩
  · refine .inl ⟨?_, bodyP_ex_at (δ := δ) (μ := μ) ?_⟩
    · unfold readP
      rw [hr]
    · unfold m_read
      rw [pre, seq_ex (hfor.trans e)]
  · have htru : mNot (mTru (mVar 2)) (RB text none none none none none) (VMu ps rows) = some (.ok rows.isEmpty, VMu ps rows) := by
      have h1 : mTru (mVar 2) (RB text none none none none none) (VMu ps rows) = some (.ok (!rows.isEmpty), VMu ps rows) := by
        rw [mTru_ev]
        show some (Res.ok (!((List.range rows.length).map fun i => MV.cell (2 + i)).isEmpty), VMu ps rows) = _
        have : ((List.range rows.length).map fun i => MV.cell (2 + i)).isEmpty = rows.isEmpty := by
          cases rows with
          | nil => rfl
          | cons r t => rw [List.length_cons, List.range_succ_eq_map]; rfl
        rw [this]
      rw [not_at h1, Bool.not_not]
    by_cases hrows : rows = []
    · refine .inl ⟨?_, bodyP_ex_at (δ := RB text none none none none none) (μ := VMu ps rows) ?_⟩
      · unfold readP
        rw [hr]
        dsimp only
        rw [if_pos hrows]
      · unfold m_read
        rw [pre, seq_nx (hfor.trans e), seq_ex (k := 3) (δ' := RB text none none none none none) (μ' := VMu ps rows)]
        rw [if_t (μ' := VMu ps rows) (by rw [htru]; rw [hrows]; rfl)]
        rfl
    · have hR : readP text = some (ps, rows) := by
        unfold readP
        rw [hr]
        dsimp only
        rw [if_neg hrows]
      have hne : rows.isEmpty = false := by
        cases rows with
        | nil => exact absurd rfl hrows
        | cons r t => rfl
      obtain ⟨z1, z2, z3⟩ := hz ps rows hR
      have body : ∀ {o : Out} {μ' : Mu}, mRet (mCallF 1 checked (mCons (mTup (mCons (mVar 1) (mCons (mVar 2) mNil))) mNil)) (RB text none none none none none) (VMu ps rows) = some (o, μ') → m_read (startM 9 [.sh (.str text)]) [] = some (o, μ') := fun {o μ'} h => by
        unfold m_read
        rw [pre, seq_nx (hfor.trans e), seq_nx (δ' := RB text none none none none none) (μ' := VMu ps rows) (by rw [if_f (by rw [htru, hne])]; rfl)]
        exact h
      have hargs : (mCons (mTup (mCons (mVar 1) (mCons (mVar 2) mNil))) mNil) (RB text none none none none none) (VMu ps rows) = some (.ok [.tp [.cell 0, .cell 1]], VMu ps rows) := rfl
      have hpk : peekSs (VMu ps rows) [.tp [.cell 0, .cell 1]] = some [.sh (Datum.toD ((ps, rows) : Net))] := by
        have : peekS (VMu ps rows) (.tp [.cell 0, .cell 1]) = some (.sh (Datum.toD ((ps, rows) : Net))) := by
          show (peek 8 (VMu ps rows) (.tp [.cell 0, .cell 1])).map MV.sh = _
          rw [peek_vmu (n := 4)]
          rfl
        unfold peekSs
        rw [this]
        rfl
      refine .inr ⟨ps, rows, hR, ?_⟩
      rcases checked_ok (pipes := ps) (rows := rows) z1 z2 z3 [] with ⟨hP, ec⟩ | ⟨hP, hO, ec⟩ | ⟨hP, hO, ec⟩
      · refine .inl ⟨hP, bodyP_ex_at (δ := RB text none none none none none) (μ := VMu ps rows) (body ?_)⟩
        unfold mRet withV
        rw [callF_ex (k := 1) hargs rfl hpk ec]
      · refine .inr (.inl ⟨hP, hO, bodyP_ex_at (δ := RB text none none none none none) (μ := VMu ps rows) (body ?_)⟩)
        unfold mRet withV
        rw [callF_ex (k := 1) hargs rfl hpk ec]
      · refine .inr (.inr ⟨hP, hO, bodyP_rt_at (x := .sh (Datum.toD ((ps, rows) : Net))) (μ := VMu ps rows) (body (ret_at (callF_at (k := 1) hargs rfl hpk ec ?_))) peek_sh⟩)
        have h0 : ([] : Mu).length + 1 + rows.length = 1 + rows.length := by rw [List.length_nil, Nat.zero_add]
        rw [h0]
        exact peekF_qmu (n := 4)
end LW

set_option Elab.async false
set_option linter.all false
set_option maxRecDepth 100000
set_option maxHeartbeats 2000000
set_option exponentiation.threshold 300
namespace LW
open PySem PySem.W PD NumText
local macro_rules | `(tactic| walk_at "ev") => `(tactic| simp (disch := first | assumption | decide | omega) only [ret_bind, opt_some, look_some, mVar_0, mVar_s, mC_ev, mOp2_ev, mOp1_ev, mNil_ev, mCons_ev, mCB_ev, mTest_ev, isB_ev, mAnd_ev, mOr_ev, mNot_ev, mAndV_ev, mOrV_ev, mNotV_ev, mIf_ev, mChain_ev, mTru_ev, truM_b, mTup_ev, mLst_ev,
  mkL_nil, mkL_1, mkL_2, mkL_3, mkL_4, mkT_2, mkT_3, mkT_4, mI2_ev, mI1_ev, fMod_ev, fDiv_ev, fPow_ev, mAdd_i, mMul_i, mEq_int, mEq_str, mEq_bool, mIx_l, mIx_t, mIx_s, mLen_l, mLen_t, mLen_s, mI2L_ev, mIsi_ev, isiM, kindM, isiT, liftR_ok, mCallP_ev,
  mSeq_ev, sbind_nx, sbind_rt, sbind_ct, sbind_bk, sbind_ex, withV_ret, asg_some, mAsg_name, mNext_ev, mCont_ev, mBreak_ev, mRetN_ev, mRaise_ev, mRet_ev, mDrop_ev, mIfS_ev, atI_0, atI_1, atI_2, atI_3,
  start_ev, List.map_cons, List.map_nil, List.length_cons, List.length_nil, Nat.reduceAdd, Nat.reduceSub, Nat.zero_add, List.replicate_succ, List.replicate_zero, List.cons_append, List.nil_append, List.append_nil, List.set_cons_zero, List.set_cons_succ, Nat.reduceLeDiff, if_true, if_false, Bool.false_eq_true, Bool.true_eq_false, Bool.not_true, Bool.not_false, decide_eq_true_eq, decide_true, decide_false, Bool.and_true, Bool.true_and, Bool.and_false, Bool.false_and, Bool.or_true, Bool.or_false, Bool.true_or, Bool.false_or, List.all_cons, List.all_nil, cf, and_self, and_true, true_and, Nat.le_refl, Option.map_some, reduceCtorEq])
/-! ### the law's figures -/
def optD : Option Int → PyData
  | some n => .int n
  | none => .none
theorem digits_str : (("0123456789" : Str)).cps.toList = [48, 49, 50, 51, 52, 53, 54, 55, 56, 57] := by decide +kernel
theorem in_digits (c : Nat) : c ∈ (("0123456789" : Str)).cps.toList ↔ 48 ≤ c ∧ c ≤ 57 := by
  rw [digits_str]
  simp only [List.mem_cons, List.not_mem_nil, or_false]
  omega
theorem empty_str : (("" : Str)).cps.toList = [] := by decide +kernel
theorem nought_list : (("0" : Str)).cps.toList = [48] := by decide +kernel
def figP (w : Str) : Option Int := if isCount w = true then some (numP w) else none
def sgnP (w : Str) : Option Int := if isNumber w = true then some (numP w) else none
/-- what stands in the first test -/
def badHead (w : Str) : Bool := match w.cps.toList with
  | [] => true
  | a :: r => !r.isEmpty && decide (a = 48)
theorem count_cases (w : Str) : isCount w = true ↔ badHead w = false ∧ AllDigits w.cps.toList := by
  rw [count_iff]
  unfold badHead
  cases e : w.cps.toList with
  | nil =>
    constructor
    · rintro ⟨⟨_, h⟩, _⟩
      exact absurd rfl h
    · rintro ⟨h, _⟩
      cases h
  | cons a r =>
    have hs : Txt.startswith w "0" = decide (a = 48) := by
      rw [nought_str]
      exact starts_sign e
    have h0 : w = "0" ↔ a = 48 ∧ r = [] := by
      constructor
      · intro z
        rw [z, nought_list] at e
        obtain ⟨h1, h2⟩ := List.cons.inj e
        exact ⟨h1.symm, h2.symm⟩
      · rintro ⟨rfl, rfl⟩
        exact str_ext (e.trans nought_list.symm)
    rw [hs, h0]
    dsimp only
    constructor
    · rintro ⟨⟨h1, _⟩, h2⟩
      refine ⟨?_, h1⟩
      rcases h2 with ⟨rfl, rfl⟩ | h2
      · rfl
      · rw [h2, Bool.and_false]
    · rintro ⟨h1, h2⟩
      refine ⟨⟨h2, by simp⟩, ?_⟩
      by_cases ha : a = 48
      · left
        rw [decide_eq_true ha, Bool.and_true, Bool.not_eq_false'] at h1
        exact ⟨ha, List.isEmpty_iff.mp h1⟩
      · right
        exact decide_eq_false ha
def GS (w : Str) (s : Option MV) : Sl := [some (.sh (.str w)), s]
theorem lenSF {m : Sl → M MV} {δ : Sl} {w : Str} (h : m δ = M.ret (.sh (.str w))) (hl : w.length ≤ sizeLine) : mCB mLen (mCons m mNil) δ = M.ret (.sh (.int (w.length : Int))) := by
  rw [mCB_ev, mCons_ev, h, ret_bind, mNil_ev, ret_bind, ret_bind]
  show (M.look fun μ => if w.length ≤ sizeLine then some (MV.sh (.int (w.length : Int))) else none) = _
  rw [if_pos hl]
  rfl
theorem ixSF {m : Sl → M MV} {δ : Sl} {w : Str} {a : Nat} {r : List Nat} (h : m δ = M.ret (.sh (.str w))) (hl : w.length ≤ sizeLine) (e : w.cps.toList = a :: r) : mOp2 mIx m (mC (.int 0)) δ = M.ret (.sh (.str ⟨#[a]⟩)) := by
  rw [mOp2_ev, h, ret_bind, mC_ev, ret_bind]
  show (M.look fun μ => if w.length ≤ sizeLine then (L2.atI w.cps.toList 0).map (fun c => MV.sh (.str ⟨#[c]⟩)) else none) = _
  rw [if_pos hl, e, atI_0]
  rfl
theorem head_test {w : Str} (hl : w.length ≤ 600) : mOr (mTest (mOp2 (mEq false) (mVar 0) (mC (.str "")))) (mAnd (mTest (mOp2 fGt (mCB mLen (mCons (mVar 0) mNil)) (mC (.int 1)))) (mTest (mOp2 (mEq false) (mOp2 mIx (mVar 0) (mC (.int 0))) (mC (.str "0"))))) (GS w none) = M.ret (badHead w) := by
  have hz : w.length ≤ sizeLine := by rw [sizeLine_eq]; omega
  unfold badHead
  cases e : w.cps.toList with
  | nil =>
    have hw : w = "" := str_ext (e.trans empty_str.symm)
    have e1 : mTest (mOp2 (mEq false) (mVar 0) (mC (.str ""))) (GS w none) = M.ret true := by
      rw [testF (eqSF (x := w) (y := "") rfl rfl), hw, decide_eq_true rfl]
      rfl
    rw [mOr_ev, e1]
    rfl
  | cons a r =>
    have hw : ¬ w = "" := fun z => by
      rw [z, empty_str] at e
      cases e
    have hlen : w.length = r.length + 1 := by
      rw [len_toList, e]
      rfl
    have e1 : mTest (mOp2 (mEq false) (mVar 0) (mC (.str ""))) (GS w none) = M.ret false := by
      rw [testF (eqSF (x := w) (y := "") rfl rfl), decide_eq_false hw]
      rfl
    have e2 : mTest (mOp2 fGt (mCB mLen (mCons (mVar 0) mNil)) (mC (.int 1))) (GS w none) = M.ret (decide ((1 : Int) < (w.length : Int))) :=
      testF (by rw [mOp2_ev, lenSF (w := w) rfl hz]; rfl)
    have e3 : mTest (mOp2 (mEq false) (mOp2 mIx (mVar 0) (mC (.int 0))) (mC (.str "0"))) (GS w none) = M.ret (decide ((⟨#[a]⟩ : Str) = "0")) :=
      testF (eqSF (ixSF (w := w) rfl hz e) rfl)
    rw [orF e1 (andF e2 e3), Bool.false_or]
    have h1 : decide ((1 : Int) < (w.length : Int)) = !r.isEmpty := by
      rw [hlen]
      cases r with
      | nil => rfl
      | cons b t =>
        rw [List.length_cons]
        exact decide_eq_true (by omega)
    have h2 : decide ((⟨#[a]⟩ : Str) = "0") = decide (a = 48) := by
      rw [decide_eq_decide, nought_str]
      constructor
      · intro z
        have := congrArg (fun s : Str => s.cps.toList) z
        exact (List.cons.inj this).1
      · intro z
        rw [z]
    rw [h1, h2]
theorem figures_ok {w : Str} (hl : w.length ≤ 600) : l_figures [.sh (.str w)] = some (.ok (optD (figP w))) := by
  refine bodyP_rt ?_
  rw [show startM 2 [MV.sh (.str w)] = GS w none from rfl]
  unfold m_l_figures
  by_cases hb : badHead w = true
  · have hc : ¬ isCount w = true := fun z => by
      have := ((count_cases w).mp z).1
      rw [hb] at this
      cases this
    rw [seqF_rt (x := .sh .none) (by rw [ifF (head_test hl), if_pos hb]; rfl)]
    unfold figP
    rw [if_neg hc]
    rfl
  have hb' : badHead w = false := by simpa using hb
  rw [seqF_nx (δ' := GS w none) (by rw [ifF (head_test hl), if_neg hb]; rfl)]
  have hsrc : mStrS (mVar 0) (GS w none) = M.ret (.st (w.cps.toList.map signM)) := rfl
  have b1 : ∀ c : Nat, m_l_figures_b1 (GS w (some (signM c))) = if 48 ≤ c ∧ c ≤ 57 then S.ret (.nx (GS w (some (signM c)))) else S.ret (.rt (.sh .none)) := fun c => by
    unfold m_l_figures_b1
    have et : mTest (mOp2 fNotSign (mVar 1) (mC (.str "0123456789"))) (GS w (some (signM c))) = M.ret (!decide (c ∈ (("0123456789" : Str)).cps.toList)) := testF rfl
    rw [ifF et]
    by_cases h : 48 ≤ c ∧ c ≤ 57
    · rw [decide_eq_true ((in_digits c).mpr h), if_neg (by decide), if_pos h]
      rfl
    · rw [decide_eq_false (fun z => h ((in_digits c).mp z)), if_neg h]
      rfl
  by_cases hd : AllDigits w.cps.toList
  · have hc : isCount w = true := (count_cases w).mpr ⟨hb', hd⟩
    rw [seqF_nx (δ' := GS w none) (forF (xs := w.cps.toList.map signM) hsrc rfl fun x hx => by
      obtain ⟨c, hc, rfl⟩ := List.mem_map.mp hx
      exact ⟨GS w (some (signM c)), _, rfl, .inl (by rw [b1, if_pos (hd c hc)]), rfl⟩)]
    unfold figP
    rw [if_pos hc]
    refine retF ?_
    have hi := count_int hc hl
    have hn : numP w = ((digitsVal w.cps.toList : Nat) : Int) := by
      unfold numP
      rw [hi]
      rfl
    rw [mCB_ev, mCons_ev]
    show mIntStr [.sh (.str w)] = _
    unfold mIntStr
    dsimp only
    rw [hi]
    dsimp only
    rw [if_pos (by omega), hn]
    rfl
  · have hc : ¬ isCount w = true := fun z => hd ((count_cases w).mp z).2
    have hloop : ∀ cs : List Nat, ¬ AllDigits cs → forL (gNameM 1) m_l_figures_b1 [1] (cs.map signM) (GS w none) = S.ret (.rt (.sh .none)) := by
      intro cs
      induction cs with
      | nil => exact fun h => absurd (fun c hc => absurd hc List.not_mem_nil) h
      | cons c t ih =>
        intro h
        funext μ
        rw [List.map_cons]
        unfold forL
        rw [show gNameM 1 (signM c) (GS w none) = some (GS w (some (signM c))) from rfl]
        dsimp only
        rw [b1]
        by_cases hcc : 48 ≤ c ∧ c ≤ 57
        · rw [if_pos hcc]
          have := ih fun z => h fun d hd => by
            rcases List.mem_cons.mp hd with rfl | hd
            · exact hcc
            · exact z d hd
          exact congrFun this μ
        · rw [if_neg hcc]
          rfl
    rw [seqF_rt (x := .sh .none) (by
      show withV (mStrS (mVar 0) (GS w none)) _ _ = _
      rw [hsrc, withV_ret]
      exact hloop _ hd)]
    unfold figP
    rw [if_neg hc]
    rfl
theorem cut_head {w : Str} : L2.cutS w none (some 1) = "-" ↔ ∃ r, w.cps.toList = 45 :: r := by
  have h1 : (L2.cutS w none (some 1)).cps.toList = w.cps.toList.take 1 := by
    unfold L2.cutS
    rw [show (some (1 : Int)) = some ((1 : Nat) : Int) from rfl, HT.sIx_nat, HT.sIx_none, Nat.sub_zero, List.drop_zero]
    show w.cps.toList.take (min 1 w.length) = _
    rw [len_toList]
    cases w.cps.toList with
    | nil => rfl
    | cons a r =>
      rw [List.length_cons, show min 1 (r.length + 1) = 1 by omega]
  have h2 : (("-" : Str)).cps.toList = [45] := by rw [minus_str]
  constructor
  · intro z
    have : (L2.cutS w none (some 1)).cps.toList = (("-" : Str)).cps.toList := by rw [z]
    rw [h1, h2] at this
    cases e : w.cps.toList with
    | nil =>
      rw [e] at this
      cases this
    | cons a r =>
      rw [e] at this
      have := (List.cons.inj this).1
      exact ⟨r, by rw [this]⟩
  · rintro ⟨r, e⟩
    refine str_ext ?_
    rw [h1, h2, e]
    rfl
theorem signed_ok {w : Str} (hl : w.length ≤ 600) : l_signed [.sh (.str w)] = some (.ok (optD (sgnP w))) := by
  have hz : w.length ≤ sizeLine := by rw [sizeLine_eq]; omega
  refine bodyP_rt ?_
  rw [show startM 2 [MV.sh (.str w)] = GS w none from rfl]
  unfold m_l_signed
  have hc : mAnd (mTest (mOp2 (mEq false) (mSl false (mVar 0) mNoPart (mPart (mC (.int 1)))) (mC (.str "-")))) (mTest (mOp2 (mEq true) (mVar 0) (mC (.str "-0")))) (GS w none) = M.ret (decide (L2.cutS w none (some 1) = "-") && !decide (w = "-0")) :=
    andF (testF (eqSF (slF (p := w) (l := none) (h := some 1) rfl rfl rfl hz) rfl)) (testF (eqSF rfl rfl))
  have hst : Txt.startswith w "-" = decide (L2.cutS w none (some 1) = "-") := by
    rw [Bool.eq_iff_iff, decide_eq_true_eq, cut_head, minus_str]
    exact starts_iff
  by_cases hm : L2.cutS w none (some 1) = "-" ∧ ¬ w = "-0"
  · obtain ⟨r, hr⟩ := cut_head.mp hm.1
    have hcut : (L2.cutS w (some 1) none).length ≤ 600 := by
      rw [len_toList, cut_one hr]
      rw [len_toList, hr, List.length_cons] at hl
      omega
    have hnum : isNumber w = isCount (L2.cutS w (some 1) none) := by
      unfold isNumber
      rw [hst, decide_eq_true hm.1, if_pos rfl, decide_eq_false hm.2]
      rfl
    have hif : (decide (L2.cutS w none (some 1) = "-") && !decide (w = "-0")) = true := by
      rw [decide_eq_true hm.1, decide_eq_false hm.2]
      rfl
    rw [seqF_rt (x := .sh (optD (sgnP w)))]
    rw [ifF hc, if_pos hif]
    rw [seqF_nx (asgF (x := .sh (optD (figP (L2.cutS w (some 1) none)))) (callF (k := 1) (xs := [.sh (.str (L2.cutS w (some 1) none))]) (by
      rw [mCons_ev, slF (p := w) (l := some 1) (h := none) rfl rfl rfl hz]
      rfl) ⟨rfl, rfl⟩ (figures_ok hcut)))]
    show mSeq _ _ (GS w (some (.sh (optD (figP (L2.cutS w (some 1) none)))))) = _
    unfold sgnP
    rw [hnum]
    unfold figP
    by_cases hk : isCount (L2.cutS w (some 1) none) = true
    · rw [if_pos hk, if_pos hk, seqF_nx (δ' := GS w (some (.sh (.int (numP (L2.cutS w (some 1) none)))))) (by
        rw [ifF (k := false) (testF (by
          rw [mOp2_ev]
          show mIs false (.sh (.int (numP (L2.cutS w (some 1) none)))) (.sh .none) = _
          rw [mIs_d]
          rfl))]
        rfl)]
      refine retF ?_
      obtain ⟨⟨h1, h2⟩, _⟩ := (count_iff _).mp hk
      have e1 := count_int hk hcut
      rw [cut_one hr] at h1 h2 e1
      have e2 := intText_neg hr h1 h2 (by omega)
      have n1 : numP (L2.cutS w (some 1) none) = ((digitsVal r : Nat) : Int) := by
        unfold numP
        rw [e1]
        rfl
      have n2 : numP w = -((digitsVal r : Nat) : Int) := by
        unfold numP
        rw [e2]
        rfl
      rw [n1, n2]
      rfl
    · rw [if_neg hk, if_neg hk, seqF_rt (x := .sh .none) (by
        rw [ifF (k := true) (testF (by
          rw [mOp2_ev]
          show mIs false (.sh .none) (.sh .none) = _
          rw [mIs_d]
          rfl))]
        rfl)]
      rfl
  · have hif : ¬ (decide (L2.cutS w none (some 1) = "-") && !decide (w = "-0")) = true := by
      rw [Bool.and_eq_true, decide_eq_true_eq, Bool.not_eq_true', decide_eq_false_iff_not]
      exact hm
    rw [seqF_nx (δ' := GS w none) (by rw [ifF hc, if_neg hif]; rfl)]
    have hs : sgnP w = figP w := by
      unfold sgnP figP isNumber
      by_cases h1 : L2.cutS w none (some 1) = "-"
      · have h2 : w = "-0" := Classical.byContradiction fun z => hm ⟨h1, z⟩
        rw [hst, decide_eq_true h1, if_pos rfl, decide_eq_true h2]
        have : ¬ isCount w = true := by
          rw [h2]
          decide +kernel
        rw [if_neg this]
        rfl
      · rw [hst, decide_eq_false h1, if_neg Bool.false_ne_true]
    rw [hs]
    exact retF (callF (k := 1) (xs := [.sh (.str w)]) rfl ⟨rfl, rfl⟩ (figures_ok hl))
end LW

set_option Elab.async false
set_option linter.all false
set_option maxRecDepth 100000
set_option maxHeartbeats 2000000
set_option exponentiation.threshold 300
namespace LW
open PySem PySem.W PD NumText
local macro_rules | `(tactic| walk_at "ev") => `(tactic| simp (disch := first | assumption | decide | omega) only [ret_bind, opt_some, look_some, mVar_0, mVar_s, mC_ev, mOp2_ev, mOp1_ev, mNil_ev, mCons_ev, mCB_ev, mTest_ev, isB_ev, mAnd_ev, mOr_ev, mNot_ev, mAndV_ev, mOrV_ev, mNotV_ev, mIf_ev, mChain_ev, mTru_ev, truM_b, mTup_ev, mLst_ev,
  mkL_nil, mkL_1, mkL_2, mkL_3, mkL_4, mkT_2, mkT_3, mkT_4, mI2_ev, mI1_ev, fMod_ev, fDiv_ev, fPow_ev, mAdd_i, mMul_i, mEq_int, mEq_str, mEq_bool, mIx_l, mIx_t, mIx_s, mLen_l, mLen_t, mLen_s, mI2L_ev, mIsi_ev, isiM, kindM, isiT, liftR_ok, mCallP_ev,
  mSeq_ev, sbind_nx, sbind_rt, sbind_ct, sbind_bk, sbind_ex, withV_ret, asg_some, mAsg_name, mNext_ev, mCont_ev, mBreak_ev, mRetN_ev, mRaise_ev, mRet_ev, mDrop_ev, mIfS_ev, atI_0, atI_1, atI_2, atI_3,
  start_ev, List.map_cons, List.map_nil, List.length_cons, List.length_nil, Nat.reduceAdd, Nat.reduceSub, Nat.zero_add, List.replicate_succ, List.replicate_zero, List.cons_append, List.nil_append, List.append_nil, List.set_cons_zero, List.set_cons_succ, Nat.reduceLeDiff, if_true, if_false, Bool.false_eq_true, Bool.true_eq_false, Bool.not_true, Bool.not_false, decide_eq_true_eq, decide_true, decide_false, Bool.and_true, Bool.true_and, Bool.and_false, Bool.false_and, Bool.or_true, Bool.or_false, Bool.true_or, Bool.false_or, List.all_cons, List.all_nil, cf, and_self, and_true, true_and, Nat.le_refl, Option.map_some, reduceCtorEq])
/-! ### tools more -/
def strM (x : Str) : MV := .sh (.str x)
theorem ixT0 {m : Sl → M MV} {δ : Sl} {a : PyData} {r : List PyData} (h : m δ = M.ret (.sh (.tuple (a :: r)))) : mOp2 mIx m (mC (.int 0)) δ = M.ret (.sh a) := by
  rw [mOp2_ev, h]
  exact ix_0
theorem ixT1 {m : Sl → M MV} {δ : Sl} {a b : PyData} {r : List PyData} (h : m δ = M.ret (.sh (.tuple (a :: b :: r)))) : mOp2 mIx m (mC (.int 1)) δ = M.ret (.sh b) := by
  rw [mOp2_ev, h]
  exact ix_1
theorem ixT2 {m : Sl → M MV} {δ : Sl} {a b c : PyData} {r : List PyData} (h : m δ = M.ret (.sh (.tuple (a :: b :: c :: r)))) : mOp2 mIx m (mC (.int 2)) δ = M.ret (.sh c) := by
  rw [mOp2_ev, h]
  exact ix_2
theorem ixL0 {m : Sl → M MV} {δ : Sl} {a : PyData} {r : List PyData} (h : m δ = M.ret (.sh (.list (a :: r)))) : mOp2 mIx m (mC (.int 0)) δ = M.ret (.sh a) := by
  rw [mOp2_ev, h]
  exact ixl_0
theorem rng2F {a b : Sl → M MV} {δ : Sl} {i n : Nat} (ha : a δ = M.ret (.sh (.int (i : Int)))) (hb : b δ = M.ret (.sh (.int (n : Int)))) (hi : i ≤ 100000) (hn : n ≤ 100000) : mRng2 (mCons a (mCons b mNil)) δ = M.ret (.st (rangeI (i : Int) (n - i))) := by
  unfold mRng2
  rw [mCons_ev, ha, ret_bind, mCons_ev, hb]
  have e : ((n : Int) - (i : Int)).toNat = n - i := by omega
  simp only [ret_bind, mNil_ev]
  rw [if_pos (by omega), e]
  rfl
theorem lenLF {m : Sl → M MV} {δ : Sl} {ds : List PyData} (h : m δ = M.ret (.sh (.list ds))) : mCB mLen (mCons m mNil) δ = M.ret (.sh (.int (ds.length : Int))) := by
  rw [mCB_ev, mCons_ev, h]
  simp only [ret_bind, mNil_ev, mLen_l]
theorem forL_cons {g : MG} {body : MS} {ws : List Nat} {x : MV} {r : List MV} {δ δ1 δ2 : Sl} (hg : g x δ = some δ1) (hb : body δ1 = S.ret (.nx δ2)) : forL g body ws (x :: r) δ = forL g body ws r (wipeS δ2 ws) := by
  funext μ
  conv => lhs; unfold forL
  rw [hg]
  dsimp only
  rw [hb]
  rfl
theorem addSF {a b : Sl → M MV} {δ : Sl} {x y : Str} (ha : a δ = M.ret (strM x)) (hb : b δ = M.ret (strM y)) (hl : x.length + y.length ≤ sizeLine) : mOp2 (mAdd false) a b δ = M.ret (strM (x ++ y)) := by
  rw [mOp2_ev, ha, ret_bind, hb, ret_bind]
  show (if x.length + y.length ≤ sizeLine then M.ret (MV.sh (.str (x ++ y))) else fun _ => none) = _
  rw [if_pos hl]
  rfl
theorem strIF {a : Sl → M MV} {δ : Sl} {n : Int} (ha : a δ = M.ret (.sh (.int n))) (hn : n.natAbs < 10 ^ 60) : mCB mStrInt (mCons a mNil) δ = M.ret (strM (numT n)) := by
  rw [mCB_ev, mCons_ev, ha]
  show (if n.natAbs.log2 < 1920 then M.ret (MV.sh (.str (toString n))) else fun _ => none) = _
  rw [if_pos (log2_num hn)]
  rfl
theorem isiF {n : PD.Ty} {a : Sl → M MV} {δ : Sl} {x : MV} {b : Bool} (h : a δ = M.ret x) (hx : isiM n x = some b) : mIsi n a δ = M.ret (.sh (.bool b)) := by
  rw [mIsi_ev, h, ret_bind, hx]
  rfl
theorem strs_D (zs : List Str) : strsD (zs.map strM) = some zs := by
  induction zs with
  | nil => rfl
  | cons z r ih =>
    show (strsD (r.map strM)).map (z :: ·) = _
    rw [ih]
    rfl
theorem join_cell {o a : Sl → M MV} {δ : Sl} {μ : Mu} {z : Str} {n : Nat} {zs : List Str} (ho : o δ = M.ret (.sh (.str z))) (ha : a δ = M.ret (.cell n)) (hn : μ[n]? = some (zs.map strM)) (hs : (zs.map fun s : Str => s.length).sum + zs.length * z.length ≤ 16777216) :
    mStrM fJoin o (mCons a mNil) δ μ = some (.ok (strM (Txt.join z zs)), μ) := by
  rw [strMF (ys := [.cell n]) ho (by rw [mCons_ev, ha]; rfl)]
  show (match (μ[n]?.bind strsD) with
    | some zs => if (zs.map fun s : Str => s.length).sum + zs.length * z.length ≤ 16777216 then some (MV.sh (.str (Txt.join z zs))) else none
    | none => none).map (fun b => (Res.ok b, μ)) = _
  rw [hn]
  show (match (strsD (zs.map strM)) with
    | some zs => if (zs.map fun s : Str => s.length).sum + zs.length * z.length ≤ 16777216 then some (MV.sh (.str (Txt.join z zs))) else none
    | none => none).map (fun b => (Res.ok b, μ)) = _
  rw [strs_D]
  dsimp only
  rw [if_pos hs]
  rfl
theorem app_list (a b : Str) : (a ++ b).cps.toList = a.cps.toList ++ b.cps.toList := by
  show (a.cps ++ b.cps).toList = _
  rw [Array.toList_append]
theorem join_sum (c : Nat) : ∀ P : List Str, (Str.join ⟨#[c]⟩ P).length ≤ (P.map (·.length)).sum + P.length
  | [] => Nat.zero_le _
  | [x] => by rw [join_one']; simp
  | x :: y :: r => by
    have ih := join_sum c (y :: r)
    have e := congrArg List.length (join_two' c x y r)
    rw [List.length_append, List.length_cons, ← len_toList, ← len_toList, ← len_toList] at e
    rw [List.map_cons, List.sum_cons, List.length_cons, e]
    omega
theorem sum_bound {ls : List Str} {b : Nat} (h : ∀ l ∈ ls, l.length ≤ b) : (ls.map (·.length)).sum ≤ ls.length * b := by
  induction ls with
  | nil => simp
  | cons l r ih =>
    have h1 := h l List.mem_cons_self
    have h2 := ih fun x hx => h x (List.mem_cons_of_mem _ hx)
    rw [List.map_cons, List.sum_cons, List.length_cons, Nat.succ_mul]
    omega
theorem num_free {n : Int} {c : Nat} (h : c = 32 ∨ c = 10) : c ∉ (numT n).cps.toList := by
  intro hm
  cases n with
  | ofNat m =>
    rw [show (numT (Int.ofNat m)).cps.toList = dg m from numT_nat m] at hm
    have := dg_all m c hm
    omega
  | negSucc m =>
    rw [numT_neg] at hm
    rcases List.mem_cons.mp hm with z | z
    · omega
    · have := dg_all (m + 1) c z
      omega
theorem ixL1 {m : Sl → M MV} {δ : Sl} {a b : PyData} {r : List PyData} (h : m δ = M.ret (.sh (.list (a :: b :: r)))) : mOp2 mIx m (mC (.int 1)) δ = M.ret (.sh b) := by
  rw [mOp2_ev, h]
  exact ixl_1
theorem ixL2 {m : Sl → M MV} {δ : Sl} {a b c : PyData} {r : List PyData} (h : m δ = M.ret (.sh (.list (a :: b :: c :: r)))) : mOp2 mIx m (mC (.int 2)) δ = M.ret (.sh c) := by
  rw [mOp2_ev, h]
  exact ixl_2
theorem slLF {m : Sl → M MV} {δ : Sl} {d : PyData} {r : List PyData} (h : m δ = M.ret (.sh (.list (d :: r)))) : mSl false m (mPart (mC (.int 1))) mNoPart δ = M.ret (.sh (.list r)) := by
  have e : cutM ((d :: r).map MV.sh) (some 1) none = r.map MV.sh := by
    unfold cutM
    rw [show (some (1 : Int)) = some ((1 : Nat) : Int) from rfl, HT.sIx_nat, HT.sIx_none, List.length_map, List.length_cons, show min 1 (r.length + 1) = 1 by omega, Nat.add_sub_cancel]
    show (r.map MV.sh).take r.length = _
    rw [List.take_of_length_le (by rw [List.length_map]; exact Nat.le_refl _)]
  unfold mSl
  rw [h, ret_bind]
  show (fun μ => M.mkL false (cutM ((d :: r).map MV.sh) (some 1) none) μ) = _
  rw [e]
  exact mkL_sh r
end LW

set_option Elab.async false
set_option linter.all false
set_option maxRecDepth 100000
set_option maxHeartbeats 2000000
set_option exponentiation.threshold 300
namespace LW
open PySem PySem.W PD NumText
local macro_rules | `(tactic| walk_at "ev") => `(tactic| simp (disch := first | assumption | decide | omega) only [ret_bind, opt_some, look_some, mVar_0, mVar_s, mC_ev, mOp2_ev, mOp1_ev, mNil_ev, mCons_ev, mCB_ev, mTest_ev, isB_ev, mAnd_ev, mOr_ev, mNot_ev, mAndV_ev, mOrV_ev, mNotV_ev, mIf_ev, mChain_ev, mTru_ev, truM_b, mTup_ev, mLst_ev,
  mkL_nil, mkL_1, mkL_2, mkL_3, mkL_4, mkT_2, mkT_3, mkT_4, mI2_ev, mI1_ev, fMod_ev, fDiv_ev, fPow_ev, mAdd_i, mMul_i, mEq_int, mEq_str, mEq_bool, mIx_l, mIx_t, mIx_s, mLen_l, mLen_t, mLen_s, mI2L_ev, mIsi_ev, isiM, kindM, isiT, liftR_ok, mCallP_ev,
  mSeq_ev, sbind_nx, sbind_rt, sbind_ct, sbind_bk, sbind_ex, withV_ret, asg_some, mAsg_name, mNext_ev, mCont_ev, mBreak_ev, mRetN_ev, mRaise_ev, mRet_ev, mDrop_ev, mIfS_ev, atI_0, atI_1, atI_2, atI_3,
  start_ev, List.map_cons, List.map_nil, List.length_cons, List.length_nil, Nat.reduceAdd, Nat.reduceSub, Nat.zero_add, List.replicate_succ, List.replicate_zero, List.cons_append, List.nil_append, List.append_nil, List.set_cons_zero, List.set_cons_succ, Nat.reduceLeDiff, if_true, if_false, Bool.false_eq_true, Bool.true_eq_false, Bool.not_true, Bool.not_false, decide_eq_true_eq, decide_true, decide_false, Bool.and_true, Bool.true_and, Bool.and_false, Bool.false_and, Bool.or_true, Bool.or_false, Bool.true_or, Bool.false_or, List.all_cons, List.all_nil, cf, and_self, and_true, true_and, Nat.le_refl, Option.map_some, reduceCtorEq])
/-! ### the law's own reading -/
def ES (lines : List Str) (s3 s4 s6 : Option MV) : Sl := [some (.sh (strsL lines)), some (.cell 0), some (.cell 1), s3, s4, none, s6]
def wordP (w q : Str) : Option Int := if w = "set" then sgnP q else figP q
theorem wordP_some {w q : Str} {n : Int} (h : wordP w q = some n) : n = numP q := by
  unfold wordP sgnP figP at h
  split at h <;> split at h <;> first | exact (Option.some.inj h).symm | cases h
theorem eqv_none (o : Option Int) : PyData.eqv (optD o) .none = o.isNone := by
  cases o <;> simp [optD, PyData.eqv]
theorem none_in {l : List (Option Int)} {μ : Mu} : mIn false (.sh .none) (.sh (.list (l.map optD))) μ = some (.ok (.sh (.bool (l.any Option.isNone))), μ) := by
  have e : ((l.map optD).any fun e => PyData.eqv e .none) = l.any Option.isNone := by
    rw [List.any_map]
    congr 1
    funext o
    exact eqv_none o
  have d : (PyData.none).depth ≤ 60 := by simp [PyData.depth]
  show ((if (PyData.none).depth ≤ 60 then some (MV.sh (.bool (if false = true then !((l.map optD).any fun e => PyData.eqv e .none) else (l.map optD).any fun e => PyData.eqv e .none))) else none).map fun x => (Res.ok x, μ)) = _
  rw [if_pos d, e]
  rfl
theorem in_four {w : Str} : mIn false (.sh (.str w)) (.sh (.tuple [.str "set", .str "put", .str "take", .str "add"])) = M.ret (.sh (.bool (decide (w = "set" ∨ w = "put" ∨ w = "take" ∨ w = "add")))) := by
  funext μ
  have d : (PyData.str w).depth ≤ 60 := by simp [PyData.depth]
  have ev : ∀ a b : Str, PyData.eqv (.str a) (.str b) = decide (a = b) := fun a b => by simp only [PyData.eqv]; exact PySem.W.beq_decide a b
  have e : ([PyData.str "set", .str "put", .str "take", .str "add"].any fun e => PyData.eqv e (.str w)) = decide (w = "set" ∨ w = "put" ∨ w = "take" ∨ w = "add") := by
    simp only [List.any_cons, List.any_nil, ev, Bool.or_false, Bool.decide_or]
    rw [decide_eq_decide.mpr (show ("put" : Str) = w ↔ w = "put" from eq_comm), decide_eq_decide.mpr (show ("take" : Str) = w ↔ w = "take" from eq_comm), decide_eq_decide.mpr (show ("add" : Str) = w ↔ w = "add" from eq_comm), decide_eq_decide.mpr (show ("set" : Str) = w ↔ w = "set" from eq_comm)]
  show ((if (PyData.str w).depth ≤ 60 then some (MV.sh (.bool (if false = true then !([PyData.str "set", .str "put", .str "take", .str "add"].any fun e => PyData.eqv e (.str w)) else [PyData.str "set", .str "put", .str "take", .str "add"].any fun e => PyData.eqv e (.str w)))) else none).map fun x => (Res.ok x, μ)) = _
  rw [if_pos d, e]
  rfl
/-- the program's view of a line, by the law's words -/
theorem line_worker {line w : Str} {qs : List Str} (hs : Txt.split line ⟨#[32]⟩ = w :: qs) : line = "worker" ↔ w = "worker" ∧ qs = [] := by
  have hj : Str.join ⟨#[32]⟩ (w :: qs) = line := by
    rw [← hs]
    exact StrLaws.join_split line ⟨#[32]⟩
  constructor
  · intro z
    have h2 := split_join 32 [("worker" : Str)] (by simp) fun x hx => by
      rw [List.mem_singleton.mp hx]
      decide +kernel
    rw [z] at hs
    have h3 : Txt.split "worker" ⟨#[32]⟩ = [("worker" : Str)] := h2
    rw [h3] at hs
    obtain ⟨h4, h5⟩ := List.cons.inj hs
    exact ⟨h4.symm, h5.symm⟩
  · rintro ⟨rfl, rfl⟩
    rw [← hj, join_one']
theorem sets {w : Str} (h : w = "set" ∨ w = "put" ∨ w = "take" ∨ w = "add") : ¬ w = "worker" ∧ ¬ w = "pipe" := by
  rcases h with z | z | z | z <;> rw [z] <;> decide +kernel
/-- whether a line is good, by the law's words -/
theorem line_law {w : Str} {qs : List Str} {k : Nat} (h0 : ¬ (w = "worker" ∧ qs = [])) : isLineP w qs (k : Int) = ((!(qs.map (wordP w)).any Option.isNone) &&
    ((decide (w = "pipe") && (decide (qs.length = 3) && decide (k = 0))) || (decide (w = "set" ∨ w = "put" ∨ w = "take" ∨ w = "add") && (decide (qs.length = 1) && decide (0 < k))))) := by
  unfold isLineP
  by_cases hw : w = "worker"
  · have hq : qs ≠ [] := fun z => h0 ⟨hw, z⟩
    have h1 : ¬ w = "pipe" := by rw [hw]; decide +kernel
    have h2 : ¬ (w = "set" ∨ w = "put" ∨ w = "take" ∨ w = "add") := fun z => (sets z).1 hw
    rw [if_pos hw, decide_eq_false h1, decide_eq_false h2, Bool.false_and, Bool.false_and, Bool.or_false, Bool.and_false]
    cases qs with
    | nil => exact absurd rfl hq
    | cons a r => rfl
  rw [if_neg hw]
  by_cases hp : w = "pipe"
  · have hns : ¬ w = "set" := by rw [hp]; decide +kernel
    have h2 : ¬ (w = "set" ∨ w = "put" ∨ w = "take" ∨ w = "add") := fun z => (sets z).2 hp
    rw [if_pos hp, decide_eq_true hp, decide_eq_false h2, Bool.true_and, Bool.false_and, Bool.or_false]
    have ha : (qs.map (wordP w)).any Option.isNone = !qs.all isCount := by
      rw [List.any_map]
      induction qs with
      | nil => rfl
      | cons q r ih =>
        have ih' : r.any (Option.isNone ∘ wordP w) = !r.all isCount := by
          cases r with
          | nil => rfl
          | cons a t => exact ih (fun z => hw z.1)
        rw [List.any_cons, List.all_cons, ih']
        have : (Option.isNone ∘ wordP w) q = !isCount q := by
          show (wordP w q).isNone = _
          unfold wordP figP
          rw [if_neg hns]
          cases isCount q <;> rfl
        rw [this]
        cases isCount q <;> rfl
    rw [ha, Bool.not_not]
    have e1 : decide ((k : Int) = 0) = decide (k = 0) := by rw [decide_eq_decide]; omega
    have e2 : decide ((qs.length : Int) = 3) = decide (qs.length = 3) := by rw [decide_eq_decide]; omega
    rw [e1, e2]
    cases qs.all isCount <;> cases decide (k = 0) <;> cases decide (qs.length = 3) <;> rfl
  rw [if_neg hp, decide_eq_false hp, Bool.false_and, Bool.false_or]
  by_cases hk : (k : Int) = 0 ∨ ¬ (qs.length : Int) = 1
  · rw [if_pos hk]
    have : (decide (qs.length = 1) && decide (0 < k)) = false := by
      rw [Bool.and_eq_false_iff, decide_eq_false_iff_not, decide_eq_false_iff_not]
      omega
    rw [this, Bool.and_false, Bool.and_false]
  rw [if_neg hk]
  obtain ⟨q, rfl⟩ := one_of (Classical.byContradiction fun z => hk (.inr z) : (qs.length : Int) = 1)
  have hk2 : decide (0 < k) = true := decide_eq_true (by omega)
  rw [hk2]
  show (if w = "set" then isNumber q else decide (w = "put" ∨ w = "take" ∨ w = "add") && isCount q) = ((!((wordP w q).isNone || false)) && (decide (w = "set" ∨ w = "put" ∨ w = "take" ∨ w = "add") && true))
  rw [Bool.or_false, Bool.and_true]
  unfold wordP
  by_cases hset : w = "set"
  · rw [if_pos hset, if_pos hset, decide_eq_true (.inl hset), Bool.and_true]
    unfold sgnP
    cases isNumber q <;> rfl
  · rw [if_neg hset, if_neg hset]
    have : decide (w = "set" ∨ w = "put" ∨ w = "take" ∨ w = "add") = decide (w = "put" ∨ w = "take" ∨ w = "add") := by
      rw [decide_eq_decide]
      exact ⟨fun z => z.resolve_left hset, .inr⟩
    rw [this]
    unfold figP
    cases isCount q <;> cases decide (w = "put" ∨ w = "take" ∨ w = "add") <;> rfl
theorem nums_all {w : Str} {qs : List Str} (h : (qs.map (wordP w)).any Option.isNone = false) : qs.map (fun q => optD (wordP w q)) = qs.map fun q => PyData.int (numP q) := by
  refine List.map_congr_left fun q hq => ?_
  rw [List.any_map, List.any_eq_false] at h
  have h1 := h q hq
  cases e : wordP w q with
  | none =>
    exfalso
    apply h1
    show (wordP w q).isNone = true
    rw [e]
    rfl
  | some n =>
    rw [wordP_some e]
    rfl
theorem net_b1 {lines : List Str} {line w : Str} {qs : List Str} {ps : List Pipe} {rows : Rows} (hl : line.length ≤ 600) (hs : Txt.split line ⟨#[32]⟩ = w :: qs)
    (h1 : ps.length < 100000) (h2 : rows.length < 100000) (h3 : ∀ r ∈ rows, r.length < 100000) :
    (∃ st', stepP (ps, rows) (w :: qs) = some st' ∧ ∃ s4 s6, (m_l_net_of_b1 (ES lines (some (strM line)) none none) (VMu ps rows) = some (.nx (ES lines (some (strM line)) s4 s6), VMu st'.1 st'.2) ∨
      m_l_net_of_b1 (ES lines (some (strM line)) none none) (VMu ps rows) = some (.ct (ES lines (some (strM line)) s4 s6), VMu st'.1 st'.2))) ∨
    (stepP (ps, rows) (w :: qs) = none ∧ m_l_net_of_b1 (ES lines (some (strM line)) none none) (VMu ps rows) = some (.rt (.sh .none), VMu ps rows)) := by
  have hp := split_len 32 line
  rw [hs] at hp
  have hq : ∀ p ∈ qs, p.length ≤ 600 := fun p h => Nat.le_trans (hp.1 p (List.mem_cons_of_mem _ h)) hl
  have hql : qs.length ≤ 600 := by
    have := hp.2
    rw [List.length_cons] at this
    omega
  have hstep : stepP (ps, rows) (w :: qs) = if isLineP w qs (rows.length : Int) = true then some (stepW ps rows w qs) else none := rfl
  rw [hstep]
  unfold m_l_net_of_b1
  rw [seq_nx (asg_at (x := .sh (strsL (w :: qs))) (at_ret (by rw [blank_str, splitF (x := line) rfl rfl (by omega), hs])))]
  rw [show (ES lines (some (strM line)) none none).set 4 (some (.sh (strsL (w :: qs)))) = ES lines (some (strM line)) (some (.sh (strsL (w :: qs)))) none from rfl]
  have tl : mTest (mOp2 (mEq false) (mVar 3) (mC (.str "worker"))) (ES lines (some (strM line)) (some (.sh (strsL (w :: qs)))) none) = M.ret (decide (line = "worker")) := testF (eqSF rfl rfl)
  by_cases hw : w = "worker" ∧ qs = []
  · -- a worker
    have hline := (line_worker hs).mpr hw
    have hnp : ¬ w = "pipe" := by rw [hw.1]; decide +kernel
    have hL : isLineP w qs (rows.length : Int) = true := by
      unfold isLineP
      rw [if_pos hw.1, hw.2]
      rfl
    refine .inl ⟨(ps, rows ++ [[]]), ?_, some (.sh (strsL (w :: qs))), none, .inr ?_⟩
    · rw [if_pos hL]
      unfold stepW
      rw [if_neg hnp, if_pos hw.1]
    · rw [seq_ct (δ' := ES lines (some (strM line)) (some (.sh (strsL (w :: qs)))) none) (μ' := VMu ps (rows ++ [[]]))]
      rw [if_t (at_ret (by rw [tl, decide_eq_true hline]))]
      rw [seq_nx (δ' := ES lines (some (strM line)) (some (.sh (strsL (w :: qs)))) none) (μ' := VMu ps (rows ++ [[]]))]
      · rfl
      refine drop_at (x := .sh .none) ?_
      have hlm : (VMu ps rows).length = 2 + rows.length := by
        unfold VMu
        rw [List.length_cons, List.length_cons, List.length_map]
        omega
      rw [mCellM_ev, bindA, show mVar 2 (ES lines _ _ _) (VMu ps rows) = some (.ok (.cell 1), VMu ps rows) from rfl]
      dsimp only
      rw [bindA, cons_at (x := .cell (2 + rows.length)) (μ1 := VMu ps rows ++ [[]]) (by
        show some (Res.ok (MV.cell (VMu ps rows).length), VMu ps rows ++ [[]]) = _
        rw [hlm]) nil_at]
      dsimp only
      rw [cellStepA, show (VMu ps rows ++ [[]])[1]? = some ((List.range rows.length).map fun i => MV.cell (2 + i)) from rfl]
      dsimp only
      rw [show fAppend ((List.range rows.length).map fun i => MV.cell (2 + i)) [.cell (2 + rows.length)] = some (.sh .none, (List.range rows.length).map (fun i => MV.cell (2 + i)) ++ [.cell (2 + rows.length)]) by
        unfold fAppend
        dsimp only
        rw [if_pos (by rw [List.length_map, List.length_range]; exact h2)]]
      show some (Res.ok (MV.sh .none), (VMu ps rows ++ [[]]).set 1 _) = _
      rw [vmu_addR]
  have hline : ¬ line = "worker" := fun z => hw ((line_worker hs).mp z)
  rw [seq_nx (δ' := ES lines (some (strM line)) (some (.sh (strsL (w :: qs)))) none) (μ' := VMu ps rows) (by rw [if_f (at_ret (by rw [tl, decide_eq_false hline]))]; rfl)]
  have ec : mComp false (mSeqS (mSl false (mVar 4) (mPart (mC (.int 1))) mNoPart)) (gNameM 5) mYes (mIf (mTest (mOp2 (mEq false) (mOp2 mIx (mVar 4) (mC (.int 0))) (mC (.str "set")))) (mCallP 1 l_signed (mCons (mVar 5) mNil)) (mCallP 1 l_figures (mCons (mVar 5) mNil))) [5]
      (ES lines (some (strM line)) (some (.sh (strsL (w :: qs)))) none) = M.ret (.sh (.list (qs.map fun q => optD (wordP w q)))) :=
    compF (e := PyData.str) (f := fun q => optD (wordP w q)) (l := qs) (src_l (slLF (d := .str w) (r := qs.map .str) rfl)) (by omega) fun q hq' => ⟨_, rfl, by
      rw [mIf_ev, testF (eqSF (x := w) (y := "set") (ixL0 (a := .str w) (r := qs.map .str) rfl) rfl), ret_bind]
      unfold wordP
      show (if decide (w = "set") = true then _ else _) = _
      by_cases hset : w = "set"
      · rw [decide_eq_true hset, if_pos rfl, if_pos hset]
        exact callF (k := 1) (xs := [.sh (.str q)]) rfl ⟨rfl, rfl⟩ (signed_ok (hq q hq'))
      · rw [decide_eq_false hset, if_neg Bool.false_ne_true, if_neg hset]
        exact callF (k := 1) (xs := [.sh (.str q)]) rfl ⟨rfl, rfl⟩ (figures_ok (hq q hq'))⟩
  rw [seq_nx (asg_at (at_ret ec))]
  rw [show (ES lines (some (strM line)) (some (.sh (strsL (w :: qs)))) none).set 6 (some (.sh (.list (qs.map fun q => optD (wordP w q))))) = ES lines (some (strM line)) (some (.sh (strsL (w :: qs)))) (some (.sh (.list (qs.map fun q => optD (wordP w q))))) from rfl]
  have hlaw := line_law (k := rows.length) hw
  have tn : mTest (mOp2 (mIn false) (mC .none) (mVar 6)) (ES lines (some (strM line)) (some (.sh (strsL (w :: qs)))) (some (.sh (.list (qs.map fun q => optD (wordP w q)))))) (VMu ps rows) = some (.ok ((qs.map (wordP w)).any Option.isNone), VMu ps rows) := by
    refine test_at ?_
    rw [op2_at (x := .sh .none) (y := .sh (.list (qs.map fun q => optD (wordP w q)))) (μ1 := VMu ps rows) (μ2 := VMu ps rows) rfl rfl]
    have := none_in (l := qs.map (wordP w)) (μ := VMu ps rows)
    rw [List.map_map] at this
    exact this
  cases hbad : (qs.map (wordP w)).any Option.isNone with
  | true =>
    rw [hbad, Bool.not_true, Bool.false_and] at hlaw
    refine .inr ⟨by rw [if_neg (by rw [hlaw]; decide)], ?_⟩
    rw [seq_rt (x := .sh .none) (μ' := VMu ps rows) (by rw [if_t (by rw [tn, hbad])]; rfl)]
  | false =>
    rw [hbad, Bool.not_false, Bool.true_and] at hlaw
    rw [seq_nx (δ' := ES lines (some (strM line)) (some (.sh (strsL (w :: qs)))) (some (.sh (.list (qs.map fun q => optD (wordP w q)))))) (μ' := VMu ps rows) (by rw [if_f (by rw [tn, hbad])]; rfl)]
    rw [nums_all hbad]
    clear ec tn
    generalize hδ : ES lines (some (strM line)) (some (.sh (strsL (w :: qs)))) (some (.sh (.list (qs.map fun q => PyData.int (numP q))))) = δ
    have w0 : mOp2 mIx (mVar 4) (mC (.int 0)) δ = M.ret (.sh (.str w)) := ixL0 (r := qs.map .str) (by rw [← hδ]; rfl)
    have len6 : mCB mLen (mCons (mVar 6) mNil) δ = M.ret (.sh (.int (qs.length : Int))) := by
      rw [lenLF (ds := qs.map fun q => PyData.int (numP q)) (by rw [← hδ]; rfl), List.length_map]
    have len2 : mCB mLen (mCons (mVar 2) mNil) δ (VMu ps rows) = some (.ok (.sh (.int (rows.length : Int))), VMu ps rows) := by
      rw [cb_at (xs := [.cell 1]) (by rw [← hδ]; rfl), mLen_c]
      show some (Res.ok (MV.sh (.int ((List.range rows.length).map _).length)), _) = _
      rw [List.length_map, List.length_range]
    have tP : mAnd (mTest (mOp2 (mEq false) (mOp2 mIx (mVar 4) (mC (.int 0))) (mC (.str "pipe")))) (mAnd (mTest (mOp2 (mEq false) (mCB mLen (mCons (mVar 6) mNil)) (mC (.int 3)))) (mTest (mOp2 (mEq false) (mCB mLen (mCons (mVar 2) mNil)) (mC (.int 0))))) δ (VMu ps rows) =
        some (.ok (decide (w = "pipe") && (decide ((qs.length : Int) = 3) && decide ((rows.length : Int) = 0))), VMu ps rows) :=
      and_at (at_ret (testF (eqSF w0 rfl))) fun _ => and_at (at_ret (testF (eqIF len6 rfl))) fun _ => test_at (by
        rw [op2_at len2 (at_ret (x := .sh (.int 0)) rfl), mEq_int]
        rfl)
    have tS : mAnd (mTest (mOp2 (mIn false) (mOp2 mIx (mVar 4) (mC (.int 0))) (mTup (mCons (mC (.str "set")) (mCons (mC (.str "put")) (mCons (mC (.str "take")) (mCons (mC (.str "add")) mNil))))))) (mAnd (mTest (mOp2 (mEq false) (mCB mLen (mCons (mVar 6) mNil)) (mC (.int 1)))) (mTest (mOp2 fGt (mCB mLen (mCons (mVar 2) mNil)) (mC (.int 0))))) δ (VMu ps rows) =
        some (.ok (decide (w = "set" ∨ w = "put" ∨ w = "take" ∨ w = "add") && (decide ((qs.length : Int) = 1) && decide ((0 : Int) < (rows.length : Int)))), VMu ps rows) :=
      and_at (at_ret (testF (by
        rw [mOp2_ev, w0, ret_bind, show mTup (mCons (mC (.str "set")) (mCons (mC (.str "put")) (mCons (mC (.str "take")) (mCons (mC (.str "add")) mNil)))) δ = M.ret (.sh (.tuple [.str "set", .str "put", .str "take", .str "add"])) by walk_at "ev", ret_bind, in_four]))) fun _ => and_at (at_ret (testF (eqIF len6 rfl))) fun _ => test_at (by
        rw [op2_at len2 (at_ret (x := .sh (.int 0)) rfl)]
        rfl)
    by_cases hP : w = "pipe" ∧ qs.length = 3 ∧ rows.length = 0
    · obtain ⟨a, b, c, rfl⟩ := three_of (by rw [hP.2.1]; rfl : (qs.length : Int) = 3)
      have hL : isLineP w [a, b, c] (rows.length : Int) = true := by
        rw [hlaw, decide_eq_true hP.1, decide_eq_true hP.2.1, decide_eq_true hP.2.2]
        rfl
      refine .inl ⟨(ps ++ [pipeOf [a, b, c]], rows), ?_, some (.sh (strsL (w :: [a, b, c]))), some (.sh (.list ([a, b, c].map fun q => PyData.int (numP q)))), .inl ?_⟩
      · rw [if_pos hL]
        unfold stepW
        rw [if_pos hP.1]
      · rw [if_t (by
          rw [tP, decide_eq_true hP.1, decide_eq_true (by rw [hP.2.1]; rfl : (([a, b, c] : List Str).length : Int) = 3), decide_eq_true (by rw [hP.2.2]; rfl : (rows.length : Int) = 0)]
          rfl), app_cell (n := 0) (xs := ps.map encP) (y := encP (pipeOf [a, b, c])) (by rw [← hδ]; rfl) (at_ret (by
          rw [mTup_ev, mCons_ev, ixL0 (a := .int (numP a)) (r := [.int (numP b), .int (numP c)]) (by rw [← hδ]; rfl), ret_bind, mCons_ev, ixL1 (a := .int (numP a)) (b := .int (numP b)) (r := [.int (numP c)]) (by rw [← hδ]; rfl), ret_bind, mCons_ev,
            ixL2 (a := .int (numP a)) (b := .int (numP b)) (c := .int (numP c)) (r := []) (by rw [← hδ]; rfl)]
          rfl)) rfl (by rw [List.length_map]; exact h1), vmu_addP, ← hδ]
    · have hPf : (decide (w = "pipe") && (decide (qs.length = 3) && decide (rows.length = 0))) = false := by
        rw [Bool.and_eq_false_iff, Bool.and_eq_false_iff, decide_eq_false_iff_not, decide_eq_false_iff_not, decide_eq_false_iff_not]
        by_cases z1 : w = "pipe"
        · by_cases z2 : qs.length = 3
          · exact .inr (.inr fun z3 => hP ⟨z1, z2, z3⟩)
          · exact .inr (.inl z2)
        · exact .inl z1
      have hPf' : (decide (w = "pipe") && (decide ((qs.length : Int) = 3) && decide ((rows.length : Int) = 0))) = false := by
        rw [decide_eq_decide.mpr (show (qs.length : Int) = 3 ↔ qs.length = 3 by omega), decide_eq_decide.mpr (show (rows.length : Int) = 0 ↔ rows.length = 0 by omega)]
        exact hPf
      rw [hPf, Bool.false_or] at hlaw
      rw [if_f (by rw [tP, hPf'])]
      by_cases hS : (w = "set" ∨ w = "put" ∨ w = "take" ∨ w = "add") ∧ qs.length = 1 ∧ 0 < rows.length
      · obtain ⟨a, rfl⟩ := one_of (by rw [hS.2.1]; rfl : (qs.length : Int) = 1)
        obtain ⟨hw1, hw2⟩ := sets hS.1
        have hL : isLineP w [a] (rows.length : Int) = true := by
          rw [hlaw, decide_eq_true hS.1, decide_eq_true hS.2.1, decide_eq_true hS.2.2]
          rfl
        have hlast : rows[rows.length - 1]? = some (rows.getD (rows.length - 1) []) := get_getD [] (by omega)
        have hmem := List.mem_of_getElem? hlast
        refine .inl ⟨(ps, addLast rows (w, numP a)), ?_, some (.sh (strsL (w :: [a]))), some (.sh (.list ([a].map fun q => PyData.int (numP q)))), .inl ?_⟩
        · rw [if_pos hL]
          unfold stepW
          rw [if_neg hw2, if_neg hw1]
          rfl
        · rw [if_t (by
            rw [tS, decide_eq_true hS.1, decide_eq_true (by rw [hS.2.1]; rfl : (([a] : List Str).length : Int) = 1), decide_eq_true (by omega : (0 : Int) < (rows.length : Int))]
            rfl)]
          rw [app_cell (n := 2 + (rows.length - 1)) (xs := (rows.getD (rows.length - 1) []).map encO) (y := encO (w, numP a)) (by
            rw [op2_at (x := .cell 1) (y := .sh (.int (-1))) (μ1 := VMu ps rows) (μ2 := VMu ps rows) (by rw [← hδ]; rfl) rfl, mIx_c]
            show (match some ((List.range rows.length).map fun i => MV.cell (2 + i)) with
              | some xs => (L2.atI xs (-1)).map fun x => (Res.ok x, VMu ps rows)
              | none => none) = _
            dsimp only
            obtain ⟨k, hk⟩ : ∃ k, rows.length = k + 1 := ⟨rows.length - 1, by omega⟩
            rw [hk, List.range_succ, List.map_append]
            show (L2.atI (_ ++ [MV.cell (2 + k)]) (-1)).map _ = _
            rw [L2.atI_last]
            rfl) (at_ret (tup_ev w0 (ixL0 (a := .int (numP a)) (r := []) (by rw [← hδ]; rfl)))) (vmu_row hlast) (by rw [List.length_map]; exact h3 _ hmem)]
          rw [show (rows.getD (rows.length - 1) []).map encO ++ [encO (w, numP a)] = (rows.getD (rows.length - 1) [] ++ [(w, numP a)]).map encO by rw [List.map_append]; rfl, vmu_addO, ← hδ]
          rfl
      · have hSf : (decide (w = "set" ∨ w = "put" ∨ w = "take" ∨ w = "add") && (decide (qs.length = 1) && decide (0 < rows.length))) = false := by
          rw [Bool.and_eq_false_iff, Bool.and_eq_false_iff, decide_eq_false_iff_not, decide_eq_false_iff_not, decide_eq_false_iff_not]
          by_cases z1 : w = "set" ∨ w = "put" ∨ w = "take" ∨ w = "add"
          · by_cases z2 : qs.length = 1
            · exact .inr (.inr fun z3 => hS ⟨z1, z2, z3⟩)
            · exact .inr (.inl z2)
          · exact .inl z1
        have hSf' : (decide (w = "set" ∨ w = "put" ∨ w = "take" ∨ w = "add") && (decide ((qs.length : Int) = 1) && decide ((0 : Int) < (rows.length : Int)))) = false := by
          rw [decide_eq_decide.mpr (show (qs.length : Int) = 1 ↔ qs.length = 1 by omega), decide_eq_decide.mpr (show (0 : Int) < (rows.length : Int) ↔ 0 < rows.length by omega)]
          exact hSf
        rw [hSf] at hlaw
        refine .inr ⟨by rw [if_neg (by rw [hlaw]; decide)], ?_⟩
        rw [if_f (by rw [tS, hSf'])]
        rfl
end LW

set_option Elab.async false
set_option linter.all false
set_option maxRecDepth 100000
set_option maxHeartbeats 2000000
set_option exponentiation.threshold 300
namespace LW
open PySem PySem.W PD NumText
local macro_rules | `(tactic| walk_at "ev") => `(tactic| simp (disch := first | assumption | decide | omega) only [ret_bind, opt_some, look_some, mVar_0, mVar_s, mC_ev, mOp2_ev, mOp1_ev, mNil_ev, mCons_ev, mCB_ev, mTest_ev, isB_ev, mAnd_ev, mOr_ev, mNot_ev, mAndV_ev, mOrV_ev, mNotV_ev, mIf_ev, mChain_ev, mTru_ev, truM_b, mTup_ev, mLst_ev,
  mkL_nil, mkL_1, mkL_2, mkL_3, mkL_4, mkT_2, mkT_3, mkT_4, mI2_ev, mI1_ev, fMod_ev, fDiv_ev, fPow_ev, mAdd_i, mMul_i, mEq_int, mEq_str, mEq_bool, mIx_l, mIx_t, mIx_s, mLen_l, mLen_t, mLen_s, mI2L_ev, mIsi_ev, isiM, kindM, isiT, liftR_ok, mCallP_ev,
  mSeq_ev, sbind_nx, sbind_rt, sbind_ct, sbind_bk, sbind_ex, withV_ret, asg_some, mAsg_name, mNext_ev, mCont_ev, mBreak_ev, mRetN_ev, mRaise_ev, mRet_ev, mDrop_ev, mIfS_ev, atI_0, atI_1, atI_2, atI_3,
  start_ev, List.map_cons, List.map_nil, List.length_cons, List.length_nil, Nat.reduceAdd, Nat.reduceSub, Nat.zero_add, List.replicate_succ, List.replicate_zero, List.cons_append, List.nil_append, List.append_nil, List.set_cons_zero, List.set_cons_succ, Nat.reduceLeDiff, if_true, if_false, Bool.false_eq_true, Bool.true_eq_false, Bool.not_true, Bool.not_false, decide_eq_true_eq, decide_true, decide_false, Bool.and_true, Bool.true_and, Bool.and_false, Bool.false_and, Bool.or_true, Bool.or_false, Bool.true_or, Bool.false_or, List.all_cons, List.all_nil, cf, and_self, and_true, true_and, Nat.le_refl, Option.map_some, reduceCtorEq])
/-! ### the law's net -/
def netO : Option (List Pipe × Rows) → PyData
  | some st => Datum.toD ((st.1, st.2) : Net)
  | none => .none
theorem readL_step {l w : Str} {qs r : List Str} {st : List Pipe × Rows} (hs : Txt.split l ⟨#[32]⟩ = w :: qs) : readL (l :: r) st = match stepP st (w :: qs) with
    | some st' => readL r st'
    | none => none := by
  show (match stepP st (Txt.split l ⟨#[32]⟩) with
    | some st' => readL r st'
    | none => none) = _
  rw [hs]
theorem stepP_fit {L : Nat} {ps : List Pipe} {rows : Rows} {w : Str} {qs : List Str} {st' : List Pipe × Rows} (hf : Fit (L + 1) ps rows) (h : stepP (ps, rows) (w :: qs) = some st') : Fit L st'.1 st'.2 := by
  have h' : (if isLineP w qs (rows.length : Int) = true then some (stepW ps rows w qs) else none) = some st' := h
  split at h'
  · rename_i hL
    cases h'
    exact step_fit hf hL
  · cases h'
theorem net_loop {lines0 : List Str} : ∀ (lines : List Str) (ps : List Pipe) (rows : Rows), (∀ l ∈ lines, l.length ≤ 600) → Fit lines.length ps rows →
    (readL lines (ps, rows) = none ∧ ∃ μ, forL (gNameM 3) m_l_net_of_b1 [3, 4, 6] (lines.map strM) (ES lines0 none none none) (VMu ps rows) = some (.rt (.sh .none), μ)) ∨
    ∃ ps' rows', readL lines (ps, rows) = some (ps', rows') ∧ forL (gNameM 3) m_l_net_of_b1 [3, 4, 6] (lines.map strM) (ES lines0 none none none) (VMu ps rows) = some (.nx (ES lines0 none none none), VMu ps' rows')
  | [], ps, rows, _, _ => .inr ⟨ps, rows, rfl, rfl⟩
  | l :: r, ps, rows, hl, hf => by
    obtain ⟨w, qs, hs⟩ := split_ne l ⟨#[32]⟩
    have hb := net_b1 (lines := lines0) (line := l) (w := w) (qs := qs) (ps := ps) (rows := rows) (hl l List.mem_cons_self) hs
      (by have := hf.p; rw [List.length_cons] at this; omega) (by have := hf.r; rw [List.length_cons] at this; omega) (fun r hr => by have := hf.o r hr; rw [List.length_cons] at this; omega)
    rw [readL_step hs, List.map_cons]
    rcases hb with ⟨st', e1, s4, s6, e⟩ | ⟨e1, e⟩
    · rw [e1]
      have ef : forL (gNameM 3) m_l_net_of_b1 [3, 4, 6] (strM l :: r.map strM) (ES lines0 none none none) (VMu ps rows) = forL (gNameM 3) m_l_net_of_b1 [3, 4, 6] (r.map strM) (ES lines0 none none none) (VMu st'.1 st'.2) := by
        conv => lhs; unfold forL
        rw [show gNameM 3 (strM l) (ES lines0 none none none) = some (ES lines0 (some (strM l)) none none) from rfl]
        dsimp only
        rcases e with e | e <;> rw [e] <;> rfl
      rw [ef]
      exact net_loop r st'.1 st'.2 (fun l h => hl l (List.mem_cons_of_mem _ h)) (stepP_fit hf e1)
    · refine .inl ⟨by rw [e1], VMu ps rows, ?_⟩
      unfold forL
      rw [show gNameM 3 (strM l) (ES lines0 none none none) = some (ES lines0 (some (strM l)) none none) from rfl]
      dsimp only
      rw [e]
/-- what the law reads of a text's lines -/
def readS (lines : List Str) : Option (List Pipe × Rows) := match readL lines ([], []) with
  | some st => if st.2 = [] then none else some st
  | none => none
theorem readS_split (text : Str) : readS (Txt.split text ⟨#[10]⟩) = readP text := rfl
theorem net_of_ok {lines : List Str} (hl : ∀ l ∈ lines, l.length ≤ 600) (hn : lines.length ≤ 50000) : l_net_of [.sh (strsL lines)] = some (.ok (netO (readS lines))) := by
  have pre : ∀ {b : MS}, mSeq (mAsg (gNameM 1) (mLst true mNil)) (mSeq (mAsg (gNameM 2) (mLst true mNil)) b) (startM 7 [.sh (strsL lines)]) [] = b (ES lines none none none) (VMu [] []) := fun {b} => by
    rw [seq_nx (δ' := [some (.sh (strsL lines)), some (.cell 0), none, none, none, none, none]) (μ' := [[]]) rfl, seq_nx (δ' := ES lines none none none) (μ' := VMu [] []) rfl]
  have hfor : mFor (mSeqS (mVar 0)) (gNameM 3) m_l_net_of_b1 [3, 4, 6] (ES lines none none none) (VMu [] []) = forL (gNameM 3) m_l_net_of_b1 [3, 4, 6] (lines.map strM) (ES lines none none none) (VMu [] []) := by
    rw [for_st (at_ret (src_l (ds := lines.map .str) rfl)), List.map_map]
    rfl
  have lp := net_loop (lines0 := lines) lines [] [] hl ⟨by show 0 + _ ≤ _; omega, by show 0 + _ ≤ _; omega, fun r h => by cases h⟩
  unfold readS
  rcases lp with ⟨hr, μ, e⟩ | ⟨ps, rows, hr, e⟩
  · rw [hr]
    refine bodyP_rt_at (x := .sh .none) (μ := μ) ?_ peek_sh
    unfold m_l_net_of
    rw [pre, seq_rt (hfor.trans e)]
  · rw [hr]
    dsimp only
    have len2 : mCB mLen (mCons (mVar 2) mNil) (ES lines none none none) (VMu ps rows) = some (.ok (.sh (.int (rows.length : Int))), VMu ps rows) := by
      rw [cb_at (xs := [.cell 1]) rfl, mLen_c]
      show some (Res.ok (MV.sh (.int ((List.range rows.length).map _).length)), _) = _
      rw [List.length_map, List.length_range]
    have tE : mTest (mOp2 (mEq false) (mCB mLen (mCons (mVar 2) mNil)) (mC (.int 0))) (ES lines none none none) (VMu ps rows) = some (.ok (decide ((rows.length : Int) = 0)), VMu ps rows) := test_at (by
      rw [op2_at len2 (at_ret (x := .sh (.int 0)) rfl), mEq_int]
      rfl)
    by_cases hrows : rows = []
    · rw [if_pos hrows]
      refine bodyP_rt_at (x := .sh .none) (μ := VMu ps rows) ?_ peek_sh
      unfold m_l_net_of
      rw [pre, seq_nx (hfor.trans e), seq_rt (x := .sh .none) (μ' := VMu ps rows) (by
        rw [if_t (μ' := VMu ps rows) (by rw [tE, decide_eq_true (by rw [hrows]; rfl)])]
        rfl)]
    · rw [if_neg hrows]
      refine bodyP_rt_at (x := .tp [.cell 0, .cell 1]) (μ := VMu ps rows) ?_ (peek_vmu (n := 4))
      unfold m_l_net_of
      have hne : ¬ (rows.length : Int) = 0 := fun z => hrows (List.length_eq_zero_iff.mp (by omega))
      rw [pre, seq_nx (hfor.trans e), seq_nx (δ' := ES lines none none none) (μ' := VMu ps rows) (by
        rw [if_f (μ' := VMu ps rows) (by rw [tE, decide_eq_false hne])]
        rfl)]
      rfl
/-! what is read: nothing below nought but in sets -/
structure NonNeg (ps : List Pipe) (rows : Rows) : Prop where
  p : ∀ p ∈ ps, 0 ≤ p.a ∧ 0 ≤ p.b ∧ 0 ≤ p.c
  o : ∀ r ∈ rows, ∀ o ∈ r, o.1 = "set" ∨ ((o.1 = "put" ∨ o.1 = "take" ∨ o.1 = "add") ∧ 0 ≤ o.2)
theorem count_nonneg {p : Str} (h : isCount p = true) (hl : p.length ≤ 600) : 0 ≤ numP p := by
  unfold numP
  rw [count_int h hl]
  exact Int.natCast_nonneg _
theorem step_nonneg {ps : List Pipe} {rows : Rows} {w : Str} {qs : List Str} (h : NonNeg ps rows) (hL : isLineP w qs (rows.length : Int) = true) (hq : ∀ q ∈ qs, q.length ≤ 600) : NonNeg (stepW ps rows w qs).1 (stepW ps rows w qs).2 := by
  have hL0 := hL
  unfold stepW
  rcases line_cases hL with ⟨hw, rfl⟩ | ⟨hw, hk, a, b, c, rfl⟩ | ⟨hw1, hw2, hk, a, rfl⟩
  · have hnp : ¬ w = "pipe" := by rw [hw]; decide +kernel
    rw [if_neg hnp, if_pos hw]
    refine ⟨h.p, fun r hr => ?_⟩
    rcases List.mem_append.mp hr with z | z
    · exact h.o r z
    · rw [List.mem_singleton.mp z]
      exact fun o ho => absurd ho List.not_mem_nil
  · rw [if_pos hw]
    refine ⟨fun p hp => ?_, h.o⟩
    rcases List.mem_append.mp hp with z | z
    · exact h.p p z
    · rw [List.mem_singleton.mp z]
      have hnw : ¬ w = "worker" := by rw [hw]; decide +kernel
      unfold isLineP at hL
      rw [if_neg hnw, if_pos hw, Bool.and_eq_true, Bool.and_eq_true] at hL
      have hall := List.all_eq_true.mp hL.2.2
      exact ⟨count_nonneg (hall a (by simp)) (hq a (by simp)), count_nonneg (hall b (by simp)) (hq b (by simp)), count_nonneg (hall c (by simp)) (hq c (by simp))⟩
  · rw [if_neg hw2, if_neg hw1]
    refine ⟨h.p, fun r hr => ?_⟩
    rcases List.mem_or_eq_of_mem_set hr with z | z
    · exact h.o r z
    · have hm : rows.getD (rows.length - 1) [] ∈ rows := List.mem_of_getElem? (get_getD [] (by omega))
      rw [z]
      intro o ho
      rcases List.mem_append.mp ho with y | y
      · exact h.o _ hm o y
      · rw [List.mem_singleton.mp y]
        show w = "set" ∨ ((w = "put" ∨ w = "take" ∨ w = "add") ∧ 0 ≤ numP a)
        unfold isLineP at hL
        rw [if_neg hw1, if_neg hw2, if_neg (by
          rintro (z | z)
          · exact hk z
          · exact z rfl)] at hL
        by_cases hset : w = "set"
        · exact .inl hset
        · rw [if_neg hset, Bool.and_eq_true] at hL
          exact .inr ⟨of_decide_eq_true hL.1, count_nonneg hL.2 (hq a (by simp))⟩
theorem readL_nonneg : ∀ (lines : List Str) (st st' : List Pipe × Rows), (∀ l ∈ lines, l.length ≤ 600) → NonNeg st.1 st.2 → readL lines st = some st' → NonNeg st'.1 st'.2
  | [], st, st', _, h, e => by
    cases e
    exact h
  | l :: r, st, st', hl, h, e => by
    obtain ⟨w, qs, hs⟩ := split_ne l ⟨#[32]⟩
    rw [readL_step hs] at e
    have hp := (split_len 32 l).1
    rw [hs] at hp
    have e1 : stepP st (w :: qs) = if isLineP w qs (st.2.length : Int) = true then some (stepW st.1 st.2 w qs) else none := rfl
    rw [e1] at e
    by_cases hL : isLineP w qs (st.2.length : Int) = true
    · rw [if_pos hL] at e
      exact readL_nonneg r _ st' (fun x hx => hl x (List.mem_cons_of_mem _ hx)) (step_nonneg h hL fun q hq => Nat.le_trans (hp q (List.mem_cons_of_mem _ hq)) (hl l List.mem_cons_self)) e
    · rw [if_neg hL] at e
      cases e
/-! how much is read -/
theorem readL_size : ∀ (lines : List Str) (st st' : List Pipe × Rows) (a b c : Nat), st.1.length ≤ a → st.2.length ≤ b → (∀ r ∈ st.2, r.length ≤ c) → readL lines st = some st' →
    st'.1.length ≤ a + lines.length ∧ st'.2.length ≤ b + lines.length ∧ ∀ r ∈ st'.2, r.length ≤ c + lines.length
  | [], st, st', a, b, c, h1, h2, h3, e => by
    cases e
    exact ⟨h1, h2, h3⟩
  | l :: r, st, st', a, b, c, h1, h2, h3, e => by
    obtain ⟨w, qs, hs⟩ := split_ne l ⟨#[32]⟩
    rw [readL_step hs] at e
    have e1 : stepP st (w :: qs) = if isLineP w qs (st.2.length : Int) = true then some (stepW st.1 st.2 w qs) else none := rfl
    rw [e1] at e
    by_cases hL : isLineP w qs (st.2.length : Int) = true
    · rw [if_pos hL] at e
      have key : (stepW st.1 st.2 w qs).1.length ≤ a + 1 ∧ (stepW st.1 st.2 w qs).2.length ≤ b + 1 ∧ ∀ r ∈ (stepW st.1 st.2 w qs).2, r.length ≤ c + 1 := by
        unfold stepW
        split
        · exact ⟨by rw [List.length_append, List.length_singleton]; omega, by show st.2.length ≤ _; omega, fun r hr => by have := h3 r hr; omega⟩
        · split
          · refine ⟨by show st.1.length ≤ _; omega, by rw [List.length_append, List.length_singleton]; omega, fun r hr => ?_⟩
            rcases List.mem_append.mp hr with z | z
            · have := h3 r z
              omega
            · rw [List.mem_singleton.mp z]
              exact Nat.zero_le _
          · rename_i hw2 hw1
            rcases line_cases hL with ⟨z, _⟩ | ⟨z, _⟩ | ⟨_, _, hk, q, _⟩
            · exact absurd z hw1
            · exact absurd z hw2
            refine ⟨by show st.1.length ≤ _; omega, by show (st.2.set _ _).length ≤ _; rw [List.length_set]; omega, fun r hr => ?_⟩
            rcases List.mem_or_eq_of_mem_set hr with z | z
            · have := h3 r z
              omega
            · have hm : st.2.getD (st.2.length - 1) [] ∈ st.2 := List.mem_of_getElem? (get_getD [] (by omega))
              have := h3 _ hm
              rw [z, List.length_append, List.length_singleton]
              omega
      have := readL_size r _ st' (a + 1) (b + 1) (c + 1) key.1 key.2.1 key.2.2 e
      rw [List.length_cons]
      exact ⟨by omega, by omega, fun r hr => by have := this.2.2 r hr; omega⟩
    · rw [if_neg hL] at e
      cases e
theorem readP_size {text : Str} {ps : List Pipe} {rows : Rows} (h : readP text = some (ps, rows)) (hn : (Txt.split text ⟨#[10]⟩).length < 300) : ps.length < 300 ∧ rows.length < 300 ∧ ∀ r ∈ rows, r.length < 300 := by
  unfold readP at h
  cases e : readL (Txt.split text ⟨#[10]⟩) ([], []) with
  | none =>
    rw [e] at h
    cases h
  | some st =>
    rw [e] at h
    dsimp only at h
    split at h
    · cases h
    · cases h
      have := readL_size _ _ _ 0 0 0 (Nat.le_refl _) (Nat.le_refl _) (fun r hr => absurd hr List.not_mem_nil) e
      exact ⟨by have := this.1; dsimp only at this; omega, by have := this.2.1; dsimp only at this; omega, fun r hr => by have := this.2.2 r hr; omega⟩
theorem readP_nonneg {text : Str} {ps : List Pipe} {rows : Rows} (h : readP text = some (ps, rows)) (hl : ∀ l ∈ Txt.split text ⟨#[10]⟩, l.length ≤ 600) : NonNeg ps rows := by
  unfold readP at h
  cases e : readL (Txt.split text ⟨#[10]⟩) ([], []) with
  | none =>
    rw [e] at h
    cases h
  | some st =>
    rw [e] at h
    dsimp only at h
    split at h
    · cases h
    · cases h
      exact readL_nonneg _ _ _ hl ⟨fun p hp => absurd hp List.not_mem_nil, fun r hr => absurd hr List.not_mem_nil⟩ e
end LW

set_option Elab.async false
set_option linter.all false
set_option maxRecDepth 100000
set_option maxHeartbeats 2000000
set_option exponentiation.threshold 300
namespace LW
open PySem PySem.W PD NumText
local macro_rules | `(tactic| walk_at "ev") => `(tactic| simp (disch := first | assumption | decide | omega) only [ret_bind, opt_some, look_some, mVar_0, mVar_s, mC_ev, mOp2_ev, mOp1_ev, mNil_ev, mCons_ev, mCB_ev, mTest_ev, isB_ev, mAnd_ev, mOr_ev, mNot_ev, mAndV_ev, mOrV_ev, mNotV_ev, mIf_ev, mChain_ev, mTru_ev, truM_b, mTup_ev, mLst_ev,
  mkL_nil, mkL_1, mkL_2, mkL_3, mkL_4, mkT_2, mkT_3, mkT_4, mI2_ev, mI1_ev, fMod_ev, fDiv_ev, fPow_ev, mAdd_i, mMul_i, mEq_int, mEq_str, mEq_bool, mIx_l, mIx_t, mIx_s, mLen_l, mLen_t, mLen_s, mI2L_ev, mIsi_ev, isiM, kindM, isiT, liftR_ok, mCallP_ev,
  mSeq_ev, sbind_nx, sbind_rt, sbind_ct, sbind_bk, sbind_ex, withV_ret, asg_some, mAsg_name, mNext_ev, mCont_ev, mBreak_ev, mRetN_ev, mRaise_ev, mRet_ev, mDrop_ev, mIfS_ev, atI_0, atI_1, atI_2, atI_3,
  start_ev, List.map_cons, List.map_nil, List.length_cons, List.length_nil, Nat.reduceAdd, Nat.reduceSub, Nat.zero_add, List.replicate_succ, List.replicate_zero, List.cons_append, List.nil_append, List.append_nil, List.set_cons_zero, List.set_cons_succ, Nat.reduceLeDiff, if_true, if_false, Bool.false_eq_true, Bool.true_eq_false, Bool.not_true, Bool.not_false, decide_eq_true_eq, decide_true, decide_false, Bool.and_true, Bool.true_and, Bool.and_false, Bool.false_and, Bool.or_true, Bool.or_false, Bool.true_or, Bool.false_or, List.all_cons, List.all_nil, cf, and_self, and_true, true_and, Nat.le_refl, Option.map_some, reduceCtorEq])
/-! ### what the law holds due -/
def DS (ps : List Pipe) (rows : Rows) (s1 s2 s3 s4 : Option MV) : Sl := [some (.sh (Datum.toD ((ps, rows) : Net))), s1, s2, s3, s4]
theorem ds0 {ps : List Pipe} {rows : Rows} {s1 s2 s3 s4 : Option MV} : mOp2 mIx (mVar 0) (mC (.int 0)) (DS ps rows s1 s2 s3 s4) = M.ret (.sh (Datum.toD ps)) := ixT0 (a := Datum.toD ps) rfl
theorem ds1 {ps : List Pipe} {rows : Rows} {s1 s2 s3 s4 : Option MV} : mOp2 mIx (mVar 0) (mC (.int 1)) (DS ps rows s1 s2 s3 s4) = M.ret (.sh (Datum.toD rows)) := ixT1 (b := Datum.toD rows) rfl
theorem dlen0 {ps : List Pipe} {rows : Rows} {s1 s2 s3 s4 : Option MV} : mCB mLen (mCons (mOp2 mIx (mVar 0) (mC (.int 0))) mNil) (DS ps rows s1 s2 s3 s4) = M.ret (.sh (.int (ps.length : Int))) := by
  rw [lenLF (ds := ps.map Datum.toD) ds0, List.length_map]
theorem dlen1 {ps : List Pipe} {rows : Rows} {s1 s2 s3 s4 : Option MV} : mCB mLen (mCons (mOp2 mIx (mVar 0) (mC (.int 1))) mNil) (DS ps rows s1 s2 s3 s4) = M.ret (.sh (.int (rows.length : Int))) := by
  rw [lenLF (ds := rows.map Datum.toD) ds1, List.length_map]
theorem ltF {a b : Sl → M MV} {δ : Sl} {x y : Int} (ha : a δ = M.ret (.sh (.int x))) (hb : b δ = M.ret (.sh (.int y))) : mTest (mOp2 fLt a b) δ = M.ret (decide (x < y)) := testF (by rw [mOp2_ev, ha, ret_bind, hb]; rfl)
theorem geF {a b : Sl → M MV} {δ : Sl} {x y : Int} (ha : a δ = M.ret (.sh (.int x))) (hb : b δ = M.ret (.sh (.int y))) : mTest (mOp2 fGe a b) δ = M.ret (decide (y ≤ x)) := testF (by rw [mOp2_ev, ha, ret_bind, hb]; rfl)
theorem chainLL {a b c : Sl → M MV} {δ : Sl} {x y z : Int} (ha : a δ = M.ret (.sh (.int x))) (hb : b δ = M.ret (.sh (.int y))) (hc : c δ = M.ret (.sh (.int z))) : mTest (mChain fLe fLe a b c) δ = M.ret (decide (x ≤ y) && decide (y ≤ z)) := testF (by
  rw [mChain_ev, ha, ret_bind, hb, ret_bind]
  show M.bind (M.ret (MV.sh (PyData.bool (decide (x ≤ y))))) _ = _
  rw [ret_bind, isB_ev, opt_some, ret_bind, hc, ret_bind]
  cases decide (x ≤ y) <;> rfl)
theorem due_b1 {ps : List Pipe} {rows : Rows} {p : Pipe} {s2 s3 s4 : Option MV} (h : 0 ≤ p.a ∧ 0 ≤ p.b ∧ 0 ≤ p.c) : m_l_due_b1 (DS ps rows (some (.sh (Datum.toD p))) s2 s3 s4) = if GoodP rows.length p then S.ret (.nx (DS ps rows (some (.sh (Datum.toD p))) s2 s3 s4)) else S.ret (.rt (.sh (.str "pipe"))) := by
  unfold m_l_due_b1
  have q0 : mOp2 mIx (mVar 1) (mC (.int 0)) (DS ps rows (some (.sh (Datum.toD p))) s2 s3 s4) = M.ret (.sh (.int p.a)) := ixT0 rfl
  have q1 : mOp2 mIx (mVar 1) (mC (.int 1)) (DS ps rows (some (.sh (Datum.toD p))) s2 s3 s4) = M.ret (.sh (.int p.b)) := ixT1 rfl
  have q2 : mOp2 mIx (mVar 1) (mC (.int 2)) (DS ps rows (some (.sh (Datum.toD p))) s2 s3 s4) = M.ret (.sh (.int p.c)) := ixT2 rfl
  rw [ifF (notF (andF (ltF q0 dlen1) (andF (ltF q1 dlen1) (chainLL (x := 1) (z := 1000) rfl q2 rfl))))]
  rw [show (decide (p.a < (rows.length : Int)) && (decide (p.b < (rows.length : Int)) && (decide (1 ≤ p.c) && decide (p.c ≤ 1000)))) = decide (GoodP rows.length p) by
    rw [Bool.eq_iff_iff, decide_eq_true_iff]
    unfold GoodP
    simp only [Bool.and_eq_true, decide_eq_true_eq]
    exact ⟨fun z => ⟨⟨h.1, z.1⟩, ⟨h.2.1, z.2.1⟩, z.2.2.1, z.2.2.2⟩, fun z => ⟨z.1.2, z.2.1.2, z.2.2.1, z.2.2.2⟩⟩]
  by_cases hg : GoodP rows.length p
  · rw [decide_eq_true hg, if_pos hg]
    rfl
  · rw [decide_eq_false hg, if_neg hg]
    rfl
theorem in_two {w : Str} : mIn false (.sh (.str w)) (.sh (.tuple [.str "take", .str "add"])) = M.ret (.sh (.bool (decide (w = "take" ∨ w = "add")))) := by
  funext μ
  have d : (PyData.str w).depth ≤ 60 := by simp [PyData.depth]
  have ev : ∀ a b : Str, PyData.eqv (.str a) (.str b) = decide (a = b) := fun a b => by simp only [PyData.eqv]; exact PySem.W.beq_decide a b
  have e : ([PyData.str "take", .str "add"].any fun e => PyData.eqv e (.str w)) = decide (w = "take" ∨ w = "add") := by
    simp only [List.any_cons, List.any_nil, ev, Bool.or_false, Bool.decide_or]
    rw [decide_eq_decide.mpr (show ("take" : Str) = w ↔ w = "take" from eq_comm), decide_eq_decide.mpr (show ("add" : Str) = w ↔ w = "add" from eq_comm)]
  show ((if (PyData.str w).depth ≤ 60 then some (MV.sh (.bool (if false = true then !([PyData.str "take", .str "add"].any fun e => PyData.eqv e (.str w)) else [PyData.str "take", .str "add"].any fun e => PyData.eqv e (.str w)))) else none).map fun x => (Res.ok x, μ)) = _
  rw [if_pos d, e]
  rfl
theorem due_b2 {ps : List Pipe} {rows : Rows} {o : Ord} {who : Nat} {s1 s3 : Option MV} (h : o.1 = "set" ∨ ((o.1 = "put" ∨ o.1 = "take" ∨ o.1 = "add") ∧ 0 ≤ o.2)) :
    (GoodO ps who o ∧ m_l_due_b2 (DS ps rows s1 (some (.sh (.int (who : Int)))) s3 (some (encO o))) = S.ret (.nx (DS ps rows s1 (some (.sh (.int (who : Int)))) s3 (some (encO o))))) ∨
    (¬ GoodO ps who o ∧ m_l_due_b2 (DS ps rows s1 (some (.sh (.int (who : Int)))) s3 (some (encO o))) = S.ret (.rt (.sh (.str "order")))) := by
  generalize hδ : DS ps rows s1 (some (.sh (.int (who : Int)))) s3 (some (encO o)) = δ
  have w0 : mOp2 mIx (mVar 4) (mC (.int 0)) δ = M.ret (.sh (.str o.1)) := by rw [← hδ]; exact ixT0 rfl
  have w1 : mOp2 mIx (mVar 4) (mC (.int 1)) δ = M.ret (.sh (.int o.2)) := by rw [← hδ]; exact ixT1 rfl
  have h2 : mVar 2 δ = M.ret (.sh (.int (who : Int))) := by rw [← hδ]; rfl
  have e0 : mOp2 mIx (mVar 0) (mC (.int 0)) δ = M.ret (.sh (Datum.toD ps)) := by rw [← hδ]; exact ds0
  have l0 : mCB mLen (mCons (mOp2 mIx (mVar 0) (mC (.int 0))) mNil) δ = M.ret (.sh (.int (ps.length : Int))) := by rw [← hδ]; exact dlen0
  have tw : ∀ z : Str, mTest (mOp2 (mEq false) (mOp2 mIx (mVar 4) (mC (.int 0))) (mC (.str z))) δ = M.ret (decide (o.1 = z)) := fun z => testF (eqSF w0 rfl)
  have tn : mTest (mOp2 (mEq true) (mOp2 mIx (mVar 4) (mC (.int 0))) (mC (.str "set"))) δ = M.ret (!decide (o.1 = "set")) := testF (eqSF w0 rfl)
  have ti : mTest (mOp2 (mIn false) (mOp2 mIx (mVar 4) (mC (.int 0))) (mTup (mCons (mC (.str "take")) (mCons (mC (.str "add")) mNil)))) δ = M.ret (decide (o.1 = "take" ∨ o.1 = "add")) := testF (by
    rw [mOp2_ev, w0, ret_bind, show mTup (mCons (mC (.str "take")) (mCons (mC (.str "add")) mNil)) δ = M.ret (.sh (.tuple [.str "take", .str "add"])) by walk_at "ev", ret_bind, in_two])
  have t1 := andF tn (geF w1 l0)
  have andNo : ∀ {a b : Sl → M Bool}, a δ = M.ret false → mAnd a b δ = M.ret false := fun {a b} ha => by
    rw [mAnd_ev, ha]
    rfl
  unfold m_l_due_b2
  rcases h with hset | ⟨hw, h0⟩
  · have n1 : ¬ o.1 = "put" := by rw [hset]; decide +kernel
    have n2 : ¬ (o.1 = "take" ∨ o.1 = "add") := by rw [hset]; decide +kernel
    refine .inl ⟨.inl hset, ?_⟩
    rw [seqF_nx (δ' := δ) (by rw [ifF t1, decide_eq_true hset]; rfl), seqF_nx (δ' := δ) (by rw [ifF (andNo (by rw [tw, decide_eq_false n1]))]; rfl), ifF (andNo (by rw [ti, decide_eq_false n2]))]
    rfl
  · have hset : ¬ o.1 = "set" := by rcases hw with z | z | z <;> rw [z] <;> decide +kernel
    by_cases hb : o.2 < ps.length
    · obtain ⟨k, hk⟩ : ∃ k : Nat, o.2 = k := ⟨_, (Int.toNat_of_nonneg h0).symm⟩
      have hk2 : k < ps.length := by omega
      obtain ⟨p, hp⟩ : ∃ p, ps[k]? = some p := ⟨_, List.getElem?_eq_getElem hk2⟩
      have pix : mOp2 mIx (mOp2 mIx (mVar 0) (mC (.int 0))) (mOp2 mIx (mVar 4) (mC (.int 1))) δ = M.ret (.sh (Datum.toD p)) := by
        rw [mOp2_ev, e0, ret_bind, w1, ret_bind, hk, show Datum.toD ps = PyData.list (ps.map Datum.toD) from rfl, mIx_l, L2.atI_nat (v := Datum.toD p) (by rw [List.getElem?_map, hp]; rfl)]
        rfl
      have hg := goodO_iff (who := who) hset hw hk hp
      rw [seqF_nx (δ' := δ) (by rw [ifF t1, decide_eq_false (show ¬ (ps.length : Int) ≤ o.2 by omega), Bool.and_false]; rfl)]
      by_cases hput : o.1 = "put"
      · have n2 : ¬ (o.1 = "take" ∨ o.1 = "add") := by rw [hput]; decide +kernel
        rw [if_pos hput] at hg
        have t2 : mAnd (mTest (mOp2 (mEq false) (mOp2 mIx (mVar 4) (mC (.int 0))) (mC (.str "put")))) (mTest (mOp2 (mEq true) (mOp2 mIx (mOp2 mIx (mOp2 mIx (mVar 0) (mC (.int 0))) (mOp2 mIx (mVar 4) (mC (.int 1)))) (mC (.int 0))) (mVar 2))) δ = M.ret (!decide (p.a = (who : Int))) := by
          rw [andF (tw "put") (testF (eqIF (ixT0 (a := .int p.a) pix) h2)), decide_eq_true hput, Bool.true_and]
          rfl
        by_cases hwho : (who : Int) = p.a
        · refine .inl ⟨hg.mpr hwho, ?_⟩
          rw [seqF_nx (δ' := δ) (by rw [ifF t2, decide_eq_true hwho.symm]; rfl), ifF (andNo (by rw [ti, decide_eq_false n2]))]
          rfl
        · refine .inr ⟨fun z => hwho (hg.mp z), ?_⟩
          rw [seqF_rt (x := .sh (.str "order")) (by rw [ifF t2, decide_eq_false (fun z => hwho z.symm)]; rfl)]
      · have hta : o.1 = "take" ∨ o.1 = "add" := hw.resolve_left hput
        rw [if_neg hput] at hg
        have t3 : mAnd (mTest (mOp2 (mIn false) (mOp2 mIx (mVar 4) (mC (.int 0))) (mTup (mCons (mC (.str "take")) (mCons (mC (.str "add")) mNil))))) (mTest (mOp2 (mEq true) (mOp2 mIx (mOp2 mIx (mOp2 mIx (mVar 0) (mC (.int 0))) (mOp2 mIx (mVar 4) (mC (.int 1)))) (mC (.int 1))) (mVar 2))) δ = M.ret (!decide (p.b = (who : Int))) := by
          rw [andF ti (testF (eqIF (ixT1 (b := .int p.b) pix) h2)), decide_eq_true hta, Bool.true_and]
          rfl
        rw [seqF_nx (δ' := δ) (by rw [ifF (andNo (by rw [tw, decide_eq_false hput]))]; rfl)]
        by_cases hwho : (who : Int) = p.b
        · refine .inl ⟨hg.mpr hwho, ?_⟩
          rw [ifF t3, decide_eq_true hwho.symm]
          rfl
        · refine .inr ⟨fun z => hwho (hg.mp z), ?_⟩
          rw [ifF t3, decide_eq_false (fun z => hwho z.symm)]
          rfl
    · refine .inr ⟨?_, ?_⟩
      · rintro (z | ⟨_, k, p, h1, h2, _⟩)
        · exact hset z
        · have := (List.getElem?_eq_some_iff.mp h2).1
          omega
      · rw [seqF_rt (x := .sh (.str "order")) (by rw [ifF t1, decide_eq_false hset, decide_eq_true (show (ps.length : Int) ≤ o.2 by omega)]; rfl)]
theorem due_ok {ps : List Pipe} {rows : Rows} (hN : NonNeg ps rows) : (¬ AllP ps rows ∧ l_due [.sh (Datum.toD ((ps, rows) : Net))] = some (.ok (.str "pipe"))) ∨
    (AllP ps rows ∧ ¬ AllO ps rows ∧ l_due [.sh (Datum.toD ((ps, rows) : Net))] = some (.ok (.str "order"))) ∨ (AllP ps rows ∧ AllO ps rows ∧ l_due [.sh (Datum.toD ((ps, rows) : Net))] = some (.ok (.str ""))) := by
  have base : startM 5 [.sh (Datum.toD ((ps, rows) : Net))] = DS ps rows none none none none := rfl
  have pre0 : mIfS (mTest (mOp2 (mIs false) (mVar 0) (mC .none))) (mRet (mC (.str "note"))) mNext (DS ps rows none none none none) [] = some (.nx (DS ps rows none none none none), []) := by
    rw [ifF (k := false) (testF (by
      rw [mOp2_ev]
      show mIs false (.sh (Datum.toD ((ps, rows) : Net))) (.sh .none) = _
      rw [mIs_d]
      rfl))]
    rfl
  have l1 := forL_search (g := gNameM 1) (body := m_l_due_b1) (ws := [1]) (xs := ps.map fun p => .sh (Datum.toD p)) (δ := DS ps rows none none none none) (μ := [])
    (fun i _ => ∃ p, ps[i]? = some p ∧ ¬ GoodP rows.length p) (fun o => o = .rt (.sh (.str "pipe"))) (fun o h => .inl ⟨_, h⟩) (fun i x hx => by
      rw [List.getElem?_map] at hx
      cases hp : ps[i]? with
      | none => rw [hp] at hx; cases hx
      | some p =>
        rw [hp] at hx
        cases hx
        have hb := due_b1 (ps := ps) (rows := rows) (p := p) (s2 := none) (s3 := none) (s4 := none) (hN.p p (List.mem_of_getElem? hp))
        refine ⟨DS ps rows (some (.sh (Datum.toD p))) none none none, rfl, ?_⟩
        by_cases hg : GoodP rows.length p
        · refine .inr ⟨fun ⟨q, e, n⟩ => by cases e; exact n hg, _, .inl (by rw [hb, if_pos hg]; rfl), rfl⟩
        · exact .inl ⟨⟨p, rfl, hg⟩, _, by rw [hb, if_neg hg]; rfl, rfl⟩)
  rcases l1 with ⟨o, e1, rfl, i, x, hx, p, hp, hn⟩ | ⟨e1, all1⟩
  · refine .inl ⟨fun z => hn (z p (List.mem_of_getElem? hp)), ?_⟩
    refine bodyP_rt_at (x := .sh (.str "pipe")) (μ := []) ?_ rfl
    unfold m_l_due
    rw [base, seq_nx pre0, seq_rt (by rw [for_st (at_ret (src_list ds0))]; exact e1)]
  · have hAP : AllP ps rows := fun p hp => by
      obtain ⟨i, hi⟩ := List.getElem?_of_mem hp
      exact Classical.byContradiction fun n => all1 i _ (by rw [List.getElem?_map, hi]; rfl) ⟨p, hi, n⟩
    have inner : ∀ (who : Nat) (r : List Ord), r ∈ rows → (∃ o, m_l_due_b3 (DS ps rows none (some (.sh (.int who))) (some (.sh (Datum.toD r))) none) [] = some (o, []) ∧ o = .rt (.sh (.str "order")) ∧ ∃ q ∈ r, ¬ GoodO ps who q) ∨
        (m_l_due_b3 (DS ps rows none (some (.sh (.int who))) (some (.sh (Datum.toD r))) none) [] = some (.nx (DS ps rows none (some (.sh (.int who))) (some (.sh (Datum.toD r))) none), []) ∧ ∀ q ∈ r, GoodO ps who q) := fun who r hr => by
      have l2 := forL_search (g := gNameM 4) (body := m_l_due_b2) (ws := [4]) (xs := r.map fun q => .sh (Datum.toD q)) (δ := DS ps rows none (some (.sh (.int who))) (some (.sh (Datum.toD r))) none) (μ := [])
        (fun i _ => ∃ q, r[i]? = some q ∧ ¬ GoodO ps who q) (fun o => o = .rt (.sh (.str "order"))) (fun o h => .inl ⟨_, h⟩) (fun i x hx => by
          rw [List.getElem?_map] at hx
          cases hq : r[i]? with
          | none => rw [hq] at hx; cases hx
          | some q =>
            rw [hq] at hx
            cases hx
            refine ⟨DS ps rows none (some (.sh (.int who))) (some (.sh (Datum.toD r))) (some (encO q)), rfl, ?_⟩
            rcases due_b2 (ps := ps) (rows := rows) (o := q) (who := who) (s1 := none) (s3 := some (.sh (Datum.toD r))) (hN.o r hr q (List.mem_of_getElem? hq)) with ⟨g, e⟩ | ⟨g, e⟩
            · exact .inr ⟨fun ⟨q', e', n⟩ => by cases e'; exact n g, _, .inl (by rw [e]; rfl), rfl⟩
            · exact .inl ⟨⟨q, rfl, g⟩, _, by rw [e]; rfl, rfl⟩)
      unfold m_l_due_b3
      rw [for_st (at_ret (src_list (xs := r) (show mVar 3 _ = M.ret (.sh (Datum.toD r)) from rfl)))]
      rcases l2 with ⟨o, e, t, i, x, _, q, hq, n⟩ | ⟨e, all⟩
      · exact .inl ⟨o, e, t, q, List.mem_of_getElem? hq, n⟩
      · refine .inr ⟨e, fun q hq => ?_⟩
        obtain ⟨i, hi⟩ := List.getElem?_of_mem hq
        exact Classical.byContradiction fun n => all i _ (by rw [List.getElem?_map, hi]; rfl) ⟨q, hi, n⟩
    have l3 := forL_search (g := gTupM 2 (gConsM (gNameM 2) (gConsM (gNameM 3) gNilM))) (body := m_l_due_b3) (ws := [2, 3, 4]) (xs := enumI 0 ((rows.map Datum.toD).map .sh)) (δ := DS ps rows none none none none) (μ := [])
      (fun i _ => ∃ r, rows[i]? = some r ∧ ∃ q ∈ r, ¬ GoodO ps i q) (fun o => o = .rt (.sh (.str "order"))) (fun o h => .inl ⟨_, h⟩) (fun i x hx => by
        obtain ⟨r, hr, rfl⟩ := enum_at hx
        refine ⟨DS ps rows none (some (.sh (.int i))) (some (.sh (Datum.toD r))) none, rfl, ?_⟩
        rcases inner i r (List.mem_of_getElem? hr) with ⟨o, e, t, q, hq, n⟩ | ⟨e, all⟩
        · exact .inl ⟨⟨r, hr, q, hq, n⟩, o, e, t⟩
        · exact .inr ⟨fun ⟨r', e', q, hq, n⟩ => by rw [hr] at e'; cases e'; exact n (all q hq), _, .inl e, rfl⟩)
    have pre1 : mFor (mSeqS (mOp2 mIx (mVar 0) (mC (.int 0)))) (gNameM 1) m_l_due_b1 [1] (DS ps rows none none none none) [] = some (.nx (DS ps rows none none none none), []) := by
      rw [for_st (at_ret (src_list ds0))]
      exact e1
    have pre2 : mFor (mEnum (mCons (mOp2 mIx (mVar 0) (mC (.int 1))) mNil)) (gTupM 2 (gConsM (gNameM 2) (gConsM (gNameM 3) gNilM))) m_l_due_b3 [2, 3, 4] (DS ps rows none none none none) [] = forL (gTupM 2 (gConsM (gNameM 2) (gConsM (gNameM 3) gNilM))) m_l_due_b3 [2, 3, 4] (enumI 0 ((rows.map Datum.toD).map .sh)) (DS ps rows none none none none) [] := by
      rw [for_st (at_ret (enum_src ds1))]
      rfl
    rcases l3 with ⟨o, e, rfl, i, x, hx, r, hr, q, hq, n⟩ | ⟨e, all⟩
    · refine .inr (.inl ⟨hAP, fun z => n (z i r hr q hq), ?_⟩)
      refine bodyP_rt_at (x := .sh (.str "order")) (μ := []) ?_ rfl
      unfold m_l_due
      rw [base, seq_nx pre0, seq_nx pre1, seq_rt (pre2.trans e)]
    · refine .inr (.inr ⟨hAP, fun who r hr q hq => Classical.byContradiction fun n => all who _ (enum_of hr) ⟨r, hr, q, hq, n⟩, ?_⟩)
      refine bodyP_rt_at (x := .sh (.str "")) (μ := []) ?_ rfl
      unfold m_l_due
      rw [base, seq_nx pre0, seq_nx pre1, seq_nx (pre2.trans e)]
      exact ret_at (at_ret mC_ev)
theorem due_none : l_due [.sh .none] = some (.ok (.str "note")) := by
  refine bodyP_rt ?_
  unfold m_l_due
  rw [seqF_rt (x := .sh (.str "note"))]
  rw [ifF (k := true) (testF (by
    rw [mOp2_ev]
    show mIs false (.sh .none) (.sh .none) = _
    rw [mIs_d]
    rfl))]
  rfl
end LW

set_option Elab.async false
set_option linter.all false
set_option maxRecDepth 100000
set_option maxHeartbeats 2000000
set_option exponentiation.threshold 300
namespace LW
open PySem PySem.W PD NumText
local macro_rules | `(tactic| walk_at "ev") => `(tactic| simp (disch := first | assumption | decide | omega) only [ret_bind, opt_some, look_some, mVar_0, mVar_s, mC_ev, mOp2_ev, mOp1_ev, mNil_ev, mCons_ev, mCB_ev, mTest_ev, isB_ev, mAnd_ev, mOr_ev, mNot_ev, mAndV_ev, mOrV_ev, mNotV_ev, mIf_ev, mChain_ev, mTru_ev, truM_b, mTup_ev, mLst_ev,
  mkL_nil, mkL_1, mkL_2, mkL_3, mkL_4, mkT_2, mkT_3, mkT_4, mI2_ev, mI1_ev, fMod_ev, fDiv_ev, fPow_ev, mAdd_i, mMul_i, mEq_int, mEq_str, mEq_bool, mIx_l, mIx_t, mIx_s, mLen_l, mLen_t, mLen_s, mI2L_ev, mIsi_ev, isiM, kindM, isiT, liftR_ok, mCallP_ev,
  mSeq_ev, sbind_nx, sbind_rt, sbind_ct, sbind_bk, sbind_ex, withV_ret, asg_some, mAsg_name, mNext_ev, mCont_ev, mBreak_ev, mRetN_ev, mRaise_ev, mRet_ev, mDrop_ev, mIfS_ev, atI_0, atI_1, atI_2, atI_3,
  start_ev, List.map_cons, List.map_nil, List.length_cons, List.length_nil, Nat.reduceAdd, Nat.reduceSub, Nat.zero_add, List.replicate_succ, List.replicate_zero, List.cons_append, List.nil_append, List.append_nil, List.set_cons_zero, List.set_cons_succ, Nat.reduceLeDiff, if_true, if_false, Bool.false_eq_true, Bool.true_eq_false, Bool.not_true, Bool.not_false, decide_eq_true_eq, decide_true, decide_false, Bool.and_true, Bool.true_and, Bool.and_false, Bool.false_and, Bool.or_true, Bool.or_false, Bool.true_or, Bool.false_or, List.all_cons, List.all_nil, cf, and_self, and_true, true_and, Nat.le_refl, Option.map_some, reduceCtorEq])
/-! ### the law's lines: short ones, without line ends -/
theorem rangeI_mem {x : MV} {lo : Int} {n : Nat} (h : x ∈ rangeI lo n) : ∃ k : Nat, k < n ∧ x = .sh (.int (lo + k)) := by
  unfold rangeI at h
  obtain ⟨k, hk, rfl⟩ := List.mem_map.mp h
  exact ⟨k, List.mem_range.mp hk, rfl⟩
theorem rangeC_mem {x : MV} {lo c : Int} {n : Nat} (h : x ∈ rangeC lo c n) : ∃ k : Nat, k < n ∧ x = .sh (.int (lo + k * c)) := by
  unfold rangeC at h
  obtain ⟨k, hk, rfl⟩ := List.mem_map.mp h
  exact ⟨k, List.mem_range.mp hk, rfl⟩
theorem rangeI_len {lo : Int} {n : Nat} : (rangeI lo n).length = n := by unfold rangeI; simp
theorem rangeC_len {lo c : Int} {n : Nat} : (rangeC lo c n).length = n := by unfold rangeC; simp
theorem rangeN_lt {i j c : Int} (hc : 0 < c) {k : Nat} (h : k < rangeN i j c) : i + k * c < j := by
  unfold rangeN at h
  split at h
  · rename_i hij
    have h0 : 0 ≤ (j - i - 1) / c := Int.ediv_nonneg (by omega) (by omega)
    have h1 : (k : Int) ≤ (j - i - 1) / c := by omega
    have h2 : (k : Int) * c ≤ (j - i - 1) / c * c := Int.mul_le_mul_of_nonneg_right h1 (by omega)
    have h3 : (j - i - 1) / c * c ≤ j - i - 1 := Int.ediv_mul_le _ (by omega)
    omega
  · omega
theorem rangeN_le {i j c : Int} (hc : 0 < c) (hi : 0 ≤ i) (hj : 0 ≤ j) : (rangeN i j c : Int) ≤ j := by
  unfold rangeN
  split
  · have h1 : (j - i - 1) / c ≤ j - i - 1 := Int.ediv_le_self _ (by omega)
    have h0 : 0 ≤ (j - i - 1) / c := Int.ediv_nonneg (by omega) (by omega)
    omega
  · omega
theorem modF {a b : Sl → M MV} {δ : Sl} {x y : Int} (ha : a δ = M.ret (.sh (.int x))) (hb : b δ = M.ret (.sh (.int y))) (h : 0 < y) : mOp2 fMod a b δ = M.ret (.sh (.int (x % y))) := by
  rw [mOp2_ev, ha, ret_bind, hb, ret_bind, fMod_ev h]
theorem divF {a b : Sl → M MV} {δ : Sl} {x y : Int} (ha : a δ = M.ret (.sh (.int x))) (hb : b δ = M.ret (.sh (.int y))) (h : 0 < y) (h2 : y < 1073741824) : mOp2 fDiv a b δ = M.ret (.sh (.int (x / y))) := by
  rw [mOp2_ev, ha, ret_bind, hb, ret_bind, fDiv_ev h h2]
theorem addIF {a b : Sl → M MV} {δ : Sl} {x y : Int} (ha : a δ = M.ret (.sh (.int x))) (hb : b δ = M.ret (.sh (.int y))) : mOp2 (mAdd false) a b δ = M.ret (.sh (.int (x + y))) := by
  rw [mOp2_ev, ha, ret_bind, hb, ret_bind, mAdd_i]
theorem cellF {ns : List Int} {δ : Sl} {a b : Sl → M MV} {k : Nat} {c : Int} (ha : a δ = M.ret (.scr ns)) (hb : b δ = M.ret (.sh (.int (k : Int)))) (hc : l_cell_at [.scr ns, .sh (.int (k : Int))] = some (.ok (.int c))) : mCallP 2 l_cell_at (mCons a (mCons b mNil)) δ = M.ret (.sh (.int c)) :=
  callF (k := 2) (xs := [.scr ns, .sh (.int (k : Int))]) (by rw [mCons_ev, ha, mCons_ev, hb]; rfl) ⟨rfl, rfl⟩ hc
def LineOk (l : Str) : Prop := 10 ∉ l.cps.toList ∧ l.length ≤ 200
theorem small60 {i : Int} (h0 : 0 ≤ i) (h1 : i ≤ 100000) : i.natAbs < 10 ^ 60 := by
  have : (100001 : Nat) ≤ 10 ^ 60 := by decide
  omega
theorem app_free {a b : Str} (ha : 10 ∉ a.cps.toList) (hb : 10 ∉ b.cps.toList) : 10 ∉ (a ++ b).cps.toList := by
  rw [app_list, List.mem_append, not_or]
  exact ⟨ha, hb⟩
def HS (ns : List Int) (many am : Nat) (s4 s5 s6 s7 s8 s9 : Option MV) : Sl := [some (.scr ns), some (.sh (.int (many : Int))), some (.sh (.int (am : Int))), some (.cell 0), s4, s5, s6, s7, s8, s9]
theorem lines_b1 {ns : List Int} (hb : Bits ns) {many am : Nat} (hm1 : 1 ≤ many) (hm2 : many ≤ 3) {k : Nat} {s5 : Option MV} {ls : List Str} (hl : ls.length < 1000) :
    ∃ l s5' s6', LineOk l ∧ m_l_lines_by_b1 (HS ns many am (some (.sh (.int (0 + (k : Int))))) s5 none none none none) [ls.map strM] = some (.nx (HS ns many am (some (.sh (.int (0 + (k : Int))))) s5' s6' none none none), [(ls ++ [l]).map strM]) := by
  obtain ⟨c, bc, ec⟩ := cell_at_ok hb (2 + k)
  have hm : (0 : Int) < (many : Int) := by omega
  unfold m_l_lines_by_b1
  rw [seq_nx (asg_at (x := .sh (.int c)) (at_ret (cellF (k := 2 + k) (ns := ns) rfl (by
    rw [show ((2 + k : Nat) : Int) = 2 + (0 + (k : Int)) by omega]
    rfl) ec)))]
  show ∃ l s5' s6', LineOk l ∧ mSeq _ _ (HS ns many am (some (.sh (.int (0 + (k : Int))))) (some (.sh (.int c))) none none none none) _ = _
  have x0 := Int.emod_nonneg c (show (many : Int) ≠ 0 by omega)
  have x1 := Int.emod_lt_of_pos c hm
  have y0 := Int.emod_nonneg (c / 3) (show (many : Int) ≠ 0 by omega)
  have y1 := Int.emod_lt_of_pos (c / 3) hm
  have nx := small60 x0 (by omega)
  have ny := small60 y0 (by omega)
  have nz := small60 (i := 1 + c / 9 % 1000) (by omega) (by omega)
  have lx := (int_num nx).2
  have ly := (int_num ny).2
  have lz := (int_num nz).2
  have z1 : (Str.ofString " ").length = 1 := by decide
  have z2 : (Str.ofString "pipe ").length = 5 := by decide
  have e6 : mOp2 (mAdd false) (mOp2 (mAdd false) (mCB mStrInt (mCons (mOp2 fMod (mVar 5) (mVar 1)) mNil)) (mC (.str " "))) (mCB mStrInt (mCons (mOp2 fMod (mOp2 fDiv (mVar 5) (mC (.int 3))) (mVar 1)) mNil)) (HS ns many am (some (.sh (.int (0 + (k : Int))))) (some (.sh (.int c))) none none none none) = M.ret (strM ((numT (c % many) ++ " ") ++ numT (c / 3 % many))) :=
    addSF (addSF (x := numT (c % many)) (y := " ") (strIF (modF rfl rfl hm) nx) rfl (by rw [sizeLine_eq]; omega)) (strIF (modF (divF rfl rfl (by decide) (by decide)) rfl hm) ny) (by rw [len_app, sizeLine_eq]; omega)
  rw [seq_nx (asg_at (at_ret e6))]
  show ∃ l s5' s6', LineOk l ∧ mDrop _ (HS ns many am (some (.sh (.int (0 + (k : Int))))) (some (.sh (.int c))) (some (strM ((numT (c % many) ++ " ") ++ numT (c / 3 % many)))) none none none) _ = _
  have el : mOp2 (mAdd false) (mOp2 (mAdd false) (mOp2 (mAdd false) (mC (.str "pipe ")) (mVar 6)) (mC (.str " "))) (mCB mStrInt (mCons (mOp2 (mAdd false) (mC (.int 1)) (mOp2 fMod (mOp2 fDiv (mVar 5) (mC (.int 9))) (mC (.int 1000)))) mNil))
      (HS ns many am (some (.sh (.int (0 + (k : Int))))) (some (.sh (.int c))) (some (strM ((numT (c % many) ++ " ") ++ numT (c / 3 % many)))) none none none) = M.ret (strM ((("pipe " ++ ((numT (c % many) ++ " ") ++ numT (c / 3 % many))) ++ " ") ++ numT (1 + c / 9 % 1000))) :=
    addSF (addSF (y := " ") (addSF (x := "pipe ") rfl rfl (by simp only [len_app, sizeLine_eq]; omega)) rfl (by simp only [len_app, sizeLine_eq]; omega)) (strIF (addIF rfl (modF (divF rfl rfl (by decide) (by decide)) rfl (by decide))) nz) (by simp only [len_app, sizeLine_eq]; omega)
  refine ⟨((("pipe " ++ ((numT (c % many) ++ " ") ++ numT (c / 3 % many))) ++ " ") ++ numT (1 + c / 9 % 1000)), some (.sh (.int c)), some (strM ((numT (c % many) ++ " ") ++ numT (c / 3 % many))), ⟨?_, ?_⟩, ?_⟩
  · exact app_free (app_free (app_free (by decide +kernel) (app_free (app_free (num_free (.inr rfl)) (by decide +kernel)) (num_free (.inr rfl)))) (by decide +kernel)) (num_free (.inr rfl))
  · simp only [len_app]
    omega
  · rw [app_cell (n := 0) (xs := ls.map strM) rfl (at_ret el) rfl (by rw [List.length_map]; omega), List.map_append]
    rfl
theorem four_words {i : Int} (h0 : 0 ≤ i) (h4 : i < 4) {δ : Sl} {b : Sl → M MV} (hb : b δ = M.ret (.sh (.int i))) : ∃ w : Str, (w = "set" ∨ w = "put" ∨ w = "take" ∨ w = "add") ∧ mOp2 mIx (mLst false (mCons (mC (.str "set")) (mCons (mC (.str "put")) (mCons (mC (.str "take")) (mCons (mC (.str "add")) mNil))))) b δ = M.ret (.sh (.str w)) := by
  have hl : mLst false (mCons (mC (.str "set")) (mCons (mC (.str "put")) (mCons (mC (.str "take")) (mCons (mC (.str "add")) mNil)))) δ = M.ret (.sh (.list [.str "set", .str "put", .str "take", .str "add"])) := by walk_at "ev"
  have h : i = 0 ∨ i = 1 ∨ i = 2 ∨ i = 3 := by omega
  rcases h with rfl | rfl | rfl | rfl
  · exact ⟨"set", .inl rfl, by rw [mOp2_ev, hl, ret_bind, hb, ret_bind, mIx_l]; rfl⟩
  · exact ⟨"put", .inr (.inl rfl), by rw [mOp2_ev, hl, ret_bind, hb, ret_bind, mIx_l]; rfl⟩
  · exact ⟨"take", .inr (.inr (.inl rfl)), by rw [mOp2_ev, hl, ret_bind, hb, ret_bind, mIx_l]; rfl⟩
  · exact ⟨"add", .inr (.inr (.inr rfl)), by rw [mOp2_ev, hl, ret_bind, hb, ret_bind, mIx_l]; rfl⟩
theorem words_free {w : Str} (h : w = "set" ∨ w = "put" ∨ w = "take" ∨ w = "add") : 10 ∉ w.cps.toList ∧ w.length ≤ 4 := by
  rcases h with z | z | z | z <;> rw [z] <;> exact ⟨by decide +kernel, by decide +kernel⟩
theorem lines_b2 {ns : List Int} {many am : Nat} {i : Int} (h0 : 0 ≤ i) (h1 : i < ns.length) {s4 s5 : Option MV} {ls : List Str} (hl : ls.length < 1000) :
    ∃ l s5' s8 s9, LineOk l ∧ m_l_lines_by_b2 (HS ns many am s4 s5 none (some (.sh (.int i))) none none) [ls.map strM] = some (.nx (HS ns many am s4 s5' none (some (.sh (.int i))) s8 s9), [(ls ++ [l]).map strM]) := by
  obtain ⟨c, hc⟩ : ∃ c, c = ns[i.toNat]'(by omega) := ⟨_, rfl⟩
  unfold m_l_lines_by_b2
  rw [seq_nx (asg_at (x := .sh (.int c)) (at_ret (by
    rw [mOp2_ev]
    show mIx (.scr ns) (.sh (.int i)) = _
    rw [mIx_s, atI_lt h0 h1, hc]
    rfl)))]
  show ∃ l s5' s8 s9, LineOk l ∧ mSeq _ _ (HS ns many am s4 (some (.sh (.int c))) none (some (.sh (.int i))) none none) _ = _
  obtain ⟨w, hw, ew⟩ := four_words (i := c % 4) (by omega) (by omega) (δ := HS ns many am s4 (some (.sh (.int c))) none (some (.sh (.int i))) none none) (b := mOp2 fMod (mVar 5) (mC (.int 4))) (modF rfl rfl (by decide))
  rw [seq_nx (asg_at (at_ret ew))]
  show ∃ l s5' s8 s9, LineOk l ∧ mSeq _ _ (HS ns many am s4 (some (.sh (.int c))) none (some (.sh (.int i))) (some (.sh (.str w))) none) _ = _
  obtain ⟨n, hn, en⟩ : ∃ n : Int, n.natAbs < 10 ^ 60 ∧ mIf (mTest (mOp2 (mEq false) (mOp2 fMod (mVar 5) (mC (.int 4))) (mC (.int 0)))) (mOp2 fMod (mOp2 fDiv (mVar 5) (mC (.int 4))) (mOp2 fPow (mC (.int 10)) (mC (.int 20)))) (mOp2 fMod (mOp2 fDiv (mVar 5) (mC (.int 4))) (mC (.int 5)))
      (HS ns many am s4 (some (.sh (.int c))) none (some (.sh (.int i))) (some (.sh (.str w))) none) = M.ret (.sh (.int n)) := by
    rw [mIf_ev, testF (eqIF (modF (x := c) (y := 4) rfl rfl (by decide)) rfl), ret_bind]
    show ∃ n : Int, _ ∧ (if decide (c % 4 = 0) = true then _ else _) = _
    by_cases h : c % 4 = 0
    · rw [decide_eq_true h, if_pos rfl]
      have a0 := Int.emod_nonneg (c / 4) (show (10 ^ 20 : Int) ≠ 0 by decide)
      have a1 := Int.emod_lt_of_pos (c / 4) (show (0 : Int) < 10 ^ 20 by decide)
      have a2 : (10 : Nat) ^ 20 ≤ 10 ^ 60 := by decide
      refine ⟨c / 4 % 10 ^ 20, by omega, modF (y := 10 ^ 20) (divF rfl rfl (by decide) (by decide)) ?_ (by decide)⟩
      rw [mOp2_ev, mC_ev, ret_bind, mC_ev, ret_bind, fPow_ev (by decide) (by decide) (by decide)]
      rfl
    · rw [decide_eq_false h, if_neg Bool.false_ne_true]
      exact ⟨c / 4 % 5, small60 (by omega) (by omega), modF (divF rfl rfl (by decide) (by decide)) rfl (by decide)⟩
  rw [seq_nx (asg_at (at_ret en))]
  show ∃ l s5' s8 s9, LineOk l ∧ mDrop _ (HS ns many am s4 (some (.sh (.int c))) none (some (.sh (.int i))) (some (.sh (.str w))) (some (.sh (.int n)))) _ = _
  have ln := (int_num hn).2
  obtain ⟨fw, lw⟩ := words_free hw
  have z1 : (Str.ofString " ").length = 1 := by decide
  refine ⟨(w ++ " ") ++ numT n, some (.sh (.int c)), some (.sh (.str w)), some (.sh (.int n)), ⟨app_free (app_free fw (by decide +kernel)) (num_free (.inr rfl)), by simp only [len_app]; omega⟩, ?_⟩
  rw [app_cell (n := 0) (xs := ls.map strM) rfl (at_ret (addSF (addSF (x := w) (y := " ") rfl rfl (by rw [sizeLine_eq]; omega)) (strIF (n := n) rfl hn) (by rw [len_app, sizeLine_eq]; omega))) rfl (by rw [List.length_map]; omega), List.map_append]
  rfl
end LW

set_option Elab.async false
set_option linter.all false
set_option maxRecDepth 100000
set_option maxHeartbeats 2000000
set_option exponentiation.threshold 300
namespace LW
open PySem PySem.W PD NumText
local macro_rules | `(tactic| walk_at "ev") => `(tactic| simp (disch := first | assumption | decide | omega) only [ret_bind, opt_some, look_some, mVar_0, mVar_s, mC_ev, mOp2_ev, mOp1_ev, mNil_ev, mCons_ev, mCB_ev, mTest_ev, isB_ev, mAnd_ev, mOr_ev, mNot_ev, mAndV_ev, mOrV_ev, mNotV_ev, mIf_ev, mChain_ev, mTru_ev, truM_b, mTup_ev, mLst_ev,
  mkL_nil, mkL_1, mkL_2, mkL_3, mkL_4, mkT_2, mkT_3, mkT_4, mI2_ev, mI1_ev, fMod_ev, fDiv_ev, fPow_ev, mAdd_i, mMul_i, mEq_int, mEq_str, mEq_bool, mIx_l, mIx_t, mIx_s, mLen_l, mLen_t, mLen_s, mI2L_ev, mIsi_ev, isiM, kindM, isiT, liftR_ok, mCallP_ev,
  mSeq_ev, sbind_nx, sbind_rt, sbind_ct, sbind_bk, sbind_ex, withV_ret, asg_some, mAsg_name, mNext_ev, mCont_ev, mBreak_ev, mRetN_ev, mRaise_ev, mRet_ev, mDrop_ev, mIfS_ev, atI_0, atI_1, atI_2, atI_3,
  start_ev, List.map_cons, List.map_nil, List.length_cons, List.length_nil, Nat.reduceAdd, Nat.reduceSub, Nat.zero_add, List.replicate_succ, List.replicate_zero, List.cons_append, List.nil_append, List.append_nil, List.set_cons_zero, List.set_cons_succ, Nat.reduceLeDiff, if_true, if_false, Bool.false_eq_true, Bool.true_eq_false, Bool.not_true, Bool.not_false, decide_eq_true_eq, decide_true, decide_false, Bool.and_true, Bool.true_and, Bool.and_false, Bool.false_and, Bool.or_true, Bool.or_false, Bool.true_or, Bool.false_or, List.all_cons, List.all_nil, cf, and_self, and_true, true_and, Nat.le_refl, Option.map_some, reduceCtorEq])
/-! ### how far it is to the next line end -/
def run (l : List Nat) : Nat := (l.takeWhile fun c => c != 10).length
def RunOk (n : Nat) : List Nat → Prop
  | [] => True
  | c :: r => run (c :: r) ≤ n ∧ RunOk n r
theorem run_nil : run [] = 0 := rfl
theorem run_end {r : List Nat} : run (10 :: r) = 0 := rfl
theorem run_cons {c : Nat} {r : List Nat} (h : c ≠ 10) : run (c :: r) = run r + 1 := by
  unfold run
  rw [List.takeWhile_cons, if_pos (by simpa using h), List.length_cons]
theorem run_le {c : Nat} {r : List Nat} : run (c :: r) ≤ run r + 1 := by
  by_cases h : c = 10
  · rw [h, run_end]
    omega
  · rw [run_cons h]
    exact Nat.le_refl _
theorem RunOk.head {n : Nat} : ∀ {l : List Nat}, RunOk n l → run l ≤ n
  | [], _ => Nat.zero_le _
  | _ :: _, h => h.1
theorem RunOk.mono {n m : Nat} (h : n ≤ m) : ∀ {l : List Nat}, RunOk n l → RunOk m l
  | [], _ => trivial
  | _ :: _, z => ⟨Nat.le_trans z.1 h, RunOk.mono h z.2⟩
theorem run_free : ∀ {X Y : List Nat}, 10 ∉ X → run (X ++ 10 :: Y) = X.length
  | [], Y, _ => run_end
  | x :: X, Y, h => by
    rw [List.cons_append, run_cons (fun z => h (by rw [z]; exact List.mem_cons_self)), run_free fun z => h (List.mem_cons_of_mem _ z), List.length_cons]
theorem run_all : ∀ {X : List Nat}, 10 ∉ X → run X = X.length
  | [], _ => rfl
  | x :: X, h => by
    rw [run_cons (fun z => h (by rw [z]; exact List.mem_cons_self)), run_all fun z => h (List.mem_cons_of_mem _ z), List.length_cons]
theorem ok_sep {n : Nat} : ∀ {X Y : List Nat}, 10 ∉ X → X.length ≤ n → RunOk n Y → RunOk n (X ++ 10 :: Y)
  | [], Y, _, _, h => ⟨by rw [run_end]; exact Nat.zero_le _, h⟩
  | x :: X, Y, hf, hl, h => ⟨by
    have : run (x :: X ++ 10 :: Y) ≤ n := by
      rw [run_free hf]
      exact hl
    exact this, ok_sep (fun z => hf (List.mem_cons_of_mem _ z)) (by rw [List.length_cons] at hl; omega) h⟩
theorem ok_all {n : Nat} : ∀ {X : List Nat}, 10 ∉ X → X.length ≤ n → RunOk n X
  | [], _, _ => trivial
  | x :: X, hf, hl => ⟨by rw [run_all hf]; exact hl, ok_all (fun z => hf (List.mem_cons_of_mem _ z)) (by rw [List.length_cons] at hl; omega)⟩
theorem ok_join {n : Nat} : ∀ P : List Str, (∀ p ∈ P, 10 ∉ p.cps.toList ∧ p.length ≤ n) → RunOk n (Str.join ⟨#[10]⟩ P).cps.toList
  | [], _ => trivial
  | [x], h => by
    obtain ⟨h1, h2⟩ := h x List.mem_cons_self
    rw [join_one']
    exact ok_all h1 (by rw [← len_toList]; exact h2)
  | x :: y :: r, h => by
    obtain ⟨h1, h2⟩ := h x List.mem_cons_self
    rw [join_two']
    exact ok_sep h1 (by rw [← len_toList]; exact h2) (ok_join (y :: r) fun p hp => h p (List.mem_cons_of_mem _ hp))
theorem run_ins {c : Nat} {B : List Nat} : ∀ A : List Nat, run (A ++ c :: B) ≤ run (A ++ B) + (run B + 1)
  | [] => by
    have := @run_le c B
    rw [List.nil_append, List.nil_append]
    omega
  | a :: A => by
    have ih := run_ins (c := c) (B := B) A
    rw [List.cons_append, List.cons_append]
    by_cases h : a = 10
    · rw [h, run_end]
      exact Nat.zero_le _
    · rw [run_cons h, run_cons h]
      omega
theorem ok_tail {n : Nat} : ∀ {A B : List Nat}, RunOk n (A ++ B) → RunOk n B
  | [], _, h => h
  | _ :: _, _, h => ok_tail h.2
theorem ok_ins {n c : Nat} {B : List Nat} : ∀ {A : List Nat}, RunOk n (A ++ B) → RunOk (2 * n + 1) (A ++ c :: B)
  | [], h => by
    have h1 := RunOk.head h
    have := @run_le c B
    rw [List.nil_append] at h1
    exact ⟨by omega, h.mono (by omega)⟩
  | a :: A, h => by
    have h1 := RunOk.head h
    have hB := RunOk.head (ok_tail (A := a :: A) h)
    have h2 := run_ins (c := c) (B := B) (a :: A)
    have h3 : run (a :: A ++ c :: B) ≤ 2 * n + 1 := by omega
    exact ⟨h3, ok_ins (A := A) h.2⟩
theorem run_del {c : Nat} {B : List Nat} : ∀ A : List Nat, run (A ++ B) ≤ run (A ++ c :: B) + run B
  | [] => by
    rw [List.nil_append]
    omega
  | a :: A => by
    have ih := run_del (c := c) (B := B) A
    rw [List.cons_append, List.cons_append]
    by_cases h : a = 10
    · rw [h, run_end]
      exact Nat.zero_le _
    · rw [run_cons h, run_cons h]
      omega
theorem ok_del {n c : Nat} {B : List Nat} : ∀ {A : List Nat}, RunOk n (A ++ c :: B) → RunOk (2 * n) (A ++ B)
  | [], h => RunOk.mono (by omega) h.2
  | a :: A, h => by
    have h1 := RunOk.head h
    have hB := RunOk.head (ok_tail (A := (a :: A)) (B := c :: B) h)
    have hB2 := RunOk.head (ok_tail (A := (a :: A) ++ [c]) (B := B) (by rw [List.append_assoc]; exact h))
    have h2 := run_del (c := c) (B := B) (a :: A)
    have h3 : run (a :: A ++ B) ≤ 2 * n := by omega
    exact ⟨h3, ok_del (A := A) h.2⟩
theorem ok_back {n : Nat} : ∀ P : List Str, (∀ p ∈ P, 10 ∉ p.cps.toList) → RunOk n (Str.join ⟨#[10]⟩ P).cps.toList → ∀ p ∈ P, p.length ≤ n
  | [], _, _, p, hp => absurd hp List.not_mem_nil
  | [x], hf, h, p, hp => by
    rw [List.mem_singleton.mp hp, len_toList]
    rw [join_one'] at h
    have := RunOk.head h
    rw [run_all (hf x List.mem_cons_self)] at this
    exact this
  | x :: y :: r, hf, h, p, hp => by
    rw [join_two'] at h
    rcases List.mem_cons.mp hp with z | z
    · have := RunOk.head h
      rw [run_free (hf x List.mem_cons_self)] at this
      rw [z, len_toList]
      exact this
    · exact ok_back (y :: r) (fun q hq => hf q (List.mem_cons_of_mem _ hq)) (ok_tail (A := x.cps.toList ++ [10]) (by rw [List.append_assoc]; exact h)) p z
theorem count_join : ∀ P : List Str, P ≠ [] → (∀ p ∈ P, 10 ∉ p.cps.toList) → (Str.join ⟨#[10]⟩ P).cps.toList.count 10 + 1 = P.length
  | [], h, _ => absurd rfl h
  | [x], _, hf => by
    rw [join_one', List.count_eq_zero.mpr (hf x List.mem_cons_self)]
    rfl
  | x :: y :: r, _, hf => by
    have ih := count_join (y :: r) (by simp) fun p hp => hf p (List.mem_cons_of_mem _ hp)
    rw [join_two', List.count_append, List.count_eq_zero.mpr (hf x List.mem_cons_self), List.count_cons_self, List.length_cons]
    omega
structure TextOk (t : Str) : Prop where
  c : t.cps.toList.count 10 ≤ 250
  r : RunOk 401 t.cps.toList
  l : t.length ≤ 1000000
theorem TextOk.split {t : Str} (h : TextOk t) : (∀ l ∈ Txt.split t ⟨#[10]⟩, l.length ≤ 600) ∧ (Txt.split t ⟨#[10]⟩).length < 300 := by
  have hj : Str.join ⟨#[10]⟩ (Txt.split t ⟨#[10]⟩) = t := StrLaws.join_split t ⟨#[10]⟩
  have hf : ∀ p ∈ Txt.split t ⟨#[10]⟩, 10 ∉ p.cps.toList := fun p hp => StrLaws.split_free t 10 p hp
  obtain ⟨w, qs, hs⟩ := split_ne t ⟨#[10]⟩
  refine ⟨fun l hl => ?_, ?_⟩
  · have := ok_back (n := 401) _ hf (by rw [hj]; exact h.r) l hl
    omega
  · have := count_join _ (by rw [hs]; simp) hf
    rw [hj] at this
    have := h.c
    omega
/-! ### the law's text -/
theorem join_data {o a : Sl → M MV} {δ : Sl} {z : Str} {zs : List Str} (ho : o δ = M.ret (.sh (.str z))) (ha : a δ = M.ret (.sh (strsL zs))) (hs : (zs.map fun s : Str => s.length).sum + zs.length * z.length ≤ 16777216) :
    mStrM fJoin o (mCons a mNil) δ = M.ret (strM (Txt.join z zs)) := by
  rw [strMF (ys := [.sh (strsL zs)]) ho (by rw [mCons_ev, ha]; rfl)]
  funext μ
  show (match ((some ((zs.map PyData.str).map MV.sh)).bind strsD) with
    | some zs => if (zs.map fun s : Str => s.length).sum + zs.length * z.length ≤ 16777216 then some (MV.sh (.str (Txt.join z zs))) else none
    | none => none).map (fun b => (Res.ok b, μ)) = _
  rw [List.map_map]
  show (match (strsD (zs.map strM)) with
    | some zs => if (zs.map fun s : Str => s.length).sum + zs.length * z.length ≤ 16777216 then some (MV.sh (.str (Txt.join z zs))) else none
    | none => none).map (fun b => (Res.ok b, μ)) = _
  rw [strs_D]
  dsimp only
  rw [if_pos hs]
  rfl
theorem cut_take {t : Str} {k : Nat} (h : k ≤ t.length) : (L2.cutS t none (some (k : Int))).cps.toList = t.cps.toList.take k := by
  unfold L2.cutS
  rw [HT.sIx_nat, HT.sIx_none, Nat.sub_zero, List.drop_zero, Nat.min_eq_left h]
theorem cut_drop {t : Str} {k : Nat} (h : k ≤ t.length) : (L2.cutS t (some (k : Int)) none).cps.toList = t.cps.toList.drop k := by
  unfold L2.cutS
  rw [HT.sIx_nat, HT.sIx_none, Nat.min_eq_left h]
  show (t.cps.toList.drop k).take (t.length - k) = _
  rw [List.take_of_length_le (by rw [List.length_drop, len_toList]; exact Nat.le_refl _)]
abbrev sA : Str := Str.ofString " !\"#$&'()*+,-./0123456789:;<=>?@ABCDEFGHIJKLMNOPQRSTUVWXYZ[\\]^_`"
abbrev sB : Str := Str.ofString "abcdefghijklmnopqrstuvwxyz{|}~\n\t -0 -0"
theorem sign_by_ok (c : Int) : ∃ x : Nat, l_sign_by [.sh (.int c)] = some (.ok (.str ⟨#[x]⟩)) := by
  have hA : sA.length = 64 := by decide +kernel
  have hB : sB.length = 38 := by decide +kernel
  have hlen : (sA ++ sB).length = 102 := by rw [len_app, hA, hB]
  have h0 := Int.emod_nonneg c (show (102 : Int) ≠ 0 by decide)
  have h1 := Int.emod_lt_of_pos c (show (0 : Int) < 102 by decide)
  have hi : c % 102 < ((sA ++ sB).cps.toList.length : Int) := by
    rw [← len_toList, hlen]
    exact h1
  refine ⟨(sA ++ sB).cps.toList[(c % 102).toNat]'(by omega), bodyP_rt ?_⟩
  unfold m_l_sign_by
  rw [seqF_nx (asgF (x := strM sA) rfl)]
  show mSeq _ _ [some (.sh (.int c)), some (strM sA)] = _
  rw [seqF_nx (asgF (addSF (x := sA) (y := sB) rfl rfl (by rw [hA, hB, sizeLine_eq]; omega)))]
  show mRet _ [some (.sh (.int c)), some (strM (sA ++ sB))] = _
  refine retF ?_
  rw [mOp2_ev, modF (x := c) (y := 102) rfl rfl (by decide)]
  show (M.look fun μ => if (sA ++ sB).length ≤ sizeLine then (L2.atI (sA ++ sB).cps.toList (c % 102)).map (fun c => MV.sh (.str ⟨#[c]⟩)) else none) = _
  rw [if_pos (by rw [hlen, sizeLine_eq]; omega), atI_lt h0 hi]
  rfl
end LW

set_option Elab.async false
set_option linter.all false
set_option maxRecDepth 100000
set_option maxHeartbeats 2000000
set_option exponentiation.threshold 300
namespace LW
open PySem PySem.W PD NumText
local macro_rules | `(tactic| walk_at "ev") => `(tactic| simp (disch := first | assumption | decide | omega) only [ret_bind, opt_some, look_some, mVar_0, mVar_s, mC_ev, mOp2_ev, mOp1_ev, mNil_ev, mCons_ev, mCB_ev, mTest_ev, isB_ev, mAnd_ev, mOr_ev, mNot_ev, mAndV_ev, mOrV_ev, mNotV_ev, mIf_ev, mChain_ev, mTru_ev, truM_b, mTup_ev, mLst_ev,
  mkL_nil, mkL_1, mkL_2, mkL_3, mkL_4, mkT_2, mkT_3, mkT_4, mI2_ev, mI1_ev, fMod_ev, fDiv_ev, fPow_ev, mAdd_i, mMul_i, mEq_int, mEq_str, mEq_bool, mIx_l, mIx_t, mIx_s, mLen_l, mLen_t, mLen_s, mI2L_ev, mIsi_ev, isiM, kindM, isiT, liftR_ok, mCallP_ev,
  mSeq_ev, sbind_nx, sbind_rt, sbind_ct, sbind_bk, sbind_ex, withV_ret, asg_some, mAsg_name, mNext_ev, mCont_ev, mBreak_ev, mRetN_ev, mRaise_ev, mRet_ev, mDrop_ev, mIfS_ev, atI_0, atI_1, atI_2, atI_3,
  start_ev, List.map_cons, List.map_nil, List.length_cons, List.length_nil, Nat.reduceAdd, Nat.reduceSub, Nat.zero_add, List.replicate_succ, List.replicate_zero, List.cons_append, List.nil_append, List.append_nil, List.set_cons_zero, List.set_cons_succ, Nat.reduceLeDiff, if_true, if_false, Bool.false_eq_true, Bool.true_eq_false, Bool.not_true, Bool.not_false, decide_eq_true_eq, decide_true, decide_false, Bool.and_true, Bool.true_and, Bool.and_false, Bool.false_and, Bool.or_true, Bool.or_false, Bool.true_or, Bool.false_or, List.all_cons, List.all_nil, cf, and_self, and_true, true_and, Nat.le_refl, Option.map_some, reduceCtorEq])
/-! ### the law's lines as a whole -/
structure LinesOk (n : Nat) (ls : List Str) : Prop where
  l : ∀ l ∈ ls, LineOk l
  n : ls.length ≤ n
theorem LinesOk.add {n : Nat} {ls : List Str} {l : Str} (h : LinesOk n ls) (hl : LineOk l) : LinesOk (n + 1) (ls ++ [l]) := ⟨fun x hx => by
  rcases List.mem_append.mp hx with z | z
  · exact h.l x z
  · rw [List.mem_singleton.mp z]
    exact hl, by rw [List.length_append, List.length_singleton]; have := h.n; omega⟩
theorem worker_ok : LineOk "worker" := ⟨by decide +kernel, by decide +kernel⟩
theorem min_ev {a b : Int} : fMin2 [.sh (.int a), .sh (.int b)] = M.ret (.sh (.int (if b < a then b else a))) := rfl
theorem rng3F {a b c : Sl → M MV} {δ : Sl} {i j k : Int} (ha : a δ = M.ret (.sh (.int i))) (hb : b δ = M.ret (.sh (.int j))) (hc : c δ = M.ret (.sh (.int k))) (h : 0 < k ∧ k ≤ 100000 ∧ -100000 ≤ i ∧ i ≤ 100000 ∧ -100000 ≤ j ∧ j ≤ 100000) :
    mRng3 (mCons a (mCons b (mCons c mNil))) δ = M.ret (.st (rangeC i k (rangeN i j k))) := by
  unfold mRng3
  rw [mCons_ev, ha, ret_bind, mCons_ev, hb, ret_bind, mCons_ev, hc]
  simp only [ret_bind, mNil_ev]
  rw [if_pos h]
  rfl
theorem lines_b3 {ns : List Int} (hlen : ns.length ≤ 63) {many am : Nat} (hm1 : 1 ≤ many) (hm2 : many ≤ 3) {k : Nat} (hk : k < 3) {s5 : Option MV} {ls : List Str} {n : Nat} (hl : LinesOk n ls) (hn : n ≤ 300) :
    ∃ ls' s5', LinesOk (n + 61) ls' ∧ 1 ≤ ls'.length ∧ m_l_lines_by_b3 (HS ns many am (some (.sh (.int (0 + (k : Int))))) s5 none none none none) [ls.map strM] = some (.nx (HS ns many am (some (.sh (.int (0 + (k : Int))))) s5' none none none none), [ls'.map strM]) := by
  unfold m_l_lines_by_b3
  have h0 := hl.n
  have hw := hl.add worker_ok
  rw [seq_nx (app_cell (n := 0) (xs := ls.map strM) (y := strM "worker") rfl rfl rfl (by rw [List.length_map]; omega))]
  have hset : ([ls.map strM] : Mu).set 0 (ls.map strM ++ [strM "worker"]) = [(ls ++ [("worker" : Str)]).map strM] := by
    rw [List.map_append]
    rfl
  rw [hset]
  obtain ⟨j, hj⟩ : ∃ j : Int, j = if (60 : Int) < (ns.length : Int) then 60 else (ns.length : Int) := ⟨_, rfl⟩
  have hj0 : 0 ≤ j := by rw [hj]; split <;> omega
  have hj1 : j ≤ 60 := by rw [hj]; split <;> omega
  have hj2 : j ≤ ns.length := by rw [hj]; split <;> omega
  have hsrc : mRng3 (mCons (mOp2 (mAdd false) (mC (.int 6)) (mVar 4)) (mCons (mCB fMin2 (mCons (mCB mLen (mCons (mVar 0) mNil)) (mCons (mC (.int 60)) mNil))) (mCons (mOp2 (mAdd false) (mVar 1) (mC (.int 2))) mNil))) (HS ns many am (some (.sh (.int (0 + (k : Int))))) s5 none none none none) =
      M.ret (.st (rangeC (6 + (0 + (k : Int))) ((many : Int) + 2) (rangeN (6 + (0 + (k : Int))) j ((many : Int) + 2)))) :=
    rng3F (addIF rfl rfl) (by
      rw [hj, mCB_ev, mCons_ev, mCB_ev, mCons_ev]
      show (((mLen [.scr ns]).bind _).bind _) = _
      rw [mLen_s]
      rfl) (addIF rfl rfl) ⟨by omega, by omega, by omega, by omega, by omega, by omega⟩
  have hc : (0 : Int) < (many : Int) + 2 := by omega
  have hr := rangeN_le hc (show (0 : Int) ≤ 6 + (0 + (k : Int)) by omega) hj0
  obtain ⟨δ', μ', e, ⟨s5', rfl⟩, ls', rfl, h1, h2⟩ := forL_ind (g := gNameM 7) (body := m_l_lines_by_b2) (ws := [7, 8, 9]) (xs := rangeC (6 + (0 + (k : Int))) ((many : Int) + 2) (rangeN (6 + (0 + (k : Int))) j ((many : Int) + 2))) (δ := HS ns many am (some (.sh (.int (0 + (k : Int))))) s5 none none none none) (μ := [(ls ++ [("worker" : Str)]).map strM])
    (fun i δ μ => (∃ s5, δ = HS ns many am (some (.sh (.int (0 + (k : Int))))) s5 none none none none) ∧ ∃ ls', μ = [ls'.map strM] ∧ LinesOk (n + 1 + i) ls' ∧ 1 ≤ ls'.length)
    ⟨⟨s5, rfl⟩, ls ++ [("worker" : Str)], rfl, hw, by rw [List.length_append, List.length_singleton]; omega⟩ (fun i x δ μ hx hP => by
      obtain ⟨⟨s5, rfl⟩, ls', rfl, h1, h2⟩ := hP
      obtain ⟨t, ht, rfl⟩ := rangeC_mem (List.mem_of_getElem? hx)
      have hi := (List.getElem?_eq_some_iff.mp hx).1
      rw [rangeC_len] at hi
      have hlt := rangeN_lt hc ht
      have hnn : (0 : Int) ≤ (t : Int) * ((many : Int) + 2) := Int.mul_nonneg (by omega) (by omega)
      have hle := h1.n
      obtain ⟨l, s5', s8, s9, ok, e⟩ := lines_b2 (ns := ns) (many := many) (am := am) (i := 6 + (0 + (k : Int)) + (t : Int) * ((many : Int) + 2)) (by omega) (by omega) (s4 := some (.sh (.int (0 + (k : Int))))) (s5 := s5) (ls := ls') (by omega)
      exact ⟨_, rfl, _, _, .inl e, ⟨s5', rfl⟩, ls' ++ [l], rfl, h1.add ok, by rw [List.length_append, List.length_singleton]; omega⟩)
  rw [rangeC_len] at h1
  refine ⟨ls', s5', ⟨h1.l, by have := h1.n; omega⟩, h2, ?_⟩
  rw [for_st (at_ret hsrc)]
  exact e
theorem lines_by_ok {ns : List Int} (hb : Bits ns) (hlen : ns.length ≤ 63) : ∃ ls, LinesOk 190 ls ∧ 1 ≤ ls.length ∧ l_lines_by [.scr ns] [] = some (.ok (.cell 0), [ls.map strM]) := by
  obtain ⟨c0, _, e0⟩ := cell_at_ok hb 0
  obtain ⟨c1, _, e1⟩ := cell_at_ok hb 1
  obtain ⟨many, hmany⟩ : ∃ m : Nat, 1 + c0 % 3 = (m : Int) := ⟨_, (Int.toNat_of_nonneg (by omega)).symm⟩
  obtain ⟨am, ham⟩ : ∃ m : Nat, c1 % 4 = (m : Int) := ⟨_, (Int.toNat_of_nonneg (by omega)).symm⟩
  have hm1 : 1 ≤ many := by omega
  have hm2 : many ≤ 3 := by omega
  have ha : am ≤ 3 := by omega
  have loop1 := forL_ind (g := gNameM 4) (body := m_l_lines_by_b1) (ws := [6]) (xs := rangeI 0 am) (δ := HS ns many am none none none none none none) (μ := [[]])
    (fun i δ μ => (∃ s4 s5, δ = HS ns many am s4 s5 none none none none) ∧ ∃ ls, μ = [ls.map strM] ∧ LinesOk i ls) ⟨⟨none, none, rfl⟩, [], rfl, fun l h => absurd h List.not_mem_nil, Nat.zero_le _⟩ (fun i x δ μ hx hP => by
      obtain ⟨⟨s4, s5, rfl⟩, ls, rfl, h1⟩ := hP
      obtain ⟨t, ht, rfl⟩ := rangeI_mem (List.mem_of_getElem? hx)
      have hi := (List.getElem?_eq_some_iff.mp hx).1
      rw [rangeI_len] at hi
      have hle := h1.n
      obtain ⟨l, s5', s6', ok, e⟩ := lines_b1 (many := many) (am := am) hb hm1 hm2 (k := t) (s5 := s5) (ls := ls) (by omega)
      exact ⟨_, rfl, _, _, .inl e, ⟨_, _, rfl⟩, ls ++ [l], rfl, h1.add ok⟩)
  obtain ⟨δ1, μ1, l1, ⟨s4, s5, rfl⟩, ls1, rfl, ok1⟩ := loop1
  rw [rangeI_len] at ok1
  have loop2 := forL_ind (g := gNameM 4) (body := m_l_lines_by_b3) (ws := [7, 8, 9]) (xs := rangeI 0 many) (δ := HS ns many am s4 s5 none none none none) (μ := [ls1.map strM])
    (fun i δ μ => (∃ s4 s5, δ = HS ns many am s4 s5 none none none none) ∧ ∃ ls, μ = [ls.map strM] ∧ LinesOk (am + 61 * i) ls ∧ (0 < i → 1 ≤ ls.length)) ⟨⟨s4, s5, rfl⟩, ls1, rfl, ok1, fun h => absurd h (Nat.lt_irrefl _)⟩ (fun i x δ μ hx hP => by
      obtain ⟨⟨s4, s5, rfl⟩, ls, rfl, h1, _⟩ := hP
      obtain ⟨t, ht, rfl⟩ := rangeI_mem (List.mem_of_getElem? hx)
      have hi := (List.getElem?_eq_some_iff.mp hx).1
      rw [rangeI_len] at hi
      obtain ⟨ls', s5', ok, h2, e⟩ := lines_b3 (ns := ns) hlen (many := many) (am := am) hm1 hm2 (k := t) (by omega) (s5 := s5) (ls := ls) (n := am + 61 * i) h1 (by omega)
      exact ⟨_, rfl, _, _, .inl e, ⟨_, _, rfl⟩, ls', rfl, ⟨ok.l, by have := ok.n; omega⟩, fun _ => h2⟩)
  obtain ⟨δ2, μ2, l2, ⟨s4', s5', rfl⟩, ls, rfl, ok2, hne⟩ := loop2
  rw [rangeI_len] at ok2 hne
  refine ⟨ls, ⟨ok2.l, by have := ok2.n; omega⟩, hne hm1, bodyI_rt_at (μ' := [ls.map strM]) ?_⟩
  unfold m_l_lines_by
  rw [seq_nx (asg_at (x := .sh (.int (many : Int))) (at_ret (by
    rw [addIF (x := 1) (y := c0 % 3) rfl (modF (cellF (k := 0) (ns := ns) rfl rfl e0) rfl (by decide)), hmany])))]
  rw [seq_nx (asg_at (x := .sh (.int (am : Int))) (at_ret (by
    rw [modF (x := c1) (y := 4) (cellF (k := 1) (ns := ns) rfl rfl e1) rfl (by decide), ham])))]
  rw [seq_nx (asg_at (x := .cell 0) (μ' := [[]]) rfl)]
  show mSeq _ _ (HS ns many am none none none none none none) [[]] = _
  rw [seq_nx (δ' := HS ns many am s4 s5 none none none none) (μ' := [ls1.map strM]) (by
    rw [for_st (at_ret (rng1F (n := am) rfl (by omega)))]
    exact l1)]
  rw [seq_nx (δ' := HS ns many am s4' s5' none none none none) (μ' := [ls.map strM]) (by
    rw [for_st (at_ret (rng1F (n := many) rfl (by omega)))]
    exact l2)]
  rfl
/-! ### the odd lines -/
def oddA : List Str := ["", "worker", "pipe 0 0 1", "pipe 0 1 1001", "pipe 0 0 0", "pipe 0 0", "pipe 0 0 1 1", "pipe 0 00 1"]
def oddB : List Str := ["pipe -1 0 1", "set 5", "set -5", "set -0", "set 007", "set +5", "set", "set 5 5", "put 0"]
def oddC : List Str := ["take 0", "add  0", " put 0", "Put 0", "put -1", "worker ", "sett 5", "set -007", "set -00", "set -"]
def oddD : List Str := ["set --5", "pipe 0 0 01", "pipe  0 0 1"]
theorem odd_all : ∀ l ∈ oddA ++ oddB ++ oddC ++ oddD, LineOk l := by
  have : ∀ l ∈ oddA ++ oddB ++ oddC ++ oddD, 10 ∉ l.cps.toList ∧ l.length ≤ 200 := by decide +kernel
  exact this
theorem addLF {a b : Sl → M MV} {δ : Sl} {x y : List Str} (ha : a δ = M.ret (.sh (strsL x))) (hb : b δ = M.ret (.sh (strsL y))) (hl : x.length + y.length ≤ 100000) : mOp2 (mAdd false) a b δ = M.ret (.sh (strsL (x ++ y))) := by
  rw [mOp2_ev, ha, ret_bind, hb, ret_bind]
  have := mkL_sh ((x ++ y).map PyData.str)
  rw [List.map_append, List.map_append] at this
  funext μ
  show (if ((x.map PyData.str).map MV.sh).length + ((y.map PyData.str).map MV.sh).length ≤ 100000 then M.mkL false ((x.map PyData.str).map MV.sh ++ (y.map PyData.str).map MV.sh) μ else none) = _
  rw [if_pos (by simpa using hl), this]
  unfold strsL
  rw [List.map_append]
theorem odd_ok (c : Int) : ∃ l, LineOk l ∧ l_odd_line [.sh (.int c)] = some (.ok (.str l)) := by
  have h0 := Int.emod_nonneg c (show (30 : Int) ≠ 0 by decide)
  have h1 := Int.emod_lt_of_pos c (show (0 : Int) < 30 by decide)
  have hlen : (oddA ++ oddB ++ oddC ++ oddD).length = 30 := rfl
  have hi : (c % 30).toNat < (oddA ++ oddB ++ oddC ++ oddD).length := by omega
  refine ⟨(oddA ++ oddB ++ oddC ++ oddD)[(c % 30).toNat], odd_all _ (List.getElem_mem hi), bodyP_rt ?_⟩
  unfold m_l_odd_line
  rw [seqF_nx (asgF (x := .sh (strsL oddA)) rfl)]
  show mSeq _ _ [some (.sh (.int c)), some (.sh (strsL oddA))] = _
  rw [seqF_nx (asgF (addLF (x := oddA) (y := oddB) rfl rfl (by decide)))]
  show mSeq _ _ [some (.sh (.int c)), some (.sh (strsL (oddA ++ oddB)))] = _
  rw [seqF_nx (asgF (addLF (x := oddA ++ oddB) (y := oddC) rfl rfl (by decide)))]
  show mSeq _ _ [some (.sh (.int c)), some (.sh (strsL (oddA ++ oddB ++ oddC)))] = _
  rw [seqF_nx (asgF (addLF (x := oddA ++ oddB ++ oddC) (y := oddD) rfl rfl (by decide)))]
  show mRet _ [some (.sh (.int c)), some (.sh (strsL (oddA ++ oddB ++ oddC ++ oddD)))] = _
  refine retF ?_
  rw [mOp2_ev, modF (x := c) (y := 30) rfl rfl (by decide)]
  show mIx (.sh (strsL (oddA ++ oddB ++ oddC ++ oddD))) (.sh (.int (c % 30))) = _
  unfold strsL
  rw [mIx_l, atI_map, atI_lt h0 (by rw [hlen]; exact h1)]
  rfl
end LW

set_option Elab.async false
set_option linter.all false
set_option maxRecDepth 100000
set_option maxHeartbeats 2000000
set_option exponentiation.threshold 300
namespace LW
open PySem PySem.W PD NumText
local macro_rules | `(tactic| walk_at "ev") => `(tactic| simp (disch := first | assumption | decide | omega) only [ret_bind, opt_some, look_some, mVar_0, mVar_s, mC_ev, mOp2_ev, mOp1_ev, mNil_ev, mCons_ev, mCB_ev, mTest_ev, isB_ev, mAnd_ev, mOr_ev, mNot_ev, mAndV_ev, mOrV_ev, mNotV_ev, mIf_ev, mChain_ev, mTru_ev, truM_b, mTup_ev, mLst_ev,
  mkL_nil, mkL_1, mkL_2, mkL_3, mkL_4, mkT_2, mkT_3, mkT_4, mI2_ev, mI1_ev, fMod_ev, fDiv_ev, fPow_ev, mAdd_i, mMul_i, mEq_int, mEq_str, mEq_bool, mIx_l, mIx_t, mIx_s, mLen_l, mLen_t, mLen_s, mI2L_ev, mIsi_ev, isiM, kindM, isiT, liftR_ok, mCallP_ev,
  mSeq_ev, sbind_nx, sbind_rt, sbind_ct, sbind_bk, sbind_ex, withV_ret, asg_some, mAsg_name, mNext_ev, mCont_ev, mBreak_ev, mRetN_ev, mRaise_ev, mRet_ev, mDrop_ev, mIfS_ev, atI_0, atI_1, atI_2, atI_3,
  start_ev, List.map_cons, List.map_nil, List.length_cons, List.length_nil, Nat.reduceAdd, Nat.reduceSub, Nat.zero_add, List.replicate_succ, List.replicate_zero, List.cons_append, List.nil_append, List.append_nil, List.set_cons_zero, List.set_cons_succ, Nat.reduceLeDiff, if_true, if_false, Bool.false_eq_true, Bool.true_eq_false, Bool.not_true, Bool.not_false, decide_eq_true_eq, decide_true, decide_false, Bool.and_true, Bool.true_and, Bool.and_false, Bool.false_and, Bool.or_true, Bool.or_false, Bool.true_or, Bool.false_or, List.all_cons, List.all_nil, cf, and_self, and_true, true_and, Nat.le_refl, Option.map_some, reduceCtorEq])
/-! ### the law's text, whatever is done to it -/
def XS (ns : List Int) (ls : List Str) (s2 s3 s4 : Option MV) : Sl := [some (.scr ns), some (.sh (strsL ls)), s2, s3, s4]
theorem text_join {ls : List Str} (h : LinesOk 191 ls) : (Txt.join ⟨#[10]⟩ ls).cps.toList.count 10 ≤ 200 ∧ RunOk 200 (Txt.join ⟨#[10]⟩ ls).cps.toList ∧ (Txt.join ⟨#[10]⟩ ls).length ≤ 100000 := by
  rw [show Txt.join ⟨#[10]⟩ ls = Str.join ⟨#[10]⟩ ls from StrLaws.glued_eq_join _ _]
  have hn := h.n
  refine ⟨?_, ok_join ls fun p hp => h.l p hp, ?_⟩
  · cases ls with
    | nil => exact Nat.zero_le _
    | cons l r =>
      have := count_join (l :: r) (by simp) fun p hp => (h.l p hp).1
      omega
  · have h1 := join_sum 10 ls
    have h2 := sum_bound (ls := ls) (b := 200) fun l hl => (h.l l hl).2
    have : ls.length * 200 ≤ 191 * 200 := Nat.mul_le_mul_right _ hn
    omega
theorem mod_nat {x y : Int} (h : 0 < y) : ∃ k : Nat, x % y = (k : Int) ∧ (k : Int) < y :=
  ⟨(x % y).toNat, (Int.toNat_of_nonneg (Int.emod_nonneg x (by omega))).symm, by
    rw [Int.toNat_of_nonneg (Int.emod_nonneg x (by omega))]
    exact Int.emod_lt_of_pos x h⟩
theorem text_by_ok {ns : List Int} (hb : Bits ns) {ls : List Str} (h : LinesOk 191 ls) : ∃ t, TextOk t ∧ l_text_by [.scr ns, .sh (strsL ls)] = some (.ok (.str t)) := by
  obtain ⟨c0, _, e0⟩ := cell_at_ok hb 0
  obtain ⟨c3, _, e3⟩ := cell_at_ok hb 3
  obtain ⟨c4, _, e4⟩ := cell_at_ok hb 4
  obtain ⟨hc, hr, hl⟩ := text_join h
  have hs : (ls.map fun s : Str => s.length).sum + ls.length * (⟨#[10]⟩ : Str).length ≤ 16777216 := by
    have h2 := sum_bound (ls := ls) (b := 200) fun l hl => (h.l l hl).2
    have hn := h.n
    have : ls.length * 200 ≤ 191 * 200 := Nat.mul_le_mul_right _ hn
    show _ + _ * 1 ≤ _
    omega
  have ej : mStrM fJoin (mC (.str "\n")) (mCons (mVar 1) mNil) (XS ns ls none none none) = M.ret (strM (Txt.join ⟨#[10]⟩ ls)) := by
    rw [end_str]
    exact join_data (zs := ls) rfl rfl hs
  generalize Txt.join ⟨#[10]⟩ ls = t at hc hr hl ej
  have hz : t.length ≤ sizeLine := by rw [sizeLine_eq]; omega
  have start : ∀ {b : MS} {r : Mu → Option (Out × Mu)}, b (XS ns ls (some (strM t)) (some (.sh (.int c3))) none) = r → mSeq (mAsg (gNameM 2) (mStrM fJoin (mC (.str "\n")) (mCons (mVar 1) mNil))) (mSeq (mAsg (gNameM 3) (mCallP 2 l_cell_at (mCons (mVar 0) (mCons (mC (.int 3)) mNil)))) b) (startM 5 [.scr ns, .sh (strsL ls)]) = r := fun {b r} hb' => by
    rw [show startM 5 [MV.scr ns, .sh (strsL ls)] = XS ns ls none none none from rfl, seqF_nx (asgF ej)]
    rw [show (XS ns ls none none none).set 2 (some (strM t)) = XS ns ls (some (strM t)) none none from rfl, seqF_nx (asgF (cellF (k := 3) (ns := ns) rfl rfl e3))]
    exact hb'
  generalize hδ : XS ns ls (some (strM t)) (some (.sh (.int c3))) none = δ
  rw [hδ] at start
  have v3 : mVar 3 δ = M.ret (.sh (.int c3)) := by rw [← hδ]; rfl
  have v2 : mVar 2 δ = M.ret (.sh (.str t)) := by rw [← hδ]; rfl
  have t4 : mTest (mOp2 (mEq false) (mOp2 fMod (mVar 3) (mC (.int 6))) (mC (.int 4))) δ = M.ret (decide (c3 % 6 = 4)) := testF (eqIF (modF v3 rfl (by decide)) rfl)
  have elen : mCB mLen (mCons (mVar 2) mNil) δ = M.ret (.sh (.int (t.length : Int))) := lenSF v2 hz
  have t5 : mAnd (mTest (mOp2 (mEq false) (mOp2 fMod (mVar 3) (mC (.int 6))) (mC (.int 5)))) (mTest (mOp2 fGt (mCB mLen (mCons (mVar 2) mNil)) (mC (.int 0)))) δ = M.ret (decide (c3 % 6 = 5) && decide ((0 : Int) < (t.length : Int))) :=
    andF (testF (eqIF (modF v3 rfl (by decide)) rfl)) (testF (by rw [mOp2_ev, elen]; rfl))
  by_cases h4 : c3 % 6 = 4
  · -- a sign put in
    obtain ⟨k, hk, hk2⟩ := mod_nat (x := c3 / 6) (y := (t.length : Int) + 1) (by omega)
    have hk3 : k ≤ t.length := by omega
    obtain ⟨x, hx⟩ := sign_by_ok (c0 + c4)
    have l1 := cut_take (t := t) hk3
    have l2 := cut_drop (t := t) hk3
    have hlist : ((L2.cutS t none (some (k : Int)) ++ (⟨#[x]⟩ : Str)) ++ L2.cutS t (some (k : Int)) none).cps.toList = t.cps.toList.take k ++ x :: t.cps.toList.drop k := by
      rw [app_list, app_list, l1, l2, List.append_assoc]
      rfl
    have hlen : ((L2.cutS t none (some (k : Int)) ++ (⟨#[x]⟩ : Str)) ++ L2.cutS t (some (k : Int)) none).length = t.length + 1 := by
      rw [len_toList, hlist, List.length_append, List.length_cons, List.length_take, List.length_drop, ← len_toList]
      omega
    have hcl1 : (L2.cutS t none (some (k : Int))).length ≤ t.length := by
      rw [len_toList, l1, List.length_take, ← len_toList]
      omega
    have hcl2 : (L2.cutS t (some (k : Int)) none).length ≤ t.length := by
      rw [len_toList, l2, List.length_drop, ← len_toList]
      omega
    refine ⟨(L2.cutS t none (some (k : Int)) ++ (⟨#[x]⟩ : Str)) ++ L2.cutS t (some (k : Int)) none, ⟨?_, ?_, by rw [hlen]; omega⟩, bodyP_rt (start ?_)⟩
    · rw [hlist, List.count_append, List.count_cons]
      have := hc
      rw [← List.take_append_drop k t.cps.toList, List.count_append] at this
      split <;> omega
    · rw [hlist]
      exact ok_ins (n := 200) (by rw [List.take_append_drop]; exact hr)
    · rw [seqF_rt (x := strM ((L2.cutS t none (some (k : Int)) ++ (⟨#[x]⟩ : Str)) ++ L2.cutS t (some (k : Int)) none))]
      · rfl
      rw [ifF t4, decide_eq_true h4, if_pos rfl]
      rw [seqF_nx (asgF (x := .sh (.int (k : Int))) (by rw [← hk]; exact modF (divF v3 rfl (by decide) (by decide)) (addIF elen rfl) (by omega)))]
      rw [show δ.set 4 (some (.sh (.int (k : Int)))) = XS ns ls (some (strM t)) (some (.sh (.int c3))) (some (.sh (.int (k : Int)))) by rw [← hδ]; rfl]
      have one : (⟨#[x]⟩ : Str).length = 1 := rfl
      refine retF (addSF (addSF (slF (p := t) (l := none) (h := some (k : Int)) rfl rfl rfl hz) (callF (k := 1) (xs := [.sh (.int (c0 + c4))]) ?_ ⟨rfl, rfl⟩ hx) (by rw [one, sizeLine_eq]; omega)) (slF (p := t) (l := some (k : Int)) (h := none) rfl rfl rfl hz) (by rw [len_app, one, sizeLine_eq]; omega))
      rw [mCons_ev, addIF (cellF (k := 0) (ns := ns) rfl rfl e0) (cellF (k := 4) (ns := ns) rfl rfl e4)]
      rfl
  by_cases h5 : c3 % 6 = 5 ∧ 0 < t.length
  · -- a sign taken out
    obtain ⟨k, hk, hk2⟩ := mod_nat (x := c3 / 6) (y := (t.length : Int)) (by omega)
    have hk3 : k < t.length := by omega
    have l1 := cut_take (t := t) (k := k) (by omega)
    have l2 := cut_drop (t := t) (k := k + 1) (by omega)
    have hsplit : t.cps.toList = t.cps.toList.take k ++ (t.cps.toList[k]'(by rw [← len_toList]; exact hk3)) :: t.cps.toList.drop (k + 1) := by
      rw [← List.drop_eq_getElem_cons, List.take_append_drop]
    have hlist : (L2.cutS t none (some (k : Int)) ++ L2.cutS t (some ((k + 1 : Nat) : Int)) none).cps.toList = t.cps.toList.take k ++ t.cps.toList.drop (k + 1) := by
      rw [app_list, l1, l2]
    have hcl1 : (L2.cutS t none (some (k : Int))).length ≤ t.length := by
      rw [len_toList, l1, List.length_take, ← len_toList]
      omega
    have hcl2 : (L2.cutS t (some ((k + 1 : Nat) : Int)) none).length ≤ t.length := by
      rw [len_toList, l2, List.length_drop, ← len_toList]
      omega
    refine ⟨L2.cutS t none (some (k : Int)) ++ L2.cutS t (some ((k + 1 : Nat) : Int)) none, ⟨?_, ?_, by rw [len_app]; omega⟩, bodyP_rt (start ?_)⟩
    · have := hc
      rw [hsplit, List.count_append, List.count_cons] at this
      rw [hlist, List.count_append]
      omega
    · rw [hlist]
      rw [hsplit] at hr
      exact RunOk.mono (by omega) (ok_del hr)
    · rw [seqF_nx (δ' := δ) (by rw [ifF t4, decide_eq_false h4]; rfl)]
      rw [seqF_rt (x := strM (L2.cutS t none (some (k : Int)) ++ L2.cutS t (some ((k + 1 : Nat) : Int)) none))]
      · rfl
      rw [ifF t5, decide_eq_true h5.1, decide_eq_true (show (0 : Int) < (t.length : Int) by omega)]
      show mSeq _ _ δ = _
      rw [seqF_nx (asgF (x := .sh (.int (k : Int))) (by rw [← hk]; exact modF (divF v3 rfl (by decide) (by decide)) elen (by omega)))]
      rw [show δ.set 4 (some (.sh (.int (k : Int)))) = XS ns ls (some (strM t)) (some (.sh (.int c3))) (some (.sh (.int (k : Int)))) by rw [← hδ]; rfl]
      exact retF (addSF (slF (p := t) (l := none) (h := some (k : Int)) rfl rfl rfl hz) (slF (p := t) (l := some ((k + 1 : Nat) : Int)) (h := none) rfl rfl rfl hz) (by rw [sizeLine_eq]; omega))
  · refine ⟨t, ⟨by omega, hr.mono (by decide), by omega⟩, bodyP_rt (start ?_)⟩
    have h5' : (decide (c3 % 6 = 5) && decide ((0 : Int) < (t.length : Int))) = false := by
      rw [Bool.and_eq_false_iff, decide_eq_false_iff_not, decide_eq_false_iff_not]
      by_cases z : c3 % 6 = 5
      · exact .inr fun z2 => h5 ⟨z, by omega⟩
      · exact .inl z
    rw [seqF_nx (δ' := δ) (by rw [ifF t4, decide_eq_false h4]; rfl), seqF_nx (δ' := δ) (by rw [ifF t5, h5']; rfl)]
    exact retF v2
/-! ### whatever is refused is refused by one kind alone -/
theorem refused_ok {t : Str} {c : Nat} (h : read [.sh (.str t)] = some (.exc c)) (hc : c = 1 ∨ c = 2 ∨ c = 3) : l_refused_by_any [.sh (.str t)] = some (.ok (.bool true)) := by
  refine bodyP_rt ?_
  unfold m_l_refused_by_any
  have e : mTryAs 1 (mDrop (mCallP 1 read (mCons (mVar 0) mNil))) exF_NetError (mHeldRet 1 okAlone) (startM 2 [.sh (.str t)]) = S.ret (.rt (.sh (.bool true))) := by
    funext μ
    unfold mTryAs
    rw [dropX (callX (k := 1) (xs := [.sh (.str t)]) rfl ⟨rfl, rfl⟩ h)]
    rcases hc with rfl | rfl | rfl <;> rfl
  rw [seqF_rt e]
end LW

set_option Elab.async false
set_option linter.all false
set_option maxRecDepth 100000
set_option maxHeartbeats 2000000
set_option exponentiation.threshold 300
namespace LW
open PySem PySem.W PD NumText
local macro_rules | `(tactic| walk_at "ev") => `(tactic| simp (disch := first | assumption | decide | omega) only [ret_bind, opt_some, look_some, mVar_0, mVar_s, mC_ev, mOp2_ev, mOp1_ev, mNil_ev, mCons_ev, mCB_ev, mTest_ev, isB_ev, mAnd_ev, mOr_ev, mNot_ev, mAndV_ev, mOrV_ev, mNotV_ev, mIf_ev, mChain_ev, mTru_ev, truM_b, mTup_ev, mLst_ev,
  mkL_nil, mkL_1, mkL_2, mkL_3, mkL_4, mkT_2, mkT_3, mkT_4, mI2_ev, mI1_ev, fMod_ev, fDiv_ev, fPow_ev, mAdd_i, mMul_i, mEq_int, mEq_str, mEq_bool, mIx_l, mIx_t, mIx_s, mLen_l, mLen_t, mLen_s, mI2L_ev, mIsi_ev, isiM, kindM, isiT, liftR_ok, mCallP_ev,
  mSeq_ev, sbind_nx, sbind_rt, sbind_ct, sbind_bk, sbind_ex, withV_ret, asg_some, mAsg_name, mNext_ev, mCont_ev, mBreak_ev, mRetN_ev, mRaise_ev, mRet_ev, mDrop_ev, mIfS_ev, atI_0, atI_1, atI_2, atI_3,
  start_ev, List.map_cons, List.map_nil, List.length_cons, List.length_nil, Nat.reduceAdd, Nat.reduceSub, Nat.zero_add, List.replicate_succ, List.replicate_zero, List.cons_append, List.nil_append, List.append_nil, List.set_cons_zero, List.set_cons_succ, Nat.reduceLeDiff, if_true, if_false, Bool.false_eq_true, Bool.true_eq_false, Bool.not_true, Bool.not_false, decide_eq_true_eq, decide_true, decide_false, Bool.and_true, Bool.true_and, Bool.and_false, Bool.false_and, Bool.or_true, Bool.or_false, Bool.true_or, Bool.false_or, List.all_cons, List.all_nil, cf, and_self, and_true, true_and, Nat.le_refl, Option.map_some, reduceCtorEq])
/-! ### the law -/
theorem compN {src : Sl → M Src} {g : MG} {te : Sl → M MV} {vs : List Nat} {δ : Sl} {α : Type} {e : α → PyData} {f : α → MV} {l : List α} {μ : Mu} (hs : src δ = M.ret (.st ((l.map e).map .sh))) (hl : l.length ≤ 100000)
    (h : ∀ x ∈ l, ∃ δ1, g (.sh (e x)) (wipeS δ vs) = some δ1 ∧ te δ1 = M.ret (f x)) : mComp true src g mYes te vs δ μ = some (.ok (.cell μ.length), μ ++ [l.map f]) := by
  have hc : ∀ x : MV, ∃ y, x ∈ (l.map e).map MV.sh → ∃ δ1, g x (wipeS δ vs) = some δ1 ∧ te δ1 = M.ret y := fun x => by
    by_cases hx : x ∈ (l.map e).map MV.sh
    · obtain ⟨d, hd, rfl⟩ := List.mem_map.mp hx
      obtain ⟨a, ha, rfl⟩ := List.mem_map.mp hd
      obtain ⟨δ1, h1, h2⟩ := h a ha
      exact ⟨_, fun _ => ⟨δ1, h1, h2⟩⟩
    · exact ⟨x, fun z => absurd z hx⟩
  obtain ⟨F, hF⟩ := Classical.axiomOfChoice hc
  rw [mComp_ret F hs (by simpa using hl) fun x hx => hF x hx]
  have : ((l.map e).map MV.sh).map F = l.map f := by
    rw [List.map_map, List.map_map]
    refine List.map_congr_left fun a ha => ?_
    obtain ⟨δ1, h1, h2⟩ := h a ha
    obtain ⟨δ2, h3, h4⟩ := hF (MV.sh (e a)) (List.mem_map_of_mem (List.mem_map_of_mem ha))
    rw [h1] at h3
    cases h3
    rw [h2] at h4
    have := congrFun h4 []
    simp only [M.ret, Option.some.injEq, Prod.mk.injEq, Res.ok.injEq, and_true] at this
    exact this.symm
  rw [this]
  rfl
def cellV (ns : List Int) (k : Nat) : Int := ns.getD k 0
theorem cell_v (ns : List Int) (k : Nat) : l_cell_at [.scr ns, .sh (.int (k : Int))] = some (.ok (.int (cellV ns k))) := by
  by_cases h : k < ns.length
  · rw [cell_at_in h]
    unfold cellV
    rw [getD_eq h]
  · rw [cell_at_out (by omega)]
    unfold cellV
    rw [List.getD_eq_getElem?_getD, List.getElem?_eq_none (by omega)]
    rfl

def LS (ns : List Int) (s1 : Option MV) (c w : Int) (s5 s6 s7 s8 s9 : Option MV) : Sl := [some (.scr ns), s1, some (.sh (.int c)), some (.sh (.int w)), none, s5, s6, s7, s8, s9]
/-- the lines in the heap, wherever they stand -/
def At (μ : Mu) (s1 : Option MV) (n : Nat) (ls : List Str) : Prop := ∃ i, s1 = some (.cell i) ∧ μ[i]? = some (ls.map strM) ∧ LinesOk n ls
noncomputable def oddF (c : Int) : Str := Classical.choose (odd_ok c)
theorem oddF_ok (c : Int) : LineOk (oddF c) ∧ l_odd_line [.sh (.int c)] = some (.ok (.str (oddF c))) := Classical.choose_spec (odd_ok c)
theorem lenC {δ : Sl} {μ : Mu} {s i : Nat} {xs : List MV} (h : mVar s δ = M.ret (.cell i)) (hi : μ[i]? = some xs) : mCB mLen (mCons (mVar s) mNil) δ μ = some (.ok (.sh (.int (xs.length : Int))), μ) := by
  rw [cb_at (xs := [.cell i]) (cons_at (at_ret h) nil_at), mLen_c, hi]
theorem mod_at {a b : Sl → M MV} {δ : Sl} {μ : Mu} {x y : Int} (ha : a δ μ = some (.ok (.sh (.int x)), μ)) (hb : b δ μ = some (.ok (.sh (.int y)), μ)) (h : 0 < y) : mOp2 fMod a b δ μ = some (.ok (.sh (.int (x % y))), μ) := by
  rw [op2_at ha hb, fMod_ev h]
  rfl
theorem add_at {a b : Sl → M MV} {δ : Sl} {μ : Mu} {x y : Int} (ha : a δ μ = some (.ok (.sh (.int x)), μ)) (hb : b δ μ = some (.ok (.sh (.int y)), μ)) : mOp2 (mAdd false) a b δ μ = some (.ok (.sh (.int (x + y))), μ) := by
  rw [op2_at ha hb, mAdd_i]
  rfl
/-- one line put in -/
theorem ins_at {ns : List Int} {μ : Mu} {s1 : Option MV} {c w : Int} {ls : List Str} {n : Nat} (h : At μ s1 n ls) (hn : n ≤ 300) :
    ∃ μ' ls', At μ' s1 (n + 1) ls' ∧ 1 ≤ ls'.length ∧ mDrop (mCellM fInsert (mVar 1) (mCons (mOp2 fMod (mOp2 fDiv (mVar 2) (mC (.int 4))) (mOp2 (mAdd false) (mCB mLen (mCons (mVar 1) mNil)) (mC (.int 1)))) (mCons (mCallP 1 l_odd_line (mCons (mCallP 2 l_cell_at (mCons (mVar 0) (mCons (mC (.int 4)) mNil))) mNil)) mNil)))
      (LS ns s1 c w none none none none none) μ = some (.nx (LS ns s1 c w none none none none none), μ') := by
  obtain ⟨i, rfl, hi, ok⟩ := h
  have hle := ok.n
  have hlt := (List.getElem?_eq_some_iff.mp hi).1
  obtain ⟨k, hk, hk2⟩ := mod_nat (x := c / 4) (y := ((ls.map strM).length : Int) + 1) (by omega)
  rw [List.length_map] at hk2
  obtain ⟨o1, o2⟩ := oddF_ok (cellV ns 4)
  have hle2 : ((ls.take k ++ [oddF (cellV ns 4)] ++ ls.drop k)).length = ls.length + 1 := by
    rw [List.length_append, List.length_append, List.length_singleton, List.length_take, List.length_drop]
    omega
  refine ⟨μ.set i ((ls.take k ++ [oddF (cellV ns 4)] ++ ls.drop k).map strM), ls.take k ++ [oddF (cellV ns 4)] ++ ls.drop k, ⟨i, rfl, List.getElem?_set_self hlt, ⟨fun l hl => ?_, by rw [hle2]; omega⟩⟩, by rw [hle2]; omega, drop_at (x := .sh .none) ?_⟩
  · rcases List.mem_append.mp hl with z | z
    · rcases List.mem_append.mp z with z | z
      · exact ok.l l (List.mem_of_mem_take z)
      · rw [List.mem_singleton.mp z]
        exact o1
    · exact ok.l l (List.mem_of_mem_drop z)
  · rw [mCellM_ev, bindA, show mVar 1 (LS ns (some (.cell i)) c w none none none none none) μ = some (.ok (.cell i), μ) from rfl]
    dsimp only
    have e1 : mOp2 fMod (mOp2 fDiv (mVar 2) (mC (.int 4))) (mOp2 (mAdd false) (mCB mLen (mCons (mVar 1) mNil)) (mC (.int 1))) (LS ns (some (.cell i)) c w none none none none none) μ = some (.ok (.sh (.int (k : Int))), μ) := by
      rw [mod_at (at_ret (divF (x := c) (y := 4) rfl rfl (by decide) (by decide))) (add_at (lenC rfl hi) (at_ret rfl)) (by omega), hk]
    have e2 : mCallP 1 l_odd_line (mCons (mCallP 2 l_cell_at (mCons (mVar 0) (mCons (mC (.int 4)) mNil))) mNil) (LS ns (some (.cell i)) c w none none none none none) = M.ret (strM (oddF (cellV ns 4))) :=
      callF (k := 1) (xs := [.sh (.int (cellV ns 4))]) (by rw [mCons_ev, cellF (k := 4) (ns := ns) rfl rfl (cell_v ns 4)]; rfl) ⟨rfl, rfl⟩ o2
    rw [bindA, cons_at e1 (cons_at (at_ret e2) nil_at)]
    dsimp only
    rw [cellStepA, hi]
    dsimp only
    rw [show fInsert (ls.map strM) [.sh (.int (k : Int)), strM (oddF (cellV ns 4))] = some (.sh .none, (ls.map strM).take k ++ [strM (oddF (cellV ns 4))] ++ (ls.map strM).drop k) by
      unfold fInsert
      dsimp only
      rw [if_pos ⟨by rw [List.length_map]; omega, by omega, by omega⟩, Int.toNat_natCast]]
    rw [List.map_append, List.map_append, List.map_take, List.map_drop]
    rfl
theorem erase_map {α β : Type} (f : α → β) : ∀ (l : List α) (k : Nat), (l.map f).eraseIdx k = (l.eraseIdx k).map f
  | [], _ => rfl
  | _ :: _, 0 => rfl
  | a :: r, k + 1 => congrArg (f a :: ·) (erase_map f r k)
/-- one line taken out -/
theorem pop_at {ns : List Int} {μ : Mu} {s1 : Option MV} {c w : Int} {ls : List Str} {n : Nat} (h : At μ s1 n ls) (h1 : 1 ≤ ls.length) (hn : n ≤ 300) :
    ∃ μ' ls', At μ' s1 n ls' ∧ mDrop (mCellM fPopAt (mVar 1) (mCons (mOp2 fMod (mOp2 fDiv (mVar 2) (mC (.int 4))) (mCB mLen (mCons (mVar 1) mNil))) mNil)) (LS ns s1 c w none none none none none) μ = some (.nx (LS ns s1 c w none none none none none), μ') := by
  obtain ⟨i, rfl, hi, ok⟩ := h
  have hle := ok.n
  have hlt := (List.getElem?_eq_some_iff.mp hi).1
  obtain ⟨k, hk, hk2⟩ := mod_nat (x := c / 4) (y := ((ls.map strM).length : Int)) (by rw [List.length_map]; omega)
  rw [List.length_map] at hk2
  have hk3 : k < ls.length := by omega
  refine ⟨μ.set i ((ls.eraseIdx k).map strM), ls.eraseIdx k, ⟨i, rfl, List.getElem?_set_self hlt, ⟨fun l hl => ok.l l (List.mem_of_mem_eraseIdx hl), by rw [List.length_eraseIdx_of_lt hk3]; omega⟩⟩, drop_at (x := strM (ls[k])) ?_⟩
  rw [mCellM_ev, bindA, show mVar 1 (LS ns (some (.cell i)) c w none none none none none) μ = some (.ok (.cell i), μ) from rfl]
  dsimp only
  have e1 : mOp2 fMod (mOp2 fDiv (mVar 2) (mC (.int 4))) (mCB mLen (mCons (mVar 1) mNil)) (LS ns (some (.cell i)) c w none none none none none) μ = some (.ok (.sh (.int (k : Int))), μ) := by
    rw [mod_at (at_ret (divF (x := c) (y := 4) rfl rfl (by decide) (by decide))) (lenC rfl hi) (by rw [List.length_map]; omega), hk]
  rw [bindA, cons_at e1 nil_at]
  dsimp only
  rw [cellStepA, hi]
  dsimp only
  have ex : L2.ixN (ls.map strM).length (k : Int) = some k := by
    unfold L2.ixN
    rw [List.length_map, if_pos (by omega), if_pos (by omega), Int.toNat_natCast]
  have eg : (ls.map strM)[k]? = some (strM ls[k]) := by rw [List.getElem?_map, List.getElem?_eq_getElem hk3]; rfl
  rw [show fPopAt (ls.map strM) [.sh (.int (k : Int))] = some (strM ls[k], (ls.map strM).eraseIdx k) by
    unfold fPopAt
    dsimp only
    rw [if_pos ⟨by omega, by omega⟩, ex]
    show ((ls.map strM)[k]?).map _ = _
    rw [eg]
    rfl]
  rw [erase_map]
  rfl
theorem peek_lines {μ : Mu} {i : Nat} {ls : List Str} (hi : μ[i]? = some (ls.map strM)) : peekSs μ [.scr ns, .cell i] = some [.scr ns, .sh (strsL ls)] := by
  have : peekS μ (.cell i) = some (.sh (strsL ls)) := by
    show ((match μ[i]? with
      | some xs => (PD.peekA (peek 7 μ) xs).map PyData.list
      | none => none) : Option PyData).map MV.sh = _
    rw [hi]
    dsimp only
    rw [peekA_map strM PyData.str ls fun a _ => peek_sh]
    rfl
  show (match peekS μ (.scr ns) with
    | none => none
    | some y => (peekSs μ [.cell i]).map (y :: ·)) = _
  rw [show peekS μ (.scr ns) = some (.scr ns) from rfl]
  dsimp only
  show ((match peekS μ (.cell i) with
    | none => none
    | some y => (peekSs μ []).map (y :: ·)) : Option (List MV)).map _ = _
  rw [this]
  rfl
end LW

set_option Elab.async false
set_option linter.all false
set_option maxRecDepth 100000
set_option maxHeartbeats 2000000
set_option exponentiation.threshold 300
namespace LW
open PySem PySem.W PD NumText
local macro_rules | `(tactic| walk_at "ev") => `(tactic| simp (disch := first | assumption | decide | omega) only [ret_bind, opt_some, look_some, mVar_0, mVar_s, mC_ev, mOp2_ev, mOp1_ev, mNil_ev, mCons_ev, mCB_ev, mTest_ev, isB_ev, mAnd_ev, mOr_ev, mNot_ev, mAndV_ev, mOrV_ev, mNotV_ev, mIf_ev, mChain_ev, mTru_ev, truM_b, mTup_ev, mLst_ev,
  mkL_nil, mkL_1, mkL_2, mkL_3, mkL_4, mkT_2, mkT_3, mkT_4, mI2_ev, mI1_ev, fMod_ev, fDiv_ev, fPow_ev, mAdd_i, mMul_i, mEq_int, mEq_str, mEq_bool, mIx_l, mIx_t, mIx_s, mLen_l, mLen_t, mLen_s, mI2L_ev, mIsi_ev, isiM, kindM, isiT, liftR_ok, mCallP_ev,
  mSeq_ev, sbind_nx, sbind_rt, sbind_ct, sbind_bk, sbind_ex, withV_ret, asg_some, mAsg_name, mNext_ev, mCont_ev, mBreak_ev, mRetN_ev, mRaise_ev, mRet_ev, mDrop_ev, mIfS_ev, atI_0, atI_1, atI_2, atI_3,
  start_ev, List.map_cons, List.map_nil, List.length_cons, List.length_nil, Nat.reduceAdd, Nat.reduceSub, Nat.zero_add, List.replicate_succ, List.replicate_zero, List.cons_append, List.nil_append, List.append_nil, List.set_cons_zero, List.set_cons_succ, Nat.reduceLeDiff, if_true, if_false, Bool.false_eq_true, Bool.true_eq_false, Bool.not_true, Bool.not_false, decide_eq_true_eq, decide_true, decide_false, Bool.and_true, Bool.true_and, Bool.and_false, Bool.false_and, Bool.or_true, Bool.or_false, Bool.true_or, Bool.false_or, List.all_cons, List.all_nil, cf, and_self, and_true, true_and, Nat.le_refl, Option.map_some, reduceCtorEq])
/-! ### the law, at every script -/
theorem asgX {i : Nat} {m : Sl → M MV} {δ : Sl} {c : Nat} (h : m δ = M.exc c) : mAsg (gNameM i) m δ = S.ret (.ex c δ) := by
  rw [mAsg_name, h]
  rfl
theorem main (ns : List Int) (hlen : ns.length ≤ 63) (hb : ∀ z ∈ ns, Builtin.Int.intBits z ≤ 1048576) : law [.scr ns] = some (.ok (.bool true)) := by
  obtain ⟨ls0, ok0, ne0, e0⟩ := lines_by_ok (ns := ns) hb hlen
  obtain ⟨c, hc⟩ : ∃ c, c = cellV ns 5 := ⟨_, rfl⟩
  have e5 : l_cell_at [.scr ns, .sh (.int 5)] = some (.ok (.int c)) := by rw [hc]; exact cell_v ns 5
  have key : ∃ μ, m_law (startM 10 [.scr ns]) [] = some (.rt (.sh (.bool true)), μ) := by
    unfold m_law
    rw [seq_nx (asg_at (x := .cell 0) (μ' := [ls0.map strM]) (mCallI_at (k := 1) (xs := [.scr ns]) (μ' := []) rfl rfl e0))]
    rw [seq_nx (asg_at (x := .sh (.int c)) (at_ret (cellF (k := 5) (ns := ns) rfl rfl e5)))]
    rw [seq_nx (asg_at (x := .sh (.int (c % 4))) (at_ret (modF (x := c) (y := 4) rfl rfl (by decide))))]
    show ∃ μ, mSeq _ _ (LS ns (some (.cell 0)) c (c % 4) none none none none none) [ls0.map strM] = _
    -- a line put in
    have step4 : ∃ μ1 ls1, At μ1 (some (.cell 0)) 191 ls1 ∧ 1 ≤ ls1.length ∧ mIfS (mOr (mTest (mOp2 (mEq false) (mVar 3) (mC (.int 1)))) (mTest (mOp2 (mEq false) (mVar 3) (mC (.int 2))))) (mDrop (mCellM fInsert (mVar 1) (mCons (mOp2 fMod (mOp2 fDiv (mVar 2) (mC (.int 4))) (mOp2 (mAdd false) (mCB mLen (mCons (mVar 1) mNil)) (mC (.int 1)))) (mCons (mCallP 1 l_odd_line (mCons (mCallP 2 l_cell_at (mCons (mVar 0) (mCons (mC (.int 4)) mNil))) mNil)) mNil)))) mNext
        (LS ns (some (.cell 0)) c (c % 4) none none none none none) [ls0.map strM] = some (.nx (LS ns (some (.cell 0)) c (c % 4) none none none none none), μ1) := by
      have tt : mOr (mTest (mOp2 (mEq false) (mVar 3) (mC (.int 1)))) (mTest (mOp2 (mEq false) (mVar 3) (mC (.int 2)))) (LS ns (some (.cell 0)) c (c % 4) none none none none none) = M.ret (decide (c % 4 = 1) || decide (c % 4 = 2)) :=
        orF (testF (eqIF rfl rfl)) (testF (eqIF rfl rfl))
      by_cases h : c % 4 = 1 ∨ c % 4 = 2
      · have ht : (decide (c % 4 = 1) || decide (c % 4 = 2)) = true := by rw [Bool.or_eq_true, decide_eq_true_eq, decide_eq_true_eq]; exact h
        obtain ⟨μ1, ls1, hA1, hne, e⟩ := ins_at (ns := ns) (c := c) (w := c % 4) (⟨0, rfl, rfl, ok0⟩ : At [ls0.map strM] (some (.cell 0)) 190 ls0) (by omega)
        exact ⟨μ1, ls1, hA1, hne, by rw [if_t (at_ret (by rw [tt, ht])), e]⟩
      · have ht : (decide (c % 4 = 1) || decide (c % 4 = 2)) = false := by rw [Bool.or_eq_false_iff, decide_eq_false_iff_not, decide_eq_false_iff_not]; exact ⟨fun z => h (.inl z), fun z => h (.inr z)⟩
        refine ⟨[ls0.map strM], ls0, ⟨0, rfl, rfl, ok0.l, by have := ok0.n; omega⟩, ne0, ?_⟩
        rw [if_f (at_ret (by rw [tt, ht]))]
        rfl
    obtain ⟨μ1, ls1, hA1, ne1, e4⟩ := step4
    rw [seq_nx e4]
    -- a line taken out
    have step5 : ∃ μ2 ls2, At μ2 (some (.cell 0)) 191 ls2 ∧ mIfS (mTest (mOp2 (mEq false) (mVar 3) (mC (.int 3)))) (mDrop (mCellM fPopAt (mVar 1) (mCons (mOp2 fMod (mOp2 fDiv (mVar 2) (mC (.int 4))) (mCB mLen (mCons (mVar 1) mNil))) mNil))) mNext
        (LS ns (some (.cell 0)) c (c % 4) none none none none none) μ1 = some (.nx (LS ns (some (.cell 0)) c (c % 4) none none none none none), μ2) := by
      have tt : mTest (mOp2 (mEq false) (mVar 3) (mC (.int 3))) (LS ns (some (.cell 0)) c (c % 4) none none none none none) = M.ret (decide (c % 4 = 3)) := testF (eqIF rfl rfl)
      by_cases h : c % 4 = 3
      · obtain ⟨μ2, ls2, hA2, e⟩ := pop_at (ns := ns) (c := c) (w := c % 4) hA1 ne1 (by omega)
        exact ⟨μ2, ls2, hA2, by rw [if_t (at_ret (by rw [tt, decide_eq_true h])), e]⟩
      · exact ⟨μ1, ls1, hA1, by rw [if_f (at_ret (by rw [tt, decide_eq_false h]))]; rfl⟩
    obtain ⟨μ2, ls2, hA2, e6⟩ := step5
    rw [seq_nx e6]
    -- other lines alone
    have step6 : ∃ s1 μ3 ls3, At μ3 s1 191 ls3 ∧ mIfS (mTest (mOp2 (mEq false) (mOp2 fMod (mOp2 fDiv (mVar 2) (mC (.int 4))) (mC (.int 9))) (mC (.int 8)))) (mAsg (gNameM 1) (mComp true (mRng1 (mCons (mOp2 fMod (mOp2 fDiv (mVar 2) (mC (.int 36))) (mC (.int 3))) mNil)) (gNameM 4) mYes (mCallP 1 l_odd_line (mCons (mCallP 2 l_cell_at (mCons (mVar 0) (mCons (mVar 4) mNil))) mNil)) [4])) mNext
        (LS ns (some (.cell 0)) c (c % 4) none none none none none) μ2 = some (.nx (LS ns s1 c (c % 4) none none none none none), μ3) := by
      have tt : mTest (mOp2 (mEq false) (mOp2 fMod (mOp2 fDiv (mVar 2) (mC (.int 4))) (mC (.int 9))) (mC (.int 8))) (LS ns (some (.cell 0)) c (c % 4) none none none none none) = M.ret (decide (c / 4 % 9 = 8)) :=
        testF (eqIF (modF (divF rfl rfl (by decide) (by decide)) rfl (by decide)) rfl)
      by_cases h : c / 4 % 9 = 8
      · obtain ⟨k, hk, hk2⟩ := mod_nat (x := c / 36) (y := 3) (by decide)
        have ec : mComp true (mRng1 (mCons (mOp2 fMod (mOp2 fDiv (mVar 2) (mC (.int 36))) (mC (.int 3))) mNil)) (gNameM 4) mYes (mCallP 1 l_odd_line (mCons (mCallP 2 l_cell_at (mCons (mVar 0) (mCons (mVar 4) mNil))) mNil)) [4] (LS ns (some (.cell 0)) c (c % 4) none none none none none) μ2 =
            some (.ok (.cell μ2.length), μ2 ++ [(List.range k).map fun i => strM (oddF (cellV ns i))]) :=
          compN (e := fun i : Nat => PyData.int (0 + (i : Int))) (f := fun i => strM (oddF (cellV ns i))) (l := List.range k) (by
            rw [rng1F (n := k) (by rw [← hk]; exact modF (divF rfl rfl (by decide) (by decide)) rfl (by decide)) (by omega)]
            unfold rangeI
            rw [List.map_map]
            rfl) (by rw [List.length_range]; omega) fun i hi => ⟨_, rfl, by
              refine callF (k := 1) (xs := [.sh (.int (cellV ns i))]) ?_ ⟨rfl, rfl⟩ (oddF_ok _).2
              rw [mCons_ev, cellF (k := i) (ns := ns) (c := cellV ns i) rfl (by
                show M.ret (MV.sh (PyData.int (0 + (i : Int)))) = _
                rw [Int.zero_add]) (cell_v ns i)]
              rfl⟩
        refine ⟨some (.cell μ2.length), μ2 ++ [(List.range k).map fun i => strM (oddF (cellV ns i))], (List.range k).map fun i => oddF (cellV ns i), ⟨μ2.length, rfl, ?_, fun l hl => ?_, ?_⟩, ?_⟩
        · rw [List.getElem?_append_right (Nat.le_refl _), Nat.sub_self, List.map_map]
          rfl
        · obtain ⟨i, _, rfl⟩ := List.mem_map.mp hl
          exact (oddF_ok _).1
        · rw [List.length_map, List.length_range]
          omega
        · rw [if_t (at_ret (by rw [tt, decide_eq_true h])), asg_at ec]
          rfl
      · exact ⟨some (.cell 0), μ2, ls2, hA2, by rw [if_f (at_ret (by rw [tt, decide_eq_false h]))]; rfl⟩
    obtain ⟨s1, μ3, ls3, hA3, e7⟩ := step6
    rw [seq_nx e7]
    obtain ⟨i, rfl, hi, ok3⟩ := hA3
    -- the text
    obtain ⟨t, okT, et⟩ := text_by_ok hb ok3
    obtain ⟨hl, hn⟩ := okT.split
    have hz := okT.l
    rw [seq_nx (asg_at (x := .sh (.str t)) (mCallQ_at (k := 2) (xs := [.scr ns, .cell i]) (d := .str t) rfl rfl (peek_lines hi) et rfl))]
    show ∃ μ, mSeq _ _ (LS ns (some (.cell i)) c (c % 4) (some (strM t)) none none none none) μ3 = _
    have enet : mCallP 1 l_net_of (mCons (mStrM fSplit (mVar 5) (mCons (mC (.str "\n")) mNil)) mNil) (LS ns (some (.cell i)) c (c % 4) (some (strM t)) none none none none) = M.ret (.sh (netO (readP t))) := by
      rw [end_str]
      refine callF (k := 1) (xs := [.sh (strsL (Txt.split t ⟨#[10]⟩))]) ?_ ⟨rfl, rfl⟩ (net_of_ok hl (by omega))
      rw [mCons_ev, splitF (x := t) rfl rfl hz]
      rfl
    rw [seq_nx (asg_at (at_ret enet))]
    show ∃ μ, mSeq _ _ (LS ns (some (.cell i)) c (c % 4) (some (strM t)) (some (.sh (netO (readP t)))) none none none) μ3 = _
    -- what is due, and what is found
    have pre : ∀ {due : Str} {b : MS} {r : Option (Out × Mu)}, l_due [.sh (netO (readP t))] = some (.ok (.str due)) →
        b (LS ns (some (.cell i)) c (c % 4) (some (strM t)) (some (.sh (netO (readP t)))) (some (strM due)) (some (strM "")) (some (.sh .none))) μ3 = r →
        mSeq (mAsg (gNameM 7) (mCallP 1 l_due (mCons (mVar 6) mNil))) (mSeq (mAsg (gNameM 8) (mC (.str ""))) (mSeq (mAsg (gNameM 9) (mC .none)) b)) (LS ns (some (.cell i)) c (c % 4) (some (strM t)) (some (.sh (netO (readP t)))) none none none) μ3 = r := fun {due b r} hd hb' => by
      rw [seq_nx (asg_at (at_ret (callF (k := 1) (xs := [.sh (netO (readP t))]) rfl ⟨rfl, rfl⟩ hd)))]
      rw [seq_nx (asg_at (at_ret rfl)), seq_nx (asg_at (at_ret rfl))]
      exact hb'
    have bad : ∀ (due : Str) (k : Nat), l_due [.sh (netO (readP t))] = some (.ok (.str due)) → read [.sh (.str t)] = some (.exc k) → (k = 1 ∧ due = "pipe" ∨ k = 2 ∧ due = "order" ∨ k = 3 ∧ due = "note") →
        mSeq (mTry (mAsg (gNameM 9) (mCallP 1 read (mCons (mVar 5) mNil))) [(exF_BadNote, (mAsg (gNameM 8) (mC (.str "note")))), (exF_NoPipe, (mAsg (gNameM 8) (mC (.str "pipe")))), (exF_NoOrder, (mAsg (gNameM 8) (mC (.str "order"))))])
          (mSeq (mIfS (mTest (mOp2 (mEq true) (mVar 8) (mVar 7))) (mRet (mC (.bool false))) mNext)
          (mSeq (mIfS (mTest (mOp2 (mEq true) (mVar 7) (mC (.str "")))) (mRet (mCallP 1 l_refused_by_any (mCons (mVar 5) mNil))) mNext)
          (mRet (mAndV (mIsi .tuple (mVar 9)) (mOp2 (mEq false) (mVar 9) (mVar 6))))))
          (LS ns (some (.cell i)) c (c % 4) (some (strM t)) (some (.sh (netO (readP t)))) (some (strM due)) (some (strM "")) (some (.sh .none))) μ3 = some (.rt (.sh (.bool true)), μ3) := fun due k hd hr hk => by
      have hne : ¬ due = "" := by rcases hk with ⟨_, z⟩ | ⟨_, z⟩ | ⟨_, z⟩ <;> rw [z] <;> decide +kernel
      have et1 : mTry (mAsg (gNameM 9) (mCallP 1 read (mCons (mVar 5) mNil))) [(exF_BadNote, (mAsg (gNameM 8) (mC (.str "note")))), (exF_NoPipe, (mAsg (gNameM 8) (mC (.str "pipe")))), (exF_NoOrder, (mAsg (gNameM 8) (mC (.str "order"))))]
          (LS ns (some (.cell i)) c (c % 4) (some (strM t)) (some (.sh (netO (readP t)))) (some (strM due)) (some (strM "")) (some (.sh .none))) μ3 = some (.nx (LS ns (some (.cell i)) c (c % 4) (some (strM t)) (some (.sh (netO (readP t)))) (some (strM due)) (some (strM due)) (some (.sh .none))), μ3) := by
        unfold mTry
        rw [asgX (callX (k := 1) (xs := [.sh (.str t)]) rfl ⟨rfl, rfl⟩ hr)]
        rcases hk with ⟨rfl, rfl⟩ | ⟨rfl, rfl⟩ | ⟨rfl, rfl⟩ <;> rfl
      rw [seq_nx et1, seq_nx (δ' := LS ns (some (.cell i)) c (c % 4) (some (strM t)) (some (.sh (netO (readP t)))) (some (strM due)) (some (strM due)) (some (.sh .none))) (μ' := μ3) (by
        rw [if_f (at_ret (by
          rw [testF (eqSF (x := due) (y := due) rfl rfl), decide_eq_true rfl]
          rfl))]
        rfl)]
      rw [seq_rt (x := .sh (.bool true)) (μ' := μ3)]
      rw [if_t (at_ret (by
        rw [testF (eqSF (x := due) (y := "") rfl rfl), decide_eq_false hne]
        rfl))]
      exact ret_at (at_ret (callF (k := 1) (xs := [.sh (.str t)]) rfl ⟨rfl, rfl⟩ (refused_ok hr (by rcases hk with ⟨z, _⟩ | ⟨z, _⟩ | ⟨z, _⟩ <;> omega))))
    refine ⟨μ3, ?_⟩
    rcases read_ok (text := t) hz hl (by omega) (fun ps rows h => readP_size h hn) with ⟨hR, hr⟩ | ⟨ps, rows, hR, hcase⟩
    · have hd : l_due [.sh (netO (readP t))] = some (.ok (.str "note")) := by rw [hR]; exact due_none
      exact pre hd (bad _ 3 hd hr (.inr (.inr ⟨rfl, rfl⟩)))
    · have hnn := readP_nonneg hR hl
      have hnet : netO (readP t) = Datum.toD ((ps, rows) : Net) := by rw [hR]; rfl
      rcases hcase with ⟨hP, hr⟩ | ⟨hP, hO, hr⟩ | ⟨hP, hO, hr⟩
      · have hd : l_due [.sh (netO (readP t))] = some (.ok (.str "pipe")) := by
          rw [hnet]
          rcases due_ok hnn with ⟨_, e⟩ | ⟨z, _, _⟩ | ⟨z, _, _⟩
          · exact e
          · exact absurd z hP
          · exact absurd z hP
        exact pre hd (bad _ 1 hd hr (.inl ⟨rfl, rfl⟩))
      · have hd : l_due [.sh (netO (readP t))] = some (.ok (.str "order")) := by
          rw [hnet]
          rcases due_ok hnn with ⟨z, _⟩ | ⟨_, _, e⟩ | ⟨_, z, _⟩
          · exact absurd hP z
          · exact e
          · exact absurd z hO
        exact pre hd (bad _ 2 hd hr (.inr (.inl ⟨rfl, rfl⟩)))
      · have hd : l_due [.sh (netO (readP t))] = some (.ok (.str "")) := by
          rw [hnet]
          rcases due_ok hnn with ⟨z, _⟩ | ⟨_, z, _⟩ | ⟨_, _, e⟩
          · exact absurd hP z
          · exact absurd hO z
          · exact e
        refine pre hd ?_
        have et1 : mTry (mAsg (gNameM 9) (mCallP 1 read (mCons (mVar 5) mNil))) [(exF_BadNote, (mAsg (gNameM 8) (mC (.str "note")))), (exF_NoPipe, (mAsg (gNameM 8) (mC (.str "pipe")))), (exF_NoOrder, (mAsg (gNameM 8) (mC (.str "order"))))]
            (LS ns (some (.cell i)) c (c % 4) (some (strM t)) (some (.sh (netO (readP t)))) (some (strM "")) (some (strM "")) (some (.sh .none))) μ3 = some (.nx (LS ns (some (.cell i)) c (c % 4) (some (strM t)) (some (.sh (netO (readP t)))) (some (strM "")) (some (strM "")) (some (.sh (Datum.toD ((ps, rows) : Net))))), μ3) := by
          unfold mTry
          rw [asgF (callF (k := 1) (xs := [.sh (.str t)]) rfl ⟨rfl, rfl⟩ hr)]
          rfl
        rw [seq_nx et1, seq_nx (δ' := LS ns (some (.cell i)) c (c % 4) (some (strM t)) (some (.sh (netO (readP t)))) (some (strM "")) (some (strM "")) (some (.sh (Datum.toD ((ps, rows) : Net))))) (μ' := μ3) (by
          rw [if_f (at_ret (by
            rw [testF (eqSF (x := "") (y := "") rfl rfl), decide_eq_true rfl]
            rfl))]
          rfl), seq_nx (δ' := LS ns (some (.cell i)) c (c % 4) (some (strM t)) (some (.sh (netO (readP t)))) (some (strM "")) (some (strM "")) (some (.sh (Datum.toD ((ps, rows) : Net))))) (μ' := μ3) (by
          rw [if_f (at_ret (by
            rw [testF (eqSF (x := "") (y := "") rfl rfl), decide_eq_true rfl]
            rfl))]
          rfl)]
        refine ret_at (at_ret (andVF (x := true) (y := true) (isiF rfl rfl) ?_))
        rw [mOp2_ev, hnet]
        show mEq false (.sh (Datum.toD ((ps, rows) : Net))) (.sh (Datum.toD ((ps, rows) : Net))) = _
        rw [mEq_dat (by decide), decide_eq_true rfl]
        rfl
  obtain ⟨μ, e⟩ := key
  exact bodyP_rt_at e peek_sh
end LW

open PySem PySem.W PyProof.Rows
set_option maxRecDepth 100000 in
set_option maxHeartbeats 0 in
theorem PySem.Challenge.cw_pipelinecut_k06_texts_read_holds : PySem.Challenge.rw_pipelinecut_k06_texts_read.Holds := by
  w_on; o_law; k_head; (case hw => w_witness2)
  k_fill
  refine L2.walk_ofB (l := PySem.Challenge.rw_pipelinecut_k06_texts_read) (n := 63) (k := 6) (x := "_law_script") (CX := fun w => L2N.CX PySem.Challenge.rw_pipelinecut_k06_texts_read.prog w) (sp := fun w => PD.spL _ LW.law) rfl (by decide) rfl ⟨rfl, by decide, by decide⟩ (fun w h Y => PySem.W.kIn_of Y) ?F (fun w H a ns hl hb _ hS => ⟨a, ns, rfl, hS, LW.main ns hl hb, fun _ => rfl⟩) (fun w H s e s' h => PD.cxN_end h)
  case F =>
    intro w mg fa h KX G hmg
    refine' LW.all_mk KX G hmg ?a12 ?l12 ?c12 ?k12 ?a13 ?l13 ?c13 ?k13 ?a11 ?l11 ?c11 ?k11 ?a10 ?l10 ?c10 ?k10 ?a18 ?l18 ?c18 ?k18 ?a17 ?l17 ?c17 ?k17 ?a16 ?l16 ?c16 ?k16 ?a15 ?l15 ?c15 ?k15 ?a21 ?l21 ?c21 ?k21 ?a22 ?l22 ?c22 ?k22 ?a23 ?l23 ?c23 ?k23 ?a24 ?l24 ?c24 ?k24 ?a25 ?l25 ?c25 ?k25 ?a26 ?l26 ?c26 ?k26 ?a27 ?l27 ?c27 ?k27 ?a28 ?l28 ?c28 ?k28 ?a29 ?l29 ?c29 ?k29 ?a31 ?l31 ?c31 ?k31 ?a32 ?l32 ?c32 ?k32 ?a30 ?l30 ?c30 ?k30 ?z_ValueError ?z_all ?z_enumerate ?z_int ?z_isinstance ?z_len ?z_list ?z_min ?z_range ?z_str ?z_tuple ?c_MOST_ROOM ?gc_NetError ?gc_NoPipe ?gc_NoOrder ?gc_NoWorker ?gc_IsThrough ?gc_HasToWait ?gc_BadNote ?kc_NoPipe ?xc_NoPipe ?bc_NoPipe ?tc_NoPipe ?kc_NoOrder ?xc_NoOrder ?bc_NoOrder ?tc_NoOrder ?kc_BadNote ?xc_BadNote ?bc_BadNote ?tc_BadNote ?tc_NetError ?bc_NetError ?ic_NetError ?ic_NoPipe ?ic_NoOrder ?tc_NoWorker ?ic_NoWorker ?tc_IsThrough ?ic_IsThrough ?tc_HasToWait ?ic_HasToWait ?ic_BadNote ?su_NoPipe_NetError ?su_NoPipe_NoPipe ?su_NoPipe_NoOrder ?su_NoPipe_NoWorker ?su_NoPipe_IsThrough ?su_NoPipe_HasToWait ?su_NoPipe_BadNote ?su_NoPipe_ValueError ?su_NoOrder_NetError ?su_NoOrder_NoPipe ?su_NoOrder_NoOrder ?su_NoOrder_NoWorker ?su_NoOrder_IsThrough ?su_NoOrder_HasToWait ?su_NoOrder_BadNote ?su_NoOrder_ValueError ?su_BadNote_NetError ?su_BadNote_NoPipe ?su_BadNote_NoOrder ?su_BadNote_NoWorker ?su_BadNote_IsThrough ?su_BadNote_HasToWait ?su_BadNote_BadNote ?su_BadNote_ValueError ?hg_NoPipe ?hk_NoPipe ?hs_NoPipe ?hd_NoPipe ?ha_NoPipe ?hn_NoPipe ?ht_NoPipe ?hm_NoPipe ?hg_NoOrder ?hk_NoOrder ?hs_NoOrder ?hd_NoOrder ?ha_NoOrder ?hm_NoOrder ?hg_BadNote ?hk_BadNote ?hs_BadNote ?hd_BadNote ?ha_BadNote ?hm_BadNote
    (case a12 => k_is); (case l12 => k_is); (case c12 => k_is); (case k12 => k_is); (case a13 => k_is); (case l13 => k_is); (case c13 => k_is); (case k13 => k_is); (case a11 => k_is); (case l11 => k_is); (case c11 => k_is); (case k11 => k_is); (case a10 => k_is); (case l10 => k_is); (case c10 => k_is); (case k10 => k_is); (case a18 => k_is); (case l18 => k_is); (case c18 => k_is); (case k18 => k_is); (case a17 => k_is); (case l17 => k_is); (case c17 => k_is); (case k17 => k_is); (case a16 => k_is); (case l16 => k_is); (case c16 => k_is); (case k16 => k_is); (case a15 => k_is); (case l15 => k_is); (case c15 => k_is); (case k15 => k_is); (case a21 => k_is); (case l21 => k_is); (case c21 => k_is); (case k21 => k_is); (case a22 => k_is); (case l22 => k_is); (case c22 => k_is); (case k22 => k_is); (case a23 => k_is); (case l23 => k_is); (case c23 => k_is); (case k23 => k_is); (case a24 => k_is); (case l24 => k_is); (case c24 => k_is); (case k24 => k_is); (case a25 => k_is); (case l25 => k_is); (case c25 => k_is); (case k25 => k_is); (case a26 => k_is); (case l26 => k_is); (case c26 => k_is); (case k26 => k_is); (case a27 => k_is); (case l27 => k_is); (case c27 => k_is); (case k27 => k_is); (case a28 => k_is); (case l28 => k_is); (case c28 => k_is); (case k28 => k_is); (case a29 => k_is); (case l29 => k_is); (case c29 => k_is); (case k29 => k_is); (case a31 => k_is); (case l31 => k_is); (case c31 => k_is); (case k31 => k_is); (case a32 => k_is); (case l32 => k_is); (case c32 => k_is); (case k32 => k_is); (case a30 => k_is); (case l30 => k_is); (case c30 => k_is); (case k30 => k_is); (case z_ValueError => k_is); (case z_all => k_is); (case z_enumerate => k_is); (case z_int => k_is); (case z_isinstance => k_is); (case z_len => k_is); (case z_list => k_is); (case z_min => k_is); (case z_range => k_is); (case z_str => k_is); (case z_tuple => k_is); (case c_MOST_ROOM => k_is); (case gc_NetError => k_is); (case gc_NoPipe => k_is); (case gc_NoOrder => k_is); (case gc_NoWorker => k_is); (case gc_IsThrough => k_is); (case gc_HasToWait => k_is); (case gc_BadNote => k_is); (case kc_NoPipe => k_is); (case xc_NoPipe => k_exc); (case bc_NoPipe => k_is); (case tc_NoPipe => k_is); (case kc_NoOrder => k_is); (case xc_NoOrder => k_exc); (case bc_NoOrder => k_is); (case tc_NoOrder => k_is); (case kc_BadNote => k_is); (case xc_BadNote => k_exc); (case bc_BadNote => k_is); (case tc_BadNote => k_is); (case tc_NetError => k_is); (case bc_NetError => k_is); (case ic_NetError => k_is); (case ic_NoPipe => k_is); (case ic_NoOrder => k_is); (case tc_NoWorker => k_is); (case ic_NoWorker => k_is); (case tc_IsThrough => k_is); (case ic_IsThrough => k_is); (case tc_HasToWait => k_is); (case ic_HasToWait => k_is); (case ic_BadNote => k_is); (case su_NoPipe_NetError => k_is); (case su_NoPipe_NoPipe => k_is); (case su_NoPipe_NoOrder => k_is); (case su_NoPipe_NoWorker => k_is); (case su_NoPipe_IsThrough => k_is); (case su_NoPipe_HasToWait => k_is); (case su_NoPipe_BadNote => k_is); (case su_NoPipe_ValueError => k_is); (case su_NoOrder_NetError => k_is); (case su_NoOrder_NoPipe => k_is); (case su_NoOrder_NoOrder => k_is); (case su_NoOrder_NoWorker => k_is); (case su_NoOrder_IsThrough => k_is); (case su_NoOrder_HasToWait => k_is); (case su_NoOrder_BadNote => k_is); (case su_NoOrder_ValueError => k_is); (case su_BadNote_NetError => k_is); (case su_BadNote_NoPipe => k_is); (case su_BadNote_NoOrder => k_is); (case su_BadNote_NoWorker => k_is); (case su_BadNote_IsThrough => k_is); (case su_BadNote_HasToWait => k_is); (case su_BadNote_BadNote => k_is); (case su_BadNote_ValueError => k_is); (case hg_NoPipe => k_is); (case hk_NoPipe => k_is); (case hs_NoPipe => k_is); (case hd_NoPipe => k_is); (case ha_NoPipe => k_is); (case hn_NoPipe => k_is); (case ht_NoPipe => k_is); (case hm_NoPipe => k_is); (case hg_NoOrder => k_is); (case hk_NoOrder => k_is); (case hs_NoOrder => k_is); (case hd_NoOrder => k_is); (case ha_NoOrder => k_is); (case hm_NoOrder => k_is); (case hg_BadNote => k_is); (case hk_BadNote => k_is); (case hs_BadNote => k_is); (case hd_BadNote => k_is); (case ha_BadNote => k_is); (case hm_BadNote => k_is)

