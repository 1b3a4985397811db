import PyProof.Rows.All
import Wide.All
import OpenK.AllK
import Wide.FinOn
import HandS.ForMost
import HandS.Exc
import HandS.TryOnly
import HandS.TryMany
import HandS.ExcOwn
import HandS.WordsExc
import HandS.IsInst
import HandS.ExcIs
import HandS.FStr
import HandS.TupMul
import HandS.TupAny
import HandS.Conv
import HandS.Deep
import HandS.Strs
import HandS.SetKeys
import HandS.SetFor
import HandS.Zip
import HandS.RevRange
import HandS.RaiseMore
import HandS.Sort
import HandS.Codes
import KE.DataFind
import HandS.Walk
import KE.KExcIs
import KE.KIsAll
import PyProof.Rows.CountFlat
import PyProof.Rows.AssignMoreSeq
import PySem.Challenge.RW_barrierrow_k05_a_gate_that_counts
set_option Elab.async false
set_option linter.all false
set_option maxRecDepth 100000
set_option maxHeartbeats 4000000
/-! Data and owned lists over the hand layer: a logic whose states speak of plain data. -/
namespace DL
open PySem PySem.Spec PyProof.Rows L2

/-! ### plain data -/
inductive Dt where
  | non | bl (b : Bool) | int (i : Int) | str (x : Str) | lst (ds : List Dt) | tup (ds : List Dt) | scr (ds : List Dt) | nup (ds : List Dt)
  | ins (C : Addr) (ns : List Str) (ds : List Dt)
/-- what a place holds: nothing known, data, a raw value (an owned list's address) -/
inductive Sl where
  | un | dat (d : Dt) | raw (v : V)
abbrev Rho := List Sl
abbrev OH := Addr → Option (List Sl)
def OH0 : OH := fun _ => none
def oset (M : OH) (p : Addr) (xs : List Sl) : OH := fun a => if a = p then some xs else M a
def odel (M : OH) (p : Addr) : OH := fun a => if a = p then none else M a
theorem oset_same {M : OH} {p : Addr} {xs : List Sl} : oset M p xs p = some xs := by unfold oset; rw [if_pos rfl]
theorem oset_ne {M : OH} {p q : Addr} {xs : List Sl} (h : q ≠ p) : oset M p xs q = M q := by unfold oset; rw [if_neg h]
theorem odel_oset {M : OH} {p : Addr} {xs : List Sl} (h : M p = none) : odel (oset M p xs) p = M := by
  funext a; unfold odel oset
  by_cases e : a = p
  · rw [if_pos e, e, h]
  · rw [if_neg e, if_neg e]
theorem oset_oset {M : OH} {p : Addr} {xs ys : List Sl} : oset (oset M p xs) p ys = oset M p ys := by
  funext a; unfold oset
  by_cases e : a = p
  · rw [if_pos e, if_pos e]
  · rw [if_neg e, if_neg e, if_neg e]

mutual
def DA (K : PySem.W.Frag) (H : Hp) : Dt → V → Prop
  | .non, v => v = .non
  | .bl b, v => v = .bl b
  | .int i, v => v = .int i
  | .str x, v => v = .str x
  | .lst ds, v => ∃ a vs, v = .ref a ∧ H a = some (.lst vs) ∧ DAs K H ds vs
  | .scr ds, v => ∃ a vs, v = .ref a ∧ SqL K H a vs ∧ DAs K H ds vs
  | .tup ds, v => ∃ a vs, v = .ref a ∧ SqT K H a vs ∧ DAs K H ds vs
  | .nup ds, v => ∃ a o vs, v = .ref a ∧ H a = some (.frz o (.tup vs)) ∧ o.cls = .type "tuple" ∧ o.dict = none ∧ DAs K H ds vs
  | .ins C ns ds, v => ∃ a dx vs, v = .ref a ∧ H a = some (.ins C dx (ns.zip vs)) ∧ vs.length = ns.length ∧ DAs K H ds vs
def DAs (K : PySem.W.Frag) (H : Hp) : List Dt → List V → Prop
  | [], vs => vs = []
  | d :: ds, vs => ∃ v r, vs = v :: r ∧ DA K H d v ∧ DAs K H ds r
end
section
variable {K : PySem.W.Frag} {H H' : Hp}
mutual
theorem DA.mono (e : Same H H') : ∀ {d : Dt} {v : V}, DA K H d v → DA K H' d v
  | .non, _, h => h
  | .bl _, _, h => h
  | .int _, _, h => h
  | .str _, _, h => h
  | .lst ds, _, h => by
    unfold DA at h ⊢
    obtain ⟨a, vs, e1, e2, e3⟩ := h
    exact ⟨a, vs, e1, e _ _ e2, DAs.mono e e3⟩
  | .scr ds, _, h => by
    unfold DA at h ⊢
    obtain ⟨a, vs, e1, e2, e3⟩ := h
    exact ⟨a, vs, e1, e.seq e2, DAs.mono e e3⟩
  | .nup ds, _, h => by
    unfold DA at h ⊢
    obtain ⟨a, o, vs, e1, e2, e3, e4, e5⟩ := h
    exact ⟨a, o, vs, e1, e _ _ e2, e3, e4, DAs.mono e e5⟩
  | .tup ds, _, h => by
    unfold DA at h ⊢
    obtain ⟨a, vs, e1, e2, e3⟩ := h
    refine ⟨a, vs, e1, ?_, DAs.mono e e3⟩
    rcases e2 with (e2 | ⟨o, e2⟩) | e2
    · exact .inl (.inl (e _ _ e2))
    · exact .inl (.inr ⟨o, e _ _ e2⟩)
    · exact .inr e2
  | .ins C ns ds, _, h => by
    unfold DA at h ⊢
    obtain ⟨a, dx, vs, e1, e2, e4, e3⟩ := h
    exact ⟨a, dx, vs, e1, e _ _ e2, e4, DAs.mono e e3⟩
theorem DAs.mono (e : Same H H') : ∀ {ds : List Dt} {vs : List V}, DAs K H ds vs → DAs K H' ds vs
  | [], _, h => by unfold DAs at h ⊢; exact h
  | d :: ds, _, h => by
    unfold DAs at h ⊢
    obtain ⟨v, r, e1, e2, e3⟩ := h
    exact ⟨v, r, e1, DA.mono e e2, DAs.mono e e3⟩
end
theorem DAs.paired : ∀ {ds : List Dt} {vs : List V}, DAs K H ds vs → Paired (fun v d => DA K H d v) vs ds
  | [], vs, h => by unfold DAs at h; subst h; exact .nil
  | d :: ds, vs, h => by
    unfold DAs at h
    obtain ⟨v, r, rfl, e2, e3⟩ := h
    exact .cons e2 e3.paired
theorem DAs.of : ∀ {ds : List Dt} {vs : List V}, Paired (fun v d => DA K H d v) vs ds → DAs K H ds vs
  | _, _, .nil => by unfold DAs; rfl
  | _, _, .cons h t => by unfold DAs; exact ⟨_, _, rfl, h, DAs.of t⟩
theorem DAs.len {ds : List Dt} {vs : List V} (h : DAs K H ds vs) : vs.length = ds.length := h.paired.length
end
theorem paired_get {α β : Type} {F : α → β → Prop} : ∀ {l₁ : List α} {l₂ : List β} {i : Nat} {b : β}, Paired F l₁ l₂ → l₂[i]? = some b → ∃ a, l₁[i]? = some a ∧ F a b
  | _, _, _, _, .nil, e => by simp at e
  | _, _, 0, _, .cons r _, e => by simp at e; subst e; exact ⟨_, rfl, r⟩
  | _, _, i + 1, _, .cons _ t, e => by
    obtain ⟨u, h1, h2⟩ := paired_get (i := i) t (by simpa using e)
    exact ⟨u, by simpa using h1, h2⟩
theorem paired_get' {α β : Type} {F : α → β → Prop} : ∀ {l₁ : List α} {l₂ : List β} {i : Nat} {a : α}, Paired F l₁ l₂ → l₁[i]? = some a → ∃ b, l₂[i]? = some b ∧ F a b
  | _, _, _, _, .nil, e => by simp at e
  | _, _, 0, _, .cons r _, e => by simp at e; subst e; exact ⟨_, rfl, r⟩
  | _, _, i + 1, _, .cons _ t, e => by
    obtain ⟨u, h1, h2⟩ := paired_get' (i := i) t (by simpa using e)
    exact ⟨u, by simpa using h1, h2⟩
theorem paired_set {α β : Type} {F : α → β → Prop} {a : α} {b : β} (r : F a b) : ∀ {l₁ : List α} {l₂ : List β} (i : Nat), Paired F l₁ l₂ → Paired F (l₁.set i a) (l₂.set i b)
  | _, _, _, .nil => .nil
  | _, _, 0, .cons _ t => .cons r t
  | _, _, i + 1, .cons q t => .cons q (paired_set r i t)
theorem paired_append {α β : Type} {F : α → β → Prop} : ∀ {l₁ r₁ : List α} {l₂ r₂ : List β}, Paired F l₁ l₂ → Paired F r₁ r₂ → Paired F (l₁ ++ r₁) (l₂ ++ r₂)
  | _, _, _, _, .nil, s => s
  | _, _, _, _, .cons r t, s => .cons r (paired_append t s)
theorem paired_map {α β γ : Type} {F : α → γ → Prop} {f : β → γ} : ∀ {l₁ : List α} {l₂ : List β}, Paired F l₁ (l₂.map f) ↔ Paired (fun a b => F a (f b)) l₁ l₂
  | l₁, [] => ⟨fun h => by cases h; exact .nil, fun h => by cases h; exact .nil⟩
  | l₁, b :: l₂ => ⟨fun h => by cases h with | cons r t => exact .cons r (paired_map.mp t), fun h => by cases h with | cons r t => exact .cons r (paired_map.mpr t)⟩
theorem paired_erase {α β : Type} {F : α → β → Prop} : ∀ {l₁ : List α} {l₂ : List β} (i : Nat), Paired F l₁ l₂ → Paired F (l₁.eraseIdx i) (l₂.eraseIdx i)
  | _, _, _, .nil => .nil
  | _, _, 0, .cons _ t => t
  | _, _, i + 1, .cons q t => .cons q (paired_erase i t)
theorem paired_rev {α β : Type} {F : α → β → Prop} : ∀ {l₁ : List α} {l₂ : List β}, Paired F l₁ l₂ → Paired F l₁.reverse l₂.reverse
  | _, _, .nil => .nil
  | _, _, .cons q t => by
    rw [List.reverse_cons, List.reverse_cons]
    exact paired_append (paired_rev t) (.cons q .nil)
theorem paired_take {α β : Type} {F : α → β → Prop} : ∀ {l₁ : List α} {l₂ : List β} (i : Nat), Paired F l₁ l₂ → Paired F (l₁.take i) (l₂.take i)
  | _, _, 0, _ => .nil
  | _, _, _ + 1, .nil => .nil
  | _, _, i + 1, .cons q t => .cons q (paired_take i t)
theorem paired_drop {α β : Type} {F : α → β → Prop} : ∀ {l₁ : List α} {l₂ : List β} (i : Nat), Paired F l₁ l₂ → Paired F (l₁.drop i) (l₂.drop i)
  | _, _, 0, h => h
  | _, _, _ + 1, .nil => .nil
  | _, _, i + 1, .cons q t => paired_drop i t
theorem paired_rep {α β : Type} {F : α → β → Prop} {l₁ : List α} {l₂ : List β} (h : Paired F l₁ l₂) : ∀ k : Nat, Paired F (List.replicate k l₁).flatten (List.replicate k l₂).flatten
  | 0 => .nil
  | k + 1 => by
    rw [List.replicate_succ, List.replicate_succ, List.flatten_cons, List.flatten_cons]
    exact paired_append h (paired_rep h k)

def SlOk (K : PySem.W.Frag) (H : Hp) (v : V) : Sl → Prop
  | .un => True
  | .dat d => DA K H d v
  | .raw u => v = u
theorem SlOk.mono {K : PySem.W.Frag} {H H' : Hp} (e : Same H H') {v : V} : ∀ {s : Sl}, SlOk K H v s → SlOk K H' v s
  | .un, h => h
  | .dat _, h => DA.mono e h
  | .raw _, h => h
abbrev SlsOk (K : PySem.W.Frag) (H : Hp) : List V → List Sl → Prop := Paired (SlOk K H)
theorem SlsOk.mono {K : PySem.W.Frag} {H H' : Hp} (e : Same H H') {vs : List V} {xs : List Sl} (h : SlsOk K H vs xs) : SlsOk K H' vs xs := Paired.mono (fun _ _ r => SlOk.mono e r) h
theorem SlsOk.das {K : PySem.W.Frag} {H : Hp} {vs : List V} {ds : List Dt} : SlsOk K H vs (ds.map .dat) ↔ DAs K H ds vs :=
  ⟨fun h => DAs.of (paired_map.mp h), fun h => paired_map.mpr h.paired⟩
/-- a frame's place -/
def PlOk (K : PySem.W.Frag) (H : Hp) (o : Option V) : Sl → Prop
  | .un => True
  | .dat d => ∃ v, o = some v ∧ DA K H d v
  | .raw u => o = some u
theorem PlOk.mono {K : PySem.W.Frag} {H H' : Hp} (e : Same H H') {v : Option V} : ∀ {s : Sl}, PlOk K H v s → PlOk K H' v s
  | .un, h => h
  | .dat _, ⟨v, e1, h⟩ => ⟨v, e1, DA.mono e h⟩
  | .raw _, h => h
theorem PlOk.of {K : PySem.W.Frag} {H : Hp} {v : V} : ∀ {s : Sl}, SlOk K H v s → PlOk K H (some v) s
  | .un, _ => trivial
  | .dat _, h => ⟨v, rfl, h⟩
  | .raw _, h => congrArg some h
abbrev EnvOk (K : PySem.W.Frag) (H : Hp) : L2.St → Rho → Prop := Paired (PlOk K H)
theorem EnvOk.mono {K : PySem.W.Frag} {H H' : Hp} (e : Same H H') {σ : L2.St} {ρ : Rho} (h : EnvOk K H σ ρ) : EnvOk K H' σ ρ := Paired.mono (fun _ _ r => PlOk.mono e r) h
theorem EnvOk.set {K : PySem.W.Frag} {H : Hp} {σ : L2.St} {ρ : Rho} {v : V} {s : Sl} (i : Nat) (h : EnvOk K H σ ρ) (r : SlOk K H v s) : EnvOk K H (σ.set i (some v)) (ρ.set i s) := paired_set (PlOk.of r) i h
def wipeR (ρ : Rho) : List Nat → Rho
  | [] => ρ
  | v :: vs => (wipeR ρ vs).set v .un
theorem EnvOk.wipe {K : PySem.W.Frag} {H : Hp} {σ : L2.St} {ρ : Rho} (h : EnvOk K H σ ρ) : ∀ vs : List Nat, EnvOk K H (L2.wipe σ vs) (wipeR ρ vs)
  | [] => h
  | v :: vs => by
    unfold L2.wipe wipeR
    exact paired_set (F := PlOk K H) (a := none) (b := .un) trivial v (EnvOk.wipe h vs)
def known : Sl → Prop
  | .un => False
  | _ => True
theorem EnvOk.get {K : PySem.W.Frag} {H : Hp} {σ : L2.St} {ρ : Rho} {i : Nat} {s : Sl} (h : EnvOk K H σ ρ) (e : ρ[i]? = some s) (k : known s) : ∃ v, σ[i]? = some (some v) ∧ SlOk K H v s := by
  obtain ⟨o, e1, e2⟩ := paired_get h e
  cases s with
  | un => exact k.elim
  | dat d => obtain ⟨v, rfl, q⟩ := e2; exact ⟨v, e1, q⟩
  | raw u => exact ⟨u, by rw [e1]; exact congrArg some e2, rfl⟩

/-! ### the state: frozen data H, owned lists M, all that stands 𝓗 -/
structure Cxt (K : PySem.W.Frag) (B0 H0 : Hp) (M : OH) (H 𝓗 : Hp) : Prop where
  f : Same H0 H
  u : Same H 𝓗
  b : Same B0 𝓗
  n : ∀ a, H a ≠ none → H0 a ≠ none ∨ B0 a = none
  o : ∀ p xs, M p = some xs → H p = none ∧ B0 p = none ∧ ∃ vs, 𝓗 p = some (.lst vs) ∧ SlsOk K H vs xs
theorem same_new {H : Hp} {p : Addr} {o : HO} (h : H p = none) : Same H (upd H p o) := fun b x e => by
  rw [upd_ne (ne_of_none e h)]
  exact e
theorem same_up {H H' : Hp} {p : Addr} {o : HO} (e : Same H H') (h : H p = none) : Same H (upd H' p o) := fun b x q => by
  rw [upd_ne (ne_of_none q h)]
  exact e _ _ q
theorem same_both {H H' : Hp} {p : Addr} {o : HO} (e : Same H H') : Same (upd H p o) (upd H' p o) := fun b x q => by
  by_cases z : b = p
  · subst z; rw [upd_same] at q ⊢; exact q
  · rw [upd_ne z] at q ⊢; exact e _ _ q
section
variable {K : PySem.W.Frag} {B0 H0 H H' 𝓗 : Hp} {M : OH} {p : Addr} {xs : List Sl} {vs : List V} {ds : List Dt}
theorem Cxt.none_of (c : Cxt K B0 H0 M H 𝓗) (h : 𝓗 p = none) : H p = none ∧ B0 p = none ∧ M p = none := by
  refine ⟨?_, ?_, ?_⟩
  · exact c.u.free h
  · exact c.b.free h
  · cases e : M p with
    | none => rfl
    | some xs =>
      obtain ⟨_, _, vs, q, _⟩ := c.o p xs e
      rw [h] at q; cases q
/-- a new owned list -/
theorem Cxt.newL (c : Cxt K B0 H0 M H 𝓗) (h : 𝓗 p = none) (r : SlsOk K H vs xs) : Cxt K B0 H0 (oset M p xs) H (upd 𝓗 p (.lst vs)) := by
  obtain ⟨h1, h2, h3⟩ := c.none_of h
  refine ⟨c.f, same_up c.u h1, same_up c.b h2, c.n, fun q ys e => ?_⟩
  by_cases z : q = p
  · subst z
    rw [oset_same] at e; cases e
    exact ⟨h1, h2, vs, upd_same, r⟩
  · rw [oset_ne z] at e
    obtain ⟨a1, a2, ws, a3, a4⟩ := c.o q ys e
    exact ⟨a1, a2, ws, by rw [upd_ne z]; exact a3, a4⟩
/-- a new frozen object -/
theorem Cxt.newF {o : HO} (c : Cxt K B0 H0 M H 𝓗) (h : 𝓗 p = none) : Cxt K B0 H0 M (upd H p o) (upd 𝓗 p o) ∧ Same H (upd H p o) := by
  obtain ⟨h1, h2, h3⟩ := c.none_of h
  refine ⟨⟨c.f.trans (same_new h1), same_both c.u, same_up c.b h2, fun a q => ?_, fun q ys e => ?_⟩, same_new h1⟩
  · by_cases z : a = p
    · subst z; exact .inr h2
    · rw [upd_ne z] at q; exact c.n a q
  · have z : q ≠ p := fun z => by rw [z, h3] at e; cases e
    obtain ⟨a1, a2, ws, a3, a4⟩ := c.o q ys e
    exact ⟨by rw [upd_ne z]; exact a1, a2, ws, by rw [upd_ne z]; exact a3, a4.mono (same_new h1)⟩
/-- an owned list is written -/
theorem Cxt.wr {ys : List Sl} (c : Cxt K B0 H0 M H 𝓗) (e : M p = some xs) (r : SlsOk K H vs ys) : Cxt K B0 H0 (oset M p ys) H (upd 𝓗 p (.lst vs)) := by
  obtain ⟨h1, h2, us, h3, h4⟩ := c.o p xs e
  refine ⟨c.f, same_up c.u h1, same_up c.b h2, c.n, fun q zs e => ?_⟩
  by_cases z : q = p
  · subst z
    rw [oset_same] at e; cases e
    exact ⟨h1, h2, vs, upd_same, r⟩
  · rw [oset_ne z] at e
    obtain ⟨a1, a2, ws, a3, a4⟩ := c.o q zs e
    exact ⟨a1, a2, ws, by rw [upd_ne z]; exact a3, a4⟩
/-- an owned list of data is frozen -/
theorem Cxt.frz (c : Cxt K B0 H0 M H 𝓗) (e : M p = some (ds.map .dat)) : ∃ H', Cxt K B0 H0 (odel M p) H' 𝓗 ∧ Same H H' ∧ DA K H' (.lst ds) (.ref p) := by
  obtain ⟨h1, h2, us, h3, h4⟩ := c.o p _ e
  have s1 : Same H (upd H p (.lst us)) := same_new h1
  refine ⟨upd H p (.lst us), ⟨c.f.trans s1, fun a o q => ?_, c.b, fun a q => ?_, fun q zs e => ?_⟩, s1, ?_⟩
  · by_cases z : a = p
    · subst z; rw [upd_same] at q; rw [← q]; exact h3
    · rw [upd_ne z] at q; exact c.u _ _ q
  · by_cases z : a = p
    · subst z; exact .inr h2
    · rw [upd_ne z] at q; exact c.n a q
  · unfold odel at e
    by_cases z : q = p
    · rw [if_pos z] at e; cases e
    · rw [if_neg z] at e
      obtain ⟨a1, a2, ws, a3, a4⟩ := c.o q zs e
      exact ⟨by rw [upd_ne z]; exact a1, a2, ws, a3, a4.mono s1⟩
  · unfold DA
    exact ⟨p, us, rfl, upd_same, (SlsOk.das.mp h4).mono s1⟩
/-- fewer owned -/
theorem Cxt.less {M' : OH} (c : Cxt K B0 H0 M H 𝓗) (h : ∀ p xs, M' p = some xs → M p = some xs) : Cxt K B0 H0 M' H 𝓗 := ⟨c.f, c.u, c.b, c.n, fun p xs e => c.o p xs (h p xs e)⟩
end

/-! ### families of contexts -/
def mkW (K : PySem.W.Frag) (B0 H0 : Hp) (ex : Addr → Rho → OH → Prop) : WX := fun cls d σ 𝓗 => ∃ C ρ M H, cls = .ref C ∧ d = none ∧ Cxt K B0 H0 M H 𝓗 ∧ EnvOk K H σ ρ ∧ ex C ρ M
structure Fm (P : Program) (w : World) (K : PySem.W.Frag) (mg : Str → Option Value) (base : Heap) (N : List Str) (sc : Scope) where
  ι : Type
  X : ι → Cx
  eP : ∀ i, (X i).prog = P
  ew : ∀ i, (X i).w = w
  eK : ∀ i, (X i).K = K
  eg : ∀ i, (X i).mg = mg
  eb : ∀ i, (X i).base = base
  eN : ∀ i, (X i).N = N
  es : ∀ i, (X i).env.scope = sc
  nd : N.Nodup
  lv : Nat
  hr : ∀ i, Room lv (X i).A
  hc : ∀ i, (X i).calm = true
  po : ∀ i, PassesOwn (model (X i).prog (X i).w) (X i).A (X i).env (X i).xe
  B0 : Hp
  H0 : Hp
  ex : Addr → Rho → OH → Prop
  tk : ∀ i, Takes (X i) (mkW K B0 H0 ex)
section
variable {P : Program} {w : World} {K : PySem.W.Frag} {mg : Str → Option Value} {base : Heap} {N : List Str} {sc : Scope} {F : Fm P w K mg base N sc}
def uE (F : Fm P w K mg base N sc) (e : Expr) : TE := fun σ H Q => ∀ i pins s, Inv (F.X i) pins σ H s → wpAny (model (F.X i).prog (F.X i).w) (F.X i).A (eval e (F.X i).env) (EP (F.X i) pins σ Q) (F.X i).xe s
def uT (F : Fm P w K mg base N sc) (e : Expr) : TT := fun σ H Q => ∀ i pins s, Inv (F.X i) pins σ H s → wpAny (model (F.X i).prog (F.X i).w) (F.X i).A (isTrue e (F.X i).env (eval e (F.X i).env)) (TP (F.X i) pins σ Q) (F.X i).xe s
def uW (F : Fm P w K mg base N sc) (e : Expr) : TT := fun σ H Q => ∀ i whole pins s, Inv (F.X i) pins σ H s → wpAny (model (F.X i).prog (F.X i).w) (F.X i).A (isTrue e (F.X i).env whole) (TP (F.X i) pins σ Q) (F.X i).xe s
def uA (F : Fm P w K mg base N sc) (es : List Expr) : TA := fun σ H Q => ∀ i pos pins s, Inv (F.X i) pins σ H s → wpAny (model (F.X i).prog (F.X i).w) (F.X i).A (spliced (backTo pos (starEach es (F.X i).env))) (AP (F.X i) pins σ Q) (F.X i).xe s
def uS (F : Fm P w K mg base N sc) (st : Stmt) : TS := fun D σ H => ∀ i pins s, Inv (F.X i) pins σ H s → wpAny (model (F.X i).prog (F.X i).w) (F.X i).A (exec st (F.X i).env) (SP (F.X i) pins D) (F.X i).xe s
def uSs (F : Fm P w K mg base N sc) (sts : List Stmt) : TS := fun D σ H => ∀ i pins s, Inv (F.X i) pins σ H s → wpAny (model (F.X i).prog (F.X i).w) (F.X i).A (execs sts (F.X i).env) (SP (F.X i) pins D) (F.X i).xe s
theorem pe_u {e : Expr} (i : F.ι) : PE (F.X i) e (uE F e) := ⟨fun pins s _ _ _ I h => h i pins s I⟩
theorem pt_u {e : Expr} (i : F.ι) : PT (F.X i) e (uT F e) := ⟨fun pins s _ _ _ I h => h i pins s I⟩
theorem pw_u {e : Expr} (i : F.ι) : PW (F.X i) e (uW F e) := ⟨fun wh pins s _ _ _ I h => h i wh pins s I⟩
theorem pa_u {es : List Expr} (i : F.ι) : PA (F.X i) es (uA F es) := ⟨fun pos pins s _ _ _ I h => h i pos pins s I⟩
theorem ps_u {st : Stmt} (i : F.ι) : PS (F.X i) st (uS F st) := ⟨fun pins s _ _ _ I h => h i pins s I⟩
theorem pss_u {sts : List Stmt} (i : F.ι) : PSs (F.X i) sts (uSs F sts) := ⟨fun pins s _ _ _ I h => h i pins s I⟩
theorem uE.by {e : Expr} {t : TE} {σ : L2.St} {H : Hp} {Q : VK} (h : ∀ i, PE (F.X i) e t) (q : t σ H Q) : uE F e σ H Q := fun i pins s I => (h i).run pins s σ H Q I q
theorem uT.by {e : Expr} {t : TT} {σ : L2.St} {H : Hp} {Q : Bool → Hp → Prop} (h : ∀ i, PT (F.X i) e t) (q : t σ H Q) : uT F e σ H Q := fun i pins s I => (h i).run pins s σ H Q I q
theorem uW.by {e : Expr} {t : TT} {σ : L2.St} {H : Hp} {Q : Bool → Hp → Prop} (h : ∀ i, PW (F.X i) e t) (q : t σ H Q) : uW F e σ H Q := fun i wh pins s I => (h i).run wh pins s σ H Q I q
theorem uA.by {es : List Expr} {t : TA} {σ : L2.St} {H : Hp} {Q : List V → Hp → Prop} (h : ∀ i, PA (F.X i) es t) (q : t σ H Q) : uA F es σ H Q := fun i pos pins s I => (h i).run pos pins s σ H Q I q
theorem uS.by {st : Stmt} {t : TS} {σ : L2.St} {H : Hp} {D : Ends} (h : ∀ i, PS (F.X i) st t) (q : t D σ H) : uS F st D σ H := fun i pins s I => (h i).run pins s σ H D I q
theorem uSs.by {sts : List Stmt} {t : TS} {σ : L2.St} {H : Hp} {D : Ends} (h : ∀ i, PSs (F.X i) sts t) (q : t D σ H) : uSs F sts D σ H := fun i pins s I => (h i).run pins s σ H D I q
theorem uE.mono {e : Expr} {σ : L2.St} {H : Hp} {Q Q' : VK} (h : uE F e σ H Q) (m : ∀ v H, Q v H → Q' v H) : uE F e σ H Q' := fun i pins s I => thn (h i pins s I) fun _ _ ⟨v, H', I', r, q⟩ => ⟨v, H', I', r, m _ _ q⟩
theorem uT.mono {e : Expr} {σ : L2.St} {H : Hp} {Q Q' : Bool → Hp → Prop} (h : uT F e σ H Q) (m : ∀ v H, Q v H → Q' v H) : uT F e σ H Q' := fun i pins s I => thn (h i pins s I) fun _ _ ⟨H', I', q⟩ => ⟨H', I', m _ _ q⟩
theorem uW.mono {e : Expr} {σ : L2.St} {H : Hp} {Q Q' : Bool → Hp → Prop} (h : uW F e σ H Q) (m : ∀ v H, Q v H → Q' v H) : uW F e σ H Q' := fun i wh pins s I => thn (h i wh pins s I) fun _ _ ⟨H', I', q⟩ => ⟨H', I', m _ _ q⟩
theorem uA.mono {es : List Expr} {σ : L2.St} {H : Hp} {Q Q' : List V → Hp → Prop} (h : uA F es σ H Q) (m : ∀ v H, Q v H → Q' v H) : uA F es σ H Q' := fun i pos pins s I => thn (h i pos pins s I) fun _ _ ⟨v, H', I', r, q⟩ => ⟨v, H', I', r, m _ _ q⟩
structure DLe (D D' : Ends) : Prop where
  nx : ∀ σ H, D.nx σ H → D'.nx σ H
  rt : ∀ v H, D.rt v H → D'.rt v H
  bk : ∀ σ H, D.bk σ H → D'.bk σ H
  ct : ∀ σ H, D.ct σ H → D'.ct σ H
theorem sp_mono {X : Cx} {pins : List (Addr × Obj)} {D D' : Ends} (m : DLe D D') {f : Flow} {s : Shared} (h : SP X pins D f s) : SP X pins D' f s := by
  cases f with
  | next => obtain ⟨σ, H, I, q⟩ := h; exact ⟨σ, H, I, m.nx _ _ q⟩
  | brk => obtain ⟨σ, H, I, q⟩ := h; exact ⟨σ, H, I, m.bk _ _ q⟩
  | cont => obtain ⟨σ, H, I, q⟩ := h; exact ⟨σ, H, I, m.ct _ _ q⟩
  | ret u => obtain ⟨v, σ, H, I, r, q⟩ := h; exact ⟨v, σ, H, I, r, m.rt _ _ q⟩
theorem uS.mono {st : Stmt} {σ : L2.St} {H : Hp} {D D' : Ends} (h : uS F st D σ H) (m : DLe D D') : uS F st D' σ H := fun i pins s I => thn (h i pins s I) fun _ _ q => sp_mono m q
theorem uSs.mono {sts : List Stmt} {σ : L2.St} {H : Hp} {D D' : Ends} (h : uSs F sts D σ H) (m : DLe D D') : uSs F sts D' σ H := fun i pins s I => thn (h i pins s I) fun _ _ q => sp_mono m q

/-! ### the judgements over data -/
abbrev St3 (F : Fm P w K mg base N sc) (M : OH) (H 𝓗 : Hp) : Prop := Cxt K F.B0 F.H0 M H 𝓗
/-- what a raw end knows -/
def QV (F : Fm P w K mg base N sc) (H : Hp) (Q : Sl → OH → Prop) : VK := fun v 𝓗 => ∃ H' M r, St3 F M H' 𝓗 ∧ Same H H' ∧ SlOk K H' v r ∧ Q r M
def QB (F : Fm P w K mg base N sc) (H : Hp) (Q : Bool → OH → Prop) : Bool → Hp → Prop := fun b 𝓗 => ∃ H' M, St3 F M H' 𝓗 ∧ Same H H' ∧ Q b M
def QA (F : Fm P w K mg base N sc) (H : Hp) (Q : List Sl → OH → Prop) : List V → Hp → Prop := fun vs 𝓗 => ∃ H' M rs, St3 F M H' 𝓗 ∧ Same H H' ∧ SlsOk K H' vs rs ∧ Q rs M
structure EW (F : Fm P w K mg base N sc) (ρ : Rho) (M : OH) (e : Expr) (Q : Sl → OH → Prop) : Prop where
  run : ∀ H 𝓗 σ, St3 F M H 𝓗 → EnvOk K H σ ρ → uE F e σ 𝓗 (QV F H Q)
structure TW (F : Fm P w K mg base N sc) (ρ : Rho) (M : OH) (e : Expr) (Q : Bool → OH → Prop) : Prop where
  run : ∀ H 𝓗 σ, St3 F M H 𝓗 → EnvOk K H σ ρ → uT F e σ 𝓗 (QB F H Q)
structure WW (F : Fm P w K mg base N sc) (ρ : Rho) (M : OH) (e : Expr) (Q : Bool → OH → Prop) : Prop where
  run : ∀ H 𝓗 σ, St3 F M H 𝓗 → EnvOk K H σ ρ → uW F e σ 𝓗 (QB F H Q)
structure AW (F : Fm P w K mg base N sc) (ρ : Rho) (M : OH) (es : List Expr) (Q : List Sl → OH → Prop) : Prop where
  run : ∀ H 𝓗 σ, St3 F M H 𝓗 → EnvOk K H σ ρ → uA F es σ 𝓗 (QA F H Q)
def ED (F : Fm P w K mg base N sc) (ρ : Rho) (M : OH) (e : Expr) (r : Sl) : Prop := EW F ρ M e fun r' M' => r' = r ∧ M' = M
def TD (F : Fm P w K mg base N sc) (ρ : Rho) (M : OH) (e : Expr) (b : Bool) : Prop := TW F ρ M e fun b' M' => b' = b ∧ M' = M
def AD (F : Fm P w K mg base N sc) (ρ : Rho) (M : OH) (es : List Expr) (rs : List Sl) : Prop := AW F ρ M es fun rs' M' => rs' = rs ∧ M' = M
structure DE where
  nx : Rho → OH → Prop
  rt : Sl → OH → Prop
  bk : Rho → OH → Prop := fun _ _ => False
  ct : Rho → OH → Prop := fun _ _ => False
def QN (F : Fm P w K mg base N sc) (H : Hp) (Q : Rho → OH → Prop) : L2.St → Hp → Prop := fun σ 𝓗 => ∃ ρ M H', St3 F M H' 𝓗 ∧ Same H H' ∧ EnvOk K H' σ ρ ∧ Q ρ M
def QR (F : Fm P w K mg base N sc) (Q : Sl → OH → Prop) : VK := fun v 𝓗 => ∃ r M H, St3 F M H 𝓗 ∧ SlOk K H v r ∧ Q r M
def rawD (F : Fm P w K mg base N sc) (H : Hp) (D : DE) : Ends := { nx := QN F H D.nx, rt := QR F D.rt, bk := QN F H D.bk, ct := QN F H D.ct }
structure S1 (F : Fm P w K mg base N sc) (ρ : Rho) (M : OH) (st : Stmt) (D : DE) : Prop where
  run : ∀ H 𝓗 σ, St3 F M H 𝓗 → EnvOk K H σ ρ → uS F st (rawD F H D) σ 𝓗
structure SX (F : Fm P w K mg base N sc) (ρ : Rho) (M : OH) (sts : List Stmt) (D : DE) : Prop where
  run : ∀ H 𝓗 σ, St3 F M H 𝓗 → EnvOk K H σ ρ → uSs F sts (rawD F H D) σ 𝓗

variable {ρ : Rho} {M : OH} {e a b c : Expr} {pos : Pos} {r r1 r2 : Sl} {Q : Sl → OH → Prop} {D : DE}
theorem EW.mono {Q' : Sl → OH → Prop} (h : EW F ρ M e Q) (m : ∀ r M', Q r M' → Q' r M') : EW F ρ M e Q' := .mk fun H 𝓗 σ c hE => (h.run H 𝓗 σ c hE).mono fun _ _ ⟨H', M', r, q1, q2, q3, q4⟩ => ⟨H', M', r, q1, q2, q3, m _ _ q4⟩
theorem TW.mono {Q Q' : Bool → OH → Prop} (h : TW F ρ M e Q) (m : ∀ r M', Q r M' → Q' r M') : TW F ρ M e Q' := .mk fun H 𝓗 σ c hE => (h.run H 𝓗 σ c hE).mono fun _ _ ⟨H', M', q1, q2, q4⟩ => ⟨H', M', q1, q2, m _ _ q4⟩
theorem AW.mono {es : List Expr} {Q Q' : List Sl → OH → Prop} (h : AW F ρ M es Q) (m : ∀ r M', Q r M' → Q' r M') : AW F ρ M es Q' := .mk fun H 𝓗 σ c hE => (h.run H 𝓗 σ c hE).mono fun _ _ ⟨H', M', r, q1, q2, q3, q4⟩ => ⟨H', M', r, q1, q2, q3, m _ _ q4⟩
theorem ED.ew (h : ED F ρ M e r) (q : Q r M) : EW F ρ M e Q := EW.mono h fun r' M' z => by rw [z.1, z.2]; exact q
theorem TD.tw {k : Bool} {Q : Bool → OH → Prop} (h : TD F ρ M e k) (q : Q k M) : TW F ρ M e Q := TW.mono h fun r' M' z => by rw [z.1, z.2]; exact q
theorem AD.aw {es : List Expr} {rs : List Sl} {Q : List Sl → OH → Prop} (h : AD F ρ M es rs) (q : Q rs M) : AW F ρ M es Q := AW.mono h fun r' M' z => by rw [z.1, z.2]; exact q
theorem ED.to (h : ED F ρ M e r) (q : r = r1) : ED F ρ M e r1 := by rw [← q]; exact h
theorem TD.to {k k' : Bool} (h : TD F ρ M e k) (q : k = k') : TD F ρ M e k' := by rw [← q]; exact h

/-! ### expressions -/
theorem ed_var {i : Nat} {x : Str} (hr : ρ[i]? = some r) (hk : known r := by trivial) (hN : N[i]? = some x := by decide +kernel)
    (hv : ∀ j, Vis (F.X j).env.scope x := by intro _; first | exact Or.inl rfl | exact Or.inr (Or.inl rfl) | exact Or.inr (Or.inr rfl)) (hd : (x == ("__debug__" : Str)) = false := by decide)
    (hcd : (x == ("__classdict__" : Str)) = false := by decide) : ED F ρ M (.Name x pos) r := .mk fun H 𝓗 σ c hE => by
  obtain ⟨v, e1, e2⟩ := hE.get hr hk
  exact uE.by (fun j => pe_var (i := i) (by rw [F.eN j]; exact hN) (hv j) hd hcd) ⟨v, e1, H, M, r, c, Same.refl H, e2, rfl, rfl⟩
theorem ed_c {v : V} (h : ∀ i, PE (F.X i) e (tC v)) (hs : ∀ H, SlOk K H v r) : ED F ρ M e r := .mk fun H 𝓗 σ c hE => uE.by h ⟨H, M, r, c, Same.refl H, hs H, rfl, rfl⟩
theorem ed_int {i : Int} {j} : ED F ρ M (.Constant (.int i) j pos) (.dat (.int i)) := ed_c (fun _ => pe_int) fun _ => rfl
theorem ed_bl {i : Bool} {j} : ED F ρ M (.Constant (.bool i) j pos) (.dat (.bl i)) := ed_c (fun _ => pe_bl) fun _ => rfl
theorem ed_non {j} : ED F ρ M (.Constant .none j pos) (.dat .non) := ed_c (fun _ => pe_non) fun _ => rfl
theorem ed_str {x : Str} {j} : ED F ρ M (.Constant (.str x) j pos) (.dat (.str x)) := ed_c (fun _ => pe_str) fun _ => rfl
/-- a module's constant -/
theorem ed_glob {x : Str} {v : V} {u : Value} (hm : mg x = some u) (q : RelV v u) (hs : ∀ H, SlOk K H v r) (hg : ∀ i, Gl (F.X i) x := by intro _; rfl) (hd : (x == ("__debug__" : Str)) = false := by decide) : ED F ρ M (.Name x pos) r :=
  ed_c (fun i => pe_glob (hg i) (by rw [F.eg i]; exact hm) q hd) hs
theorem QV.up {H H' : Hp} (e : Same H H') {v : V} {𝓗 : Hp} (h : QV F H' Q v 𝓗) : QV F H Q v 𝓗 := by
  obtain ⟨H1, M, r, q1, q2, q3, q4⟩ := h
  exact ⟨H1, M, r, q1, e.trans q2, q3, q4⟩
/-- a two-place operation: by what its rule asks of the values -/
abbrev Op2 (F : Fm P w K mg base N sc) (t : R2) (x y : Sl) (M : OH) (Q : Sl → OH → Prop) : Prop := ∀ H 𝓗 u v (Q' : VK), St3 F M H 𝓗 → SlOk K H u x → SlOk K H v y → (∀ v' 𝓗', QV F H Q v' 𝓗' → Q' v' 𝓗') → t u v 𝓗 Q'
theorem ew_op2 {t : R2} (hp : ∀ i, PE (F.X i) e (tOp t (uE F a) (uE F b))) (ha : EW F ρ M a fun x M1 => EW F ρ M1 b fun y M2 => Op2 F t x y M2 Q) : EW F ρ M e Q := .mk fun H 𝓗 σ c hE => by
  refine uE.by hp ((ha.run H 𝓗 σ c hE).mono fun u 𝓗1 ⟨H1, M1, x, c1, s1, q1, hb⟩ => ?_)
  refine (hb.run H1 𝓗1 σ c1 (hE.mono s1)).mono fun v 𝓗2 ⟨H2, M2, y, c2, s2, q2, ht⟩ => ?_
  exact ht H2 𝓗2 u v _ c2 (q1.mono s2) q2 fun v' 𝓗' z => z.up (s1.trans s2)
theorem ed_op2 {t : R2} (hp : ∀ i, PE (F.X i) e (tOp t (uE F a) (uE F b))) (ha : ED F ρ M a r1) (hb : ED F ρ M b r2) (ho : Op2 F t r1 r2 M fun r' M' => r' = r ∧ M' = M) : ED F ρ M e r :=
  ew_op2 hp (ha.ew (hb.ew ho))
/-- the value is had at once, nothing changes -/
theorem here {H 𝓗 : Hp} {v : V} {Q' : VK} (c : St3 F M H 𝓗) (k : ∀ v' 𝓗', QV F H (fun r' M' => r' = r ∧ M' = M) v' 𝓗' → Q' v' 𝓗') (h : SlOk K H v r) : Q' v 𝓗 := k v 𝓗 ⟨H, M, r, c, Same.refl H, h, rfl, rfl⟩
section
variable {i j : Int}
theorem op2_I0 {g : Int → Int → V} {d : Dt} (h : ∀ H, DA K H d (g i j)) : Op2 F (rI0 g) (.dat (.int i)) (.dat (.int j)) M fun r' M' => r' = .dat d ∧ M' = M := fun H 𝓗 u v Q' c e1 e2 k =>
  ⟨i, j, e1, e2, here c k (h H)⟩
theorem op2_I {C : Int → Int → Prop} {g : Int → Int → V} {d : Dt} (hc : C i j) (h : ∀ H, DA K H d (g i j)) : Op2 F (rI C g) (.dat (.int i)) (.dat (.int j)) M fun r' M' => r' = .dat d ∧ M' = M := fun H 𝓗 u v Q' c e1 e2 k =>
  ⟨i, j, e1, e2, hc, here c k (h H)⟩
theorem ed_add (ha : ED F ρ M a (.dat (.int i))) (hb : ED F ρ M b (.dat (.int j))) : ED F ρ M (.BinOp a .Add b pos) (.dat (.int (i + j))) := ed_op2 (fun _ => pe_op op_add (pe_u _) (pe_u _)) ha hb (op2_I0 fun _ => rfl)
theorem ed_sub (ha : ED F ρ M a (.dat (.int i))) (hb : ED F ρ M b (.dat (.int j))) : ED F ρ M (.BinOp a .Sub b pos) (.dat (.int (i - j))) := ed_op2 (fun _ => pe_op op_sub (pe_u _) (pe_u _)) ha hb (op2_I0 fun _ => rfl)
theorem ed_mul (ha : ED F ρ M a (.dat (.int i))) (hb : ED F ρ M b (.dat (.int j))) (h : CMul i j) : ED F ρ M (.BinOp a .Mult b pos) (.dat (.int (i * j))) := ed_op2 (fun _ => pe_op op_mul (pe_u _) (pe_u _)) ha hb (op2_I h fun _ => rfl)
theorem ed_mod (ha : ED F ρ M a (.dat (.int i))) (hb : ED F ρ M b (.dat (.int j))) (h : 0 < j) : ED F ρ M (.BinOp a .Mod b pos) (.dat (.int (i % j))) := ed_op2 (fun _ => pe_op op_mod (pe_u _) (pe_u _)) ha hb (op2_I h fun _ => rfl)
theorem ed_div (ha : ED F ρ M a (.dat (.int i))) (hb : ED F ρ M b (.dat (.int j))) (h : CDiv i j) : ED F ρ M (.BinOp a .FloorDiv b pos) (.dat (.int (i / j))) := ed_op2 (fun _ => pe_op op_fdiv (pe_u _) (pe_u _)) ha hb (op2_I h fun _ => rfl)
theorem ed_pow (ha : ED F ρ M a (.dat (.int i))) (hb : ED F ρ M b (.dat (.int j))) (h : CPow i j) : ED F ρ M (.BinOp a .Pow b pos) (.dat (.int (i ^ j.toNat))) := ed_op2 (fun _ => pe_op op_pow (pe_u _) (pe_u _)) ha hb (op2_I h fun _ => rfl)
theorem ed_shl (ha : ED F ρ M a (.dat (.int i))) (hb : ED F ρ M b (.dat (.int j))) (h : CPow i j) : ED F ρ M (.BinOp a .LShift b pos) (.dat (.int (i * 2 ^ j.toNat))) := ed_op2 (fun _ => pe_op op_shl (pe_u _) (pe_u _)) ha hb (op2_I h fun _ => rfl)
theorem ed_shr (ha : ED F ρ M a (.dat (.int i))) (hb : ED F ρ M b (.dat (.int j))) (h : 0 ≤ j) : ED F ρ M (.BinOp a .RShift b pos) (.dat (.int (i / 2 ^ j.toNat))) := ed_op2 (fun _ => pe_op op_shr (pe_u _) (pe_u _)) ha hb (op2_I h fun _ => rfl)
theorem ed_and2 (ha : ED F ρ M a (.dat (.int i))) (hb : ED F ρ M b (.dat (.int j))) : ED F ρ M (.BinOp a .BitAnd b pos) (.dat (.int (Builtin.bitAnd i j))) := ed_op2 (fun _ => pe_op op_and (pe_u _) (pe_u _)) ha hb (op2_I0 fun _ => rfl)
theorem ed_lt (ha : ED F ρ M a (.dat (.int i))) (hb : ED F ρ M b (.dat (.int j))) : ED F ρ M (.Compare a [.Lt] [b] pos) (.dat (.bl (decide (i < j)))) := ed_op2 (fun _ => pe_cmpR op_lt (pe_u _) (pe_u _) (nomark _)) ha hb (op2_I0 fun _ => rfl)
theorem ed_le (ha : ED F ρ M a (.dat (.int i))) (hb : ED F ρ M b (.dat (.int j))) : ED F ρ M (.Compare a [.LtE] [b] pos) (.dat (.bl (decide (i ≤ j)))) := ed_op2 (fun _ => pe_cmpR op_le (pe_u _) (pe_u _) (nomark _)) ha hb (op2_I0 fun _ => rfl)
theorem ed_gt (ha : ED F ρ M a (.dat (.int i))) (hb : ED F ρ M b (.dat (.int j))) : ED F ρ M (.Compare a [.Gt] [b] pos) (.dat (.bl (decide (j < i)))) := ed_op2 (fun _ => pe_cmpR op_gt (pe_u _) (pe_u _) (nomark _)) ha hb (op2_I0 fun _ => rfl)
theorem ed_ge (ha : ED F ρ M a (.dat (.int i))) (hb : ED F ρ M b (.dat (.int j))) : ED F ρ M (.Compare a [.GtE] [b] pos) (.dat (.bl (decide (j ≤ i)))) := ed_op2 (fun _ => pe_cmpR op_ge (pe_u _) (pe_u _) (nomark _)) ha hb (op2_I0 fun _ => rfl)
end
/-! ### tests -/
theorem TW.ofB {Q : Bool → OH → Prop} (h : EW F ρ M e fun r' M' => ∃ k, r' = .dat (.bl k) ∧ Q k M') (he : ∀ j whole, isTrue e (F.X j).env whole = (do let v ← whole; standAt e.pos; holding [v] (truthy v)) := by intro _ _; rfl) : TW F ρ M e Q := .mk fun H 𝓗 σ c hE =>
  uT.by (fun j => pt_val (pe_u j) (he j)) ((h.run H 𝓗 σ c hE).mono fun v 𝓗1 ⟨H1, M1, r', c1, s1, q1, k, e1, q⟩ => by
    subst e1
    exact ⟨k, q1, H1, M1, c1, s1, q⟩)
theorem TD.ofB {k : Bool} (h : ED F ρ M e (.dat (.bl k))) (he : ∀ j whole, isTrue e (F.X j).env whole = (do let v ← whole; standAt e.pos; holding [v] (truthy v)) := by intro _ _; rfl) : TD F ρ M e k := TW.ofB (h.ew ⟨k, rfl, rfl, rfl⟩) he
theorem td_op2 {t : R2} {k : Bool} (hp : ∀ i, PT (F.X i) e (tTest (tOp t (uE F a) (uE F b)))) (ha : ED F ρ M a r1) (hb : ED F ρ M b r2) (ho : Op2 F t r1 r2 M fun r' M' => r' = .dat (.bl k) ∧ M' = M) : TD F ρ M e k := .mk fun H 𝓗 σ c hE => by
  refine uT.by hp ((ha.run H 𝓗 σ c hE).mono fun u 𝓗1 ⟨H1, M1, x, c1, s1, q1, e1, e2⟩ => ?_)
  subst e1 e2
  refine (hb.run H1 𝓗1 σ c1 (hE.mono s1)).mono fun v 𝓗2 ⟨H2, M2, y, c2, s2, q2, e1, e2⟩ => ?_
  subst e1 e2
  refine ho H2 𝓗2 u v _ c2 (q1.mono s2) q2 fun v' 𝓗' ⟨H3, M3, z, c3, s3, q3, e1, e2⟩ => ?_
  subst e1 e2
  exact ⟨k, q3, H3, M3, c3, (s1.trans s2).trans s3, rfl, rfl⟩
section
variable {i j : Int}
theorem td_lt (ha : ED F ρ M a (.dat (.int i))) (hb : ED F ρ M b (.dat (.int j))) : TD F ρ M (.Compare a [.Lt] [b] pos) (decide (i < j)) := td_op2 (fun _ => pt_cmpR op_lt (pe_u _) (pe_u _) (nomark _)) ha hb (op2_I0 fun _ => rfl)
theorem td_le (ha : ED F ρ M a (.dat (.int i))) (hb : ED F ρ M b (.dat (.int j))) : TD F ρ M (.Compare a [.LtE] [b] pos) (decide (i ≤ j)) := td_op2 (fun _ => pt_cmpR op_le (pe_u _) (pe_u _) (nomark _)) ha hb (op2_I0 fun _ => rfl)
theorem td_gt (ha : ED F ρ M a (.dat (.int i))) (hb : ED F ρ M b (.dat (.int j))) : TD F ρ M (.Compare a [.Gt] [b] pos) (decide (j < i)) := td_op2 (fun _ => pt_cmpR op_gt (pe_u _) (pe_u _) (nomark _)) ha hb (op2_I0 fun _ => rfl)
theorem td_ge (ha : ED F ρ M a (.dat (.int i))) (hb : ED F ρ M b (.dat (.int j))) : TD F ρ M (.Compare a [.GtE] [b] pos) (decide (j ≤ i)) := td_op2 (fun _ => pt_cmpR op_ge (pe_u _) (pe_u _) (nomark _)) ha hb (op2_I0 fun _ => rfl)
end
end
end DL
namespace DL
open PySem PySem.Spec PyProof.Rows L2
section
variable {P : Program} {w : World} {K : PySem.W.Frag} {mg : Str → Option Value} {base : Heap} {N : List Str} {sc : Scope} {F : Fm P w K mg base N sc}
variable {ρ : Rho} {M : OH} {e a b c : Expr} {pos : Pos} {r r1 r2 : Sl} {Q : Sl → OH → Prop} {D : DE}

abbrev NS (F : Fm P w K mg base N sc) (e : Expr) (es : List Expr) : Prop := ∀ j, starEach (e :: es) (F.X j).env = (false, eval e (F.X j).env) :: starEach es (F.X j).env
abbrev NP (F : Fm P w K mg base N sc) (pos : Pos) (es : List Expr) : Prop := ∀ j, (backTo pos (starEach es (F.X j).env)).any (·.1) = false
abbrev GL (F : Fm P w K mg base N sc) (x : Str) : Prop := ∀ i, Gl (F.X i) x
/-! ### statements -/
theorem QN.imp {H H' : Hp} (e : Same H H') {Q Q' : Rho → OH → Prop} (m : ∀ ρ M, Q ρ M → Q' ρ M) : ∀ σ 𝓗, QN F H' Q σ 𝓗 → QN F H Q' σ 𝓗 := fun _ _ ⟨ρ, M, H, a, s, b, q⟩ => ⟨ρ, M, H, a, e.trans s, b, m _ _ q⟩
theorem QR.imp {Q Q' : Sl → OH → Prop} (m : ∀ ρ M, Q ρ M → Q' ρ M) : ∀ σ 𝓗, QR F Q σ 𝓗 → QR F Q' σ 𝓗 := fun _ _ ⟨ρ, M, H, a, b, q⟩ => ⟨ρ, M, H, a, b, m _ _ q⟩
theorem DLe.up {H H' : Hp} (e : Same H H') : DLe (rawD F H' D) (rawD F H D) := ⟨QN.imp e fun _ _ q => q, fun _ _ q => q, QN.imp e fun _ _ q => q, QN.imp e fun _ _ q => q⟩
theorem S1.mono {st : Stmt} {D' : DE} (h : S1 F ρ M st D) (m1 : ∀ ρ M, D.nx ρ M → D'.nx ρ M) (m2 : ∀ r M, D.rt r M → D'.rt r M) (m3 : ∀ ρ M, D.bk ρ M → D'.bk ρ M) (m4 : ∀ ρ M, D.ct ρ M → D'.ct ρ M) : S1 F ρ M st D' := .mk fun H 𝓗 σ c hE =>
  (h.run H 𝓗 σ c hE).mono ⟨QN.imp (Same.refl H) m1, QR.imp m2, QN.imp (Same.refl H) m3, QN.imp (Same.refl H) m4⟩
theorem SX.mono {st : List Stmt} {D' : DE} (h : SX F ρ M st D) (m1 : ∀ ρ M, D.nx ρ M → D'.nx ρ M) (m2 : ∀ r M, D.rt r M → D'.rt r M) (m3 : ∀ ρ M, D.bk ρ M → D'.bk ρ M) (m4 : ∀ ρ M, D.ct ρ M → D'.ct ρ M) : SX F ρ M st D' := .mk fun H 𝓗 σ c hE =>
  (h.run H 𝓗 σ c hE).mono ⟨QN.imp (Same.refl H) m1, QR.imp m2, QN.imp (Same.refl H) m3, QN.imp (Same.refl H) m4⟩
/-- a statement list at an elder wish -/
theorem SX.at {st : List Stmt} {H H' 𝓗 : Hp} {σ : L2.St} (h : SX F ρ M st D) (c : St3 F M H' 𝓗) (hE : EnvOk K H' σ ρ) (e : Same H H') : uSs F st (rawD F H D) σ 𝓗 := (h.run H' 𝓗 σ c hE).mono (DLe.up e)
theorem sx_nil (h : D.nx ρ M) : SX F ρ M [] D := .mk fun H 𝓗 σ c hE => uSs.by (fun _ => pss_nil) ⟨ρ, M, H, c, Same.refl H, hE, h⟩
theorem sx_cons {st : Stmt} {rest : List Stmt} (h : S1 F ρ M st { D with nx := fun ρ' M' => SX F ρ' M' rest D }) : SX F ρ M (st :: rest) D := .mk fun H 𝓗 σ c hE =>
  uSs.by (fun _ => pss_cons (ps_u _) (pss_u _)) ((h.run H 𝓗 σ c hE).mono (D' := { rawD F H D with nx := uSs F rest (rawD F H D) }) ⟨fun σ' 𝓗' ⟨ρ', M', H', c', s', hE', q⟩ => q.at c' hE' s', fun _ _ q => q, fun _ _ q => q, fun _ _ q => q⟩)
theorem sx_one {st : Stmt} (h : S1 F ρ M st D) : SX F ρ M [st] D := .mk fun H 𝓗 σ c hE => uSs.by (fun _ => pss_one (ps_u _)) (h.run H 𝓗 σ c hE)
/-- a word between a statement and the rest -/
theorem sx_cut {st : Stmt} {rest : List Stmt} (Mid : Rho → OH → Prop) (h : S1 F ρ M st { D with nx := Mid }) (k : ∀ ρ' M', Mid ρ' M' → SX F ρ' M' rest D) : SX F ρ M (st :: rest) D := sx_cons (h.mono k (fun _ _ q => q) (fun _ _ q => q) fun _ _ q => q)
theorem s_pass (h : D.nx ρ M) : S1 F ρ M (.Pass pos) D := .mk fun H 𝓗 σ c hE => uS.by (fun _ => ps_pass) ⟨ρ, M, H, c, Same.refl H, hE, h⟩
theorem s_break (h : D.bk ρ M) : S1 F ρ M (.Break pos) D := .mk fun H 𝓗 σ c hE => uS.by (fun _ => ps_break) ⟨ρ, M, H, c, Same.refl H, hE, h⟩
theorem s_continue (h : D.ct ρ M) : S1 F ρ M (.Continue pos) D := .mk fun H 𝓗 σ c hE => uS.by (fun _ => ps_continue) ⟨ρ, M, H, c, Same.refl H, hE, h⟩
theorem s_expr (h : EW F ρ M e fun _ M' => D.nx ρ M') (hs : ∀ j, swapsWith e none pos.line (F.X j).env = pure false := by intro _; rfl) : S1 F ρ M (.Expr e pos) D := .mk fun H 𝓗 σ c hE =>
  uS.by (fun j => ps_expr (pe_u j) (hs j)) ((h.run H 𝓗 σ c hE).mono fun v 𝓗' ⟨H', M', r, c', s', q, n⟩ => ⟨ρ, M', H', c', s', hE.mono s', n⟩)
theorem s_ret (h : EW F ρ M e D.rt) : S1 F ρ M (.Return (some e) pos) D := .mk fun H 𝓗 σ c hE =>
  uS.by (fun j => ps_ret (pe_u j)) ((h.run H 𝓗 σ c hE).mono fun v 𝓗' ⟨H', M', r, c', s', q, n⟩ => ⟨r, M', H', c', q, n⟩)
theorem s_retN (h : D.rt (.dat .non) M) : S1 F ρ M (.Return none pos) D := .mk fun H 𝓗 σ c hE => uS.by (fun j => ps_retN) ⟨.dat .non, M, H, c, rfl, h⟩
theorem s_setW (i : Nat) {x : Str} {pos' : Pos} (h : EW F ρ M e fun r M' => D.nx (ρ.set i r) M') (hi : N[i]? = some x := by decide +kernel) (hx : ∀ j, Loc (F.X j).env.scope x := by intro _; first | exact Or.inl rfl | exact Or.inr rfl)
    (hs : ∀ j, swapsWith e (some (.Name x pos')) pos.line (F.X j).env = pure false := by intro _; rfl) (hf : ∀ j, (F.X j).fn x = true ∨ (F.X j).env.scope.names.lookup x = some .local := by intro _; first | exact .inl rfl | exact .inr rfl) :
    S1 F ρ M (.Assign [.Name x pos'] e pos) D := .mk fun H 𝓗 σ c hE =>
  uS.by (fun j => ps_set (by rw [F.eN j]; exact F.nd) (by rw [F.eN j]; exact hi) (hx j) (pe_u j) (hs j) (hf j)) ((h.run H 𝓗 σ c hE).mono fun v 𝓗' ⟨H', M', r, c', s', q, n⟩ => ⟨ρ.set i r, M', H', c', s', (hE.mono s').set i q, n⟩)
theorem s_set (i : Nat) {x : Str} {pos' : Pos} (h : ED F ρ M e r) (k : D.nx (ρ.set i r) M) (hi : N[i]? = some x := by decide +kernel) (hx : ∀ j, Loc (F.X j).env.scope x := by intro _; first | exact Or.inl rfl | exact Or.inr rfl)
    (hs : ∀ j, swapsWith e (some (.Name x pos')) pos.line (F.X j).env = pure false := by intro _; rfl) (hf : ∀ j, (F.X j).fn x = true ∨ (F.X j).env.scope.names.lookup x = some .local := by intro _; first | exact .inl rfl | exact .inr rfl) :
    S1 F ρ M (.Assign [.Name x pos'] e pos) D := s_setW i (h.ew k) hi hx hs hf
theorem s_augI {i : Nat} {x : Str} {pos' : Pos} {op : Operator} {f : Int → Int → Int} {m n : Int} (ho : ∀ j, PIp (F.X j) op (ipI f)) (hr : ρ[i]? = some (.dat (.int m))) (h : ED F ρ M e (.dat (.int n))) (k : D.nx (ρ.set i (.dat (.int (f m n)))) M)
    (hi : N[i]? = some x := by decide +kernel) (hx : ∀ j, Loc (F.X j).env.scope x := by intro _; first | exact Or.inl rfl | exact Or.inr rfl)
    (hf : ∀ j, (F.X j).fn x = true ∨ (F.X j).env.scope.names.lookup x = some .local := by intro _; first | exact .inl rfl | exact .inr rfl) : S1 F ρ M (.AugAssign (.Name x pos') op e pos) D := .mk fun H 𝓗 σ c hE => by
  obtain ⟨v, e1, e2⟩ := hE.get hr trivial
  refine uS.by (fun j => ps_aug (by rw [F.eN j]; exact F.nd) (by rw [F.eN j]; exact hi) (hx j) (pe_u j) (ho j) (hf j)) ⟨v, e1, (h.run H 𝓗 σ c hE).mono fun v' 𝓗' ⟨H', M', r, c', s', q, n1, n2⟩ => ?_⟩
  subst n1 n2
  exact ⟨m, n, e2, q, ρ.set i (.dat (.int (f m n))), M', H', c', s', (hE.mono s').set i (show DA K H' (.int (f m n)) (.int (f m n)) by unfold DA; rfl), k⟩
theorem s_augAdd (i : Nat) {x : Str} {pos' : Pos} {m n : Int} (hr : ρ[i]? = some (.dat (.int m))) (h : ED F ρ M e (.dat (.int n))) (k : D.nx (ρ.set i (.dat (.int (m + n)))) M)
    (hi : N[i]? = some x := by decide +kernel) (hx : ∀ j, Loc (F.X j).env.scope x := by intro _; first | exact Or.inl rfl | exact Or.inr rfl)
    (hf : ∀ j, (F.X j).fn x = true ∨ (F.X j).env.scope.names.lookup x = some .local := by intro _; first | exact .inl rfl | exact .inr rfl) : S1 F ρ M (.AugAssign (.Name x pos') .Add e pos) D := s_augI (fun _ => ip_add) hr h k hi hx hf
theorem s_augSub (i : Nat) {x : Str} {pos' : Pos} {m n : Int} (hr : ρ[i]? = some (.dat (.int m))) (h : ED F ρ M e (.dat (.int n))) (k : D.nx (ρ.set i (.dat (.int (m - n)))) M)
    (hi : N[i]? = some x := by decide +kernel) (hx : ∀ j, Loc (F.X j).env.scope x := by intro _; first | exact Or.inl rfl | exact Or.inr rfl)
    (hf : ∀ j, (F.X j).fn x = true ∨ (F.X j).env.scope.names.lookup x = some .local := by intro _; first | exact .inl rfl | exact .inr rfl) : S1 F ρ M (.AugAssign (.Name x pos') .Sub e pos) D := s_augI (fun _ => ip_sub) hr h k hi hx hf
theorem s_ifW {t u : List Stmt} (h : TW F ρ M c fun k M' => if k = true then SX F ρ M' t D else SX F ρ M' u D) : S1 F ρ M (.If c t u pos) D := .mk fun H 𝓗 σ c hE =>
  uS.by (fun j => ps_if (pt_u j) (pss_u j) (pss_u j)) ((h.run H 𝓗 σ c hE).mono fun k 𝓗' ⟨H', M', c', s', q⟩ => by
    cases k with
    | true => exact SX.at q c' (hE.mono s') s'
    | false => exact SX.at q c' (hE.mono s') s')
theorem s_if {t u : List Stmt} {k : Bool} (h : TD F ρ M c k) (h1 : k = true → SX F ρ M t D) (h2 : k = false → SX F ρ M u D) : S1 F ρ M (.If c t u pos) D := s_ifW (h.tw (by
  cases k with
  | true => exact h1 rfl
  | false => exact h2 rfl))
/-- while: W by a measure -/
theorem s_while {body : List Stmt} (W : Nat → Rho → OH → Prop) (m0 : Nat) (h0 : W m0 ρ M)
    (hs : ∀ m ρ M, W m ρ M → TW F ρ M c fun k M' => if k = true then SX F ρ M' body { D with nx := fun ρ2 M2 => ∃ m', m' < m ∧ W m' ρ2 M2, ct := fun ρ2 M2 => ∃ m', m' < m ∧ W m' ρ2 M2, bk := D.nx } else D.nx ρ M') : S1 F ρ M (.While c body [] pos) D := .mk fun H 𝓗 σ c hE => by
  refine uS.by (fun j => ps_while (F.po j) (pt_u j) (pss_u j)) ⟨fun m => QN F H (W m), ⟨m0, ρ, M, H, c, Same.refl H, hE, h0⟩, fun m σ1 𝓗1 ⟨ρ1, M1, H1, c1, s1, hE1, w1⟩ => ?_⟩
  refine ((hs m ρ1 M1 w1).run H1 𝓗1 σ1 c1 hE1).mono fun k 𝓗' ⟨H', M', c', s', q⟩ => ?_
  cases k with
  | true => exact ⟨_, fun σ2 𝓗2 ⟨ρ2, M2, H2, c2, s2, hE2, m', lt, w2⟩ => ⟨m', lt, ρ2, M2, H2, c2, s2, hE2, w2⟩, SX.at q c' (hE1.mono s') (s1.trans s')⟩
  | false => exact ⟨ρ1, M', H', c', s1.trans s', hE1.mono s', q⟩

/-! ### lists and tuples -/
inductive LsOf (M : OH) : Sl → List Sl → Prop
  | dat (ds : List Dt) : LsOf M (.dat (.lst ds)) (ds.map .dat)
  | scr (ds : List Dt) : LsOf M (.dat (.scr ds)) (ds.map .dat)
  | raw {p : Addr} {xs : List Sl} : M p = some xs → LsOf M (.raw (.ref p)) xs
inductive SqOf (M : OH) : Sl → List Sl → Prop
  | l {r : Sl} {xs : List Sl} : LsOf M r xs → SqOf M r xs
  | t (ds : List Dt) : SqOf M (.dat (.tup ds)) (ds.map .dat)
  | n (ds : List Dt) : SqOf M (.dat (.nup ds)) (ds.map .dat)
theorem LsOf.seq {s : Sl} {xs : List Sl} {H 𝓗 : Hp} {v : V} (h : LsOf M s xs) (c : St3 F M H 𝓗) (q : SlOk K H v s) : ∃ p vs, v = .ref p ∧ SqL K 𝓗 p vs ∧ SlsOk K H vs xs := by
  cases h with
  | dat ds =>
    have q' : DA K H (.lst ds) v := q
    unfold DA at q'
    obtain ⟨p, vs, e1, e2, e3⟩ := q'
    exact ⟨p, vs, e1, SqL.of (c.u _ _ e2), SlsOk.das.mpr e3⟩
  | scr ds =>
    have q' : DA K H (.scr ds) v := q
    unfold DA at q'
    obtain ⟨p, vs, e1, e2, e3⟩ := q'
    exact ⟨p, vs, e1, c.u.seq e2, SlsOk.das.mpr e3⟩
  | raw e =>
    obtain ⟨_, _, vs, e2, e3⟩ := c.o _ _ e
    exact ⟨_, vs, q, SqL.of e2, e3⟩
theorem tup_seq {ds : List Dt} {H 𝓗 : Hp} {v : V} (c : St3 F M H 𝓗) (q : SlOk K H v (.dat (.tup ds))) : ∃ p vs, v = .ref p ∧ SqT K 𝓗 p vs ∧ SlsOk K H vs (ds.map .dat) := by
  have q' : DA K H (.tup ds) v := q
  unfold DA at q'
  obtain ⟨p, vs, e1, e2, e3⟩ := q'
  refine ⟨p, vs, e1, ?_, SlsOk.das.mpr e3⟩
  rcases e2 with (e2 | ⟨o, e2⟩) | e2
  · exact .inl (.inl (c.u _ _ e2))
  · exact .inl (.inr ⟨o, c.u _ _ e2⟩)
  · exact .inr e2
theorem nup_seq {ds : List Dt} {H 𝓗 : Hp} {v : V} (c : St3 F M H 𝓗) (q : SlOk K H v (.dat (.nup ds))) : ∃ p vs o, v = .ref p ∧ 𝓗 p = some (.frz o (.tup vs)) ∧ o.cls = .type "tuple" ∧ o.dict = none ∧ SlsOk K H vs (ds.map .dat) := by
  have q' : DA K H (.nup ds) v := q
  unfold DA at q'
  obtain ⟨p, o, vs, e1, e2, e3, e4, e5⟩ := q'
  exact ⟨p, vs, o, e1, c.u _ _ e2, e3, e4, SlsOk.das.mpr e5⟩
theorem SqOf.seq {s : Sl} {xs : List Sl} {H 𝓗 : Hp} {v : V} (h : SqOf M s xs) (c : St3 F M H 𝓗) (q : SlOk K H v s) : ∃ p vs, v = .ref p ∧ (SqL K 𝓗 p vs ∨ SqT K 𝓗 p vs) ∧ SlsOk K H vs xs := by
  cases h with
  | l h => obtain ⟨p, vs, a, b, d⟩ := h.seq c q; exact ⟨p, vs, a, .inl b, d⟩
  | t ds => obtain ⟨p, vs, a, b, d⟩ := tup_seq c q; exact ⟨p, vs, a, .inr b, d⟩
  | n ds => obtain ⟨p, vs, o, a, b, _, _, d⟩ := nup_seq c q; exact ⟨p, vs, a, .inr (.inl (.inr ⟨o, b⟩)), d⟩
/-- a new owned list -/
def EL (F : Fm P w K mg base N sc) (ρ : Rho) (M : OH) (e : Expr) (xs : List Sl) : Prop := EW F ρ M e fun r M' => ∃ p, M p = none ∧ r = .raw (.ref p) ∧ M' = oset M p xs
theorem EL.ew {xs : List Sl} (h : EL F ρ M e xs) (k : ∀ p, M p = none → Q (.raw (.ref p)) (oset M p xs)) : EW F ρ M e Q := EW.mono h fun r M' ⟨p, e1, e2, e3⟩ => by subst e2 e3; exact k p e1
/-- frozen at once -/
theorem EW.freeze (h : EW F ρ M e fun r M' => ∃ p ds, r = .raw (.ref p) ∧ M' p = some (ds.map .dat) ∧ Q (.dat (.lst ds)) (odel M' p)) : EW F ρ M e Q := .mk fun H 𝓗 σ c hE =>
  (h.run H 𝓗 σ c hE).mono fun v 𝓗' ⟨H', M', r, c', s', q, p, ds, e1, e2, e3⟩ => by
    subst e1
    obtain ⟨H2, c2, s2, d2⟩ := c'.frz e2
    have q' : v = .ref p := q
    subst q'
    exact ⟨H2, _, .dat (.lst ds), c2, s'.trans s2, d2, e3⟩
theorem EL.ed {ds : List Dt} (h : EL F ρ M e (ds.map .dat)) : ED F ρ M e (.dat (.lst ds)) := EW.freeze (h.ew fun p hp => ⟨p, ds, rfl, oset_same, rfl, odel_oset hp⟩)
theorem EL.to {xs ys : List Sl} (h : EL F ρ M e xs) (q : xs = ys) : EL F ρ M e ys := by rw [← q]; exact h

theorem ad_nil : AD F ρ M [] [] := .mk fun H 𝓗 σ c hE => uA.by (fun _ => pa_nil) ⟨H, M, [], c, Same.refl H, .nil, rfl, rfl⟩
theorem aw_nil {Q : List Sl → OH → Prop} (h : Q [] M) : AW F ρ M [] Q := .mk fun H 𝓗 σ c hE => uA.by (fun _ => pa_nil) ⟨H, M, [], c, Same.refl H, .nil, h⟩
theorem aw_cons {es : List Expr} {Q : List Sl → OH → Prop} (h : EW F ρ M e fun r M1 => AW F ρ M1 es fun rs M2 => Q (r :: rs) M2) (hs : NS F e es := by intro _; rfl) : AW F ρ M (e :: es) Q := .mk fun H 𝓗 σ c hE => by
  refine uA.by (fun j => pa_cons (pe_u j) (pa_u j) (hs j)) ((h.run H 𝓗 σ c hE).mono fun v 𝓗1 ⟨H1, M1, r, c1, s1, q1, k⟩ => ?_)
  refine (k.run H1 𝓗1 σ c1 (hE.mono s1)).mono fun vs 𝓗2 ⟨H2, M2, rs, c2, s2, q2, k2⟩ => ?_
  exact ⟨H2, M2, r :: rs, c2, s1.trans s2, .cons (q1.mono s2) q2, k2⟩
theorem ad_cons {es : List Expr} {rs : List Sl} (h : ED F ρ M e r) (h2 : AD F ρ M es rs) (hs : NS F e es := by intro _; rfl) : AD F ρ M (e :: es) (r :: rs) :=
  aw_cons (h.ew (h2.aw ⟨rfl, rfl⟩)) hs
theorem sz5 {n : Nat} (h : n ≤ 100000) : n ≤ sizeLine := Nat.le_trans h (by decide)
theorem sz5l {n : Nat} (h : n ≤ 100000) : n < sizeLine := Nat.lt_of_le_of_lt h (by decide)
/-- [a, b, ..] -/
theorem el_lst {es : List Expr} {rs : List Sl} (h : AD F ρ M es rs) (hz : rs.length ≤ 100000) : EL F ρ M (.List es pos) rs := .mk fun H 𝓗 σ c hE =>
  uE.by (fun j => pe_lst (pa_u j)) ((h.run H 𝓗 σ c hE).mono fun vs 𝓗' ⟨H', M', rs', c', s', q, n1, n2⟩ => by
    subst n1 n2
    refine ⟨sz5 (by rw [q.length]; exact hz), fun p hp => ?_⟩
    exact ⟨H', _, .raw (.ref p), c'.newL hp q, s', rfl, p, (c'.none_of hp).2.2, rfl, rfl⟩)
theorem ed_lst {es : List Expr} {ds : List Dt} (h : AD F ρ M es (ds.map .dat)) (hz : ds.length ≤ 100000) : ED F ρ M (.List es pos) (.dat (.lst ds)) := (el_lst h (by rw [List.length_map]; exact hz)).ed
theorem ed_tup {es : List Expr} {ds : List Dt} {x1} (h : AD F ρ M es (ds.map .dat)) (hz : ds.length ≤ 100000) : ED F ρ M (.Tuple es x1 pos) (.dat (.tup ds)) := .mk fun H 𝓗 σ c hE =>
  uE.by (fun j => pe_tup (pa_u j)) ((h.run H 𝓗 σ c hE).mono fun vs 𝓗' ⟨H', M', rs', c', s', q, n1, n2⟩ => by
    subst n1 n2
    have hd := SlsOk.das.mp q
    refine ⟨sz5 (by rw [hd.len]; exact hz), fun p hp => ?_⟩
    obtain ⟨c2, s2⟩ := c'.newF (o := .tup vs) hp
    refine ⟨_, _, _, c2, s'.trans s2, ?_, rfl, rfl⟩
    show DA K _ (.tup ds) _
    unfold DA
    exact ⟨p, vs, rfl, SqT.of upd_same, hd.mono s2⟩)
/-- xs[i] -/
theorem slget {H : Hp} {vs : List V} {xs : List Sl} {k : Nat} (h : SlsOk K H vs xs) (e : xs[k]? = some r) : ∃ v, vs[k]? = some v ∧ SlOk K H v r := paired_get h e
theorem fIxL (i : F.ι) : IxR (F.X i) (rIxL K) := by have h := ix_list (X := F.X i); rw [F.eK i] at h; exact h
theorem fIxT (i : F.ι) : IxR (F.X i) (rIxT K) := by have h := ix_tup (X := F.X i); rw [F.eK i] at h; exact h
theorem ed_ixL {s : Sl} {xs : List Sl} {k : Nat} {i : Int} (ha : ED F ρ M a s) (hb : ED F ρ M b (.dat (.int i))) (hl : LsOf M s xs) (hi : i = (k : Int)) (hk : xs[k]? = some r) (hp : PlainIx b := by exact fun _ _ => rfl) : ED F ρ M (.Subscript a b pos) r := by
  subst hi
  refine ed_op2 (fun i => pe_ix (fIxL i) (pe_u _) (pe_u _) hp) ha hb fun H 𝓗 u v Q' c q1 q2 kk => ?_
  obtain ⟨p, vs, rfl, e2, e3⟩ := hl.seq c q1
  obtain ⟨z, e4, e5⟩ := slget e3 hk
  have q2' : v = .int (k : Int) := q2
  exact ⟨p, vs, k, z, rfl, q2', e2, atI_nat e4, here c kk e5⟩
theorem ed_ixT {ds : List Dt} {d : Dt} {k : Nat} {i : Int} (ha : ED F ρ M a (.dat (.tup ds))) (hb : ED F ρ M b (.dat (.int i))) (hi : i = (k : Int)) (hk : ds[k]? = some d) (hp : PlainIx b := by exact fun _ _ => rfl) : ED F ρ M (.Subscript a b pos) (.dat d) := by
  subst hi
  refine ed_op2 (fun i => pe_ix (fIxT i) (pe_u _) (pe_u _) hp) ha hb fun H 𝓗 u v Q' c q1 q2 kk => ?_
  obtain ⟨p, vs, rfl, e2, e3⟩ := tup_seq c q1
  obtain ⟨z, e4, e5⟩ := slget (r := .dat d) e3 (by rw [List.getElem?_map, hk]; rfl)
  have q2' : v = .int (k : Int) := q2
  exact ⟨p, vs, k, z, rfl, q2', e2, atI_nat e4, here c kk e5⟩
theorem ed_ixD {ds : List Dt} {d : Dt} {k : Nat} {i : Int} (ha : ED F ρ M a (.dat (.lst ds))) (hb : ED F ρ M b (.dat (.int i))) (hi : i = (k : Int)) (hk : ds[k]? = some d) (hp : PlainIx b := by exact fun _ _ => rfl) : ED F ρ M (.Subscript a b pos) (.dat d) :=
  ed_ixL ha hb (.dat ds) hi (by rw [List.getElem?_map, hk]; rfl) hp
/-! ### calls of built-ins -/
def CallD (F : Fm P w K mg base N sc) (t : List V → Hp → VK → Prop) (rs : List Sl) (M : OH) (Q : Sl → OH → Prop) : Prop := ∀ H 𝓗 vs (Q' : VK), St3 F M H 𝓗 → SlsOk K H vs rs → (∀ v' 𝓗', QV F H Q v' 𝓗' → Q' v' 𝓗') → t vs 𝓗 Q'
theorem ew_cb {es : List Expr} {t : List V → Hp → VK → Prop} (hp : ∀ i, PE (F.X i) e (tCB t (uA F es))) (ha : AW F ρ M es fun rs M1 => CallD F t rs M1 Q) : EW F ρ M e Q := .mk fun H 𝓗 σ c hE => by
  refine uE.by hp ((ha.run H 𝓗 σ c hE).mono fun vs 𝓗1 ⟨H1, M1, rs, c1, s1, q1, ht⟩ => ?_)
  exact ht H1 𝓗1 vs _ c1 q1 fun v' 𝓗' z => z.up s1
theorem sl1 {H : Hp} {vs : List V} {s : Sl} (h : SlsOk K H vs [s]) : ∃ v, vs = [v] ∧ SlOk K H v s := by
  cases h with
  | cons a b => cases b; exact ⟨_, rfl, a⟩
theorem sl2 {H : Hp} {vs : List V} {s t : Sl} (h : SlsOk K H vs [s, t]) : ∃ v u, vs = [v, u] ∧ SlOk K H v s ∧ SlOk K H u t := by
  cases h with
  | cons a b =>
    obtain ⟨u, rfl, q⟩ := sl1 b
    exact ⟨_, _, rfl, a, q⟩
theorem fLen (i : F.ι) : CallR (F.X i) (.builtin "len") (fun xs H Q => ∃ p ys, xs = [.ref p] ∧ (SqL K H p ys ∨ SqT K H p ys) ∧ Q (.int ys.length) H) := by have h := call_len_seq (X := F.X i); rw [F.eK i] at h; exact h
theorem hmg {x : Str} {o : Option Value} (h : mg x = o) (i : F.ι) : (F.X i).mg x = o := by rw [F.eg i]; exact h
theorem ed_len {s : Sl} {xs : List Sl} {p : Pos} (ml : mg "len" = none) (ha : ED F ρ M a s) (hl : SqOf M s xs) (hg : GL F "len" := by intro _; rfl)
    (hs : NS F a [] := by intro _; rfl) (hpl : NP F pos [] := by intro _; rfl) : ED F ρ M (.Call (.Name "len" p) [a] [] pos) (.dat (.int (xs.length : Int))) := by
  refine ew_cb (fun i => pe_callB (fLen i) (hg i) (hmg ml i) PySem.boot_len (pa_u i) (he := hs i) (hpl := hpl i)) ((ad_cons ha ad_nil hs).aw fun H 𝓗 vs Q' c q k => ?_)
  obtain ⟨v, rfl, qv⟩ := sl1 q
  obtain ⟨p, ws, rfl, e2, e3⟩ := hl.seq c qv
  refine ⟨p, ws, rfl, e2, here c k ?_⟩
  show DA K H _ _
  unfold DA
  rw [e3.length]
theorem ed_max2 {p : Pos} {i j : Int} (mm : mg "max" = none) (ha : ED F ρ M a (.dat (.int i))) (hb : ED F ρ M b (.dat (.int j))) (hg : GL F "max" := by intro _; rfl)
    (hs : NS F a [b] := by intro _; rfl) (hs2 : NS F b [] := by intro _; rfl) (hpl : NP F pos [b] := by intro _; rfl) :
    ED F ρ M (.Call (.Name "max" p) [a, b] [] pos) (.dat (.int (if j > i then j else i))) := by
  refine ew_cb (fun i => pe_callB (call_max2 (F.hc i)) (hg i) (hmg mm i) (by decide +kernel) (pa_u i) (he := hs i) (hpl := hpl i)) ((ad_cons ha (ad_cons hb ad_nil hs2) hs).aw fun H 𝓗 vs Q' c q k => ?_)
  obtain ⟨v, u, rfl, q1, q2⟩ := sl2 q
  have q1' : v = .int i := q1
  have q2' : u = .int j := q2
  subst q1' q2'
  exact ⟨i, j, rfl, here c k rfl⟩
theorem ed_intB {p : Pos} {k : Bool} (mm : mg "int" = none) (ha : ED F ρ M a (.dat (.bl k))) (hg : GL F "int" := by intro _; rfl)
    (hs : NS F a [] := by intro _; rfl) (hpl : NP F pos [] := by intro _; rfl) : ED F ρ M (.Call (.Name "int" p) [a] [] pos) (.dat (.int (if k then 1 else 0))) := by
  refine ew_cb (fun i => pe_callTy call_int1 (hg i) (hmg mm i) (by decide +kernel) (pa_u i) (he := hs i) (hpl := hpl i)) ((ad_cons ha ad_nil hs).aw fun H 𝓗 vs Q' c q kk => ?_)
  obtain ⟨v, rfl, qv⟩ := sl1 q
  have q' : v = .bl k := qv
  subst q'
  exact .inr ⟨k, rfl, here c kk rfl⟩
end
end DL
namespace DL
open PySem PySem.Spec PyProof.Rows L2
section
variable {P : Program} {w : World} {K : PySem.W.Frag} {mg : Str → Option Value} {base : Heap} {N : List Str} {sc : Scope} {F : Fm P w K mg base N sc}
variable {ρ : Rho} {M : OH} {e a b c : Expr} {pos : Pos} {r r1 r2 : Sl} {Q : Sl → OH → Prop} {D : DE}

/-! ### promises -/
/-- what a def promises: of the arguments and the owned lists that it is handed -/
structure Pr where
  pre : List Sl → OH → Prop
  post : List Sl → OH → Sl → OH → Prop
  err : List Sl → OH → Addr → OH → Prop := fun _ _ _ _ => False
def spM (K : PySem.W.Frag) (p : Pr) : Sp := fun vs 𝓗 Q E => ∃ H B M rs, Cxt K B H M H 𝓗 ∧ SlsOk K H vs rs ∧ p.pre rs M ∧ (∀ v r H' 𝓗' M', Cxt K B H M' H' 𝓗' → SlOk K H' v r → p.post rs M r M' → Q v 𝓗') ∧
  (∀ C H' 𝓗' M', Cxt K B H M' H' 𝓗' → p.err rs M C M' → E (.ref C) none 𝓗')
/-- the owned lists behind a call that was handed Mp of them -/
def omerge (M Mp M' : OH) : OH := fun a => match M' a with | some xs => some xs | none => if (Mp a).isSome = true then none else M a
theorem omerge0 {M M' : OH} {p : Addr} {xs : List Sl} (h : omerge M OH0 M' p = some xs) : M' p = some xs ∨ M p = some xs := by
  unfold omerge at h
  cases e : M' p with
  | some ys => rw [e] at h; exact .inl h
  | none => rw [e] at h; exact .inr h
theorem call_in {H 𝓗 : Hp} {B0 H0 : Hp} {Mp : OH} (c : Cxt K B0 H0 M H 𝓗) (hM : ∀ p xs, Mp p = some xs → M p = some xs) : Cxt K (fun a => if (Mp a).isSome = true then none else 𝓗 a) H Mp H 𝓗 := by
  refine ⟨Same.refl H, c.u, fun a o q => ?_, fun a q => .inl q, fun p xs q => ?_⟩
  · by_cases z : (Mp a).isSome = true
    · rw [if_pos z] at q; cases q
    · rw [if_neg z] at q; exact q
  · obtain ⟨h1, h2, h3⟩ := c.o p xs (hM p xs q)
    exact ⟨h1, by rw [q]; rfl, h3⟩
theorem call_out {H 𝓗 H' 𝓗' : Hp} {B0 H0 : Hp} {Mp M' : OH} (c : Cxt K B0 H0 M H 𝓗) (hM : ∀ p xs, Mp p = some xs → M p = some xs) (c' : Cxt K (fun a => if (Mp a).isSome = true then none else 𝓗 a) H M' H' 𝓗') : Cxt K B0 H0 (omerge M Mp M') H' 𝓗' := by
  have nb : ∀ a, (Mp a).isSome = true → B0 a = none := fun a z => by
    obtain ⟨xs, q⟩ := Option.isSome_iff_exists.mp z
    exact (c.o a xs (hM a xs q)).2.1
  have nbB : ∀ a, (if (Mp a).isSome = true then (none : Option HO) else 𝓗 a) = none → B0 a = none := fun a z => by
    by_cases y : (Mp a).isSome = true
    · exact nb a y
    · rw [if_neg y] at z; exact c.b.free z
  refine ⟨c.f.trans c'.f, c'.u, fun a o q => ?_, fun a q => ?_, fun p xs q => ?_⟩
  · refine c'.b a o ?_
    by_cases y : (Mp a).isSome = true
    · rw [nb a y] at q; cases q
    · rw [if_neg y]; exact c.b a o q
  · rcases c'.n a q with z | z
    · exact c.n a z
    · exact .inr (nbB a z)
  · unfold omerge at q
    cases e : M' p with
    | some ys =>
      rw [e] at q
      cases q
      obtain ⟨h1, h2, h3⟩ := c'.o p _ e
      exact ⟨h1, nbB p h2, h3⟩
    | none =>
      rw [e] at q
      have q : (if (Mp p).isSome = true then none else M p) = some xs := q
      by_cases y : (Mp p).isSome = true
      · rw [if_pos y] at q; cases q
      · rw [if_neg y] at q
        obtain ⟨h1, h2, vs, h3, h4⟩ := c.o p xs q
        have hp : H' p = none := by
          cases z : H' p with
          | none => rfl
          | some o =>
            rcases c'.n p (by rw [z]; simp) with z2 | z2
            · exact absurd h1 z2
            · rw [if_neg y, h3] at z2; cases z2
        exact ⟨hp, h2, vs, c'.b p _ (by rw [if_neg y]; exact h3), h4.mono c'.f⟩
/-- a def of the text, where it stands and what it promises -/
structure Def (P : Program) (w : World) (K : PySem.W.Frag) (mg : Str → Option Value) (base : Heap) (CX : CXT) (k : Nat) (x : Str) (ps : List Str) (p : Pr) : Prop where
  ex : ∃ f fd, FnOk P w K mg base CX k f fd ps (spM K p) ∧ mg x = some (.ref f) ∧ PySem.W.keepIn K (.ref f) = true ∧ Binds K fd ps []
theorem passes0 {X : Cx} {σ : L2.St} {E : XK} : PassesAt CX0 X σ E := fun _ _ _ _ _ _ h => h.elim
theorem passesX {i : F.ι} {σ : L2.St} : PassesAt (L2.CX (F.X i).prog (F.X i).w) (F.X i) σ (WE (mkW K F.B0 F.H0 F.ex) σ) := passAt (F.tk i) σ
theorem ew_callG {CX : CXT} {k : Nat} {x : Str} {ps : List Str} {p : Pr} {a : Expr} {es : List Expr} {p2 : Pos} (hx : ∀ i σ, PassesAt CX (F.X i) σ (WE (mkW K F.B0 F.H0 F.ex) σ)) (G : Def P w K mg base CX k x ps p)
    (h : AW F ρ M (a :: es) fun rs M1 => ∃ Mp : OH, (∀ q xs, Mp q = some xs → M1 q = some xs) ∧ p.pre rs Mp ∧ (∀ r M', p.post rs Mp r M' → (∀ q xs, M' q = some xs → (Mp q).isSome = true ∨ M1 q = none) → Q r (omerge M1 Mp M')) ∧ (∀ C M', p.err rs Mp C M' → F.ex C ρ (omerge M1 Mp M')))
    (hg : GL F x := by intro _; rfl) (hs : NS F a es := by intro _; rfl) (hpl : NP F pos es := by intro _; rfl) (hdb : (x == ("__debug__" : Str)) = false := by decide) (hk : k ≤ F.lv := by exact Nat.le_of_ble_eq_true rfl) : EW F ρ M (.Call (.Name x p2) (a :: es) [] pos) Q := .mk fun H 𝓗 σ c hE => by
  obtain ⟨f, fd, G, gm, gk, gb⟩ := G.ex
  have G' : ∀ i, FnOk (F.X i).prog (F.X i).w (F.X i).K (F.X i).mg (F.X i).base CX k f fd ps (spM K p) := fun i => by rw [F.eP i, F.ew i, F.eK i, F.eg i, F.eb i]; exact G
  refine uE.by (fun i => pe_callS (G' i) ((F.hr i).mono hk) (hg i) (hmg gm i) (by rw [F.eK i]; exact gk) (by rw [F.eK i]; exact gb) (hx i) (pa_u i) hdb (hs i) (hpl i)) ?_
  refine (h.run H 𝓗 σ c hE).mono fun vs 𝓗1 ⟨H1, M1, rs, c1, s1, q1, Mp, hM, hpre, hpost, herr⟩ => ?_
  refine ⟨H1, _, Mp, rs, call_in c1 hM, q1, hpre, fun v r H' 𝓗' M' c' ok po => ?_, fun C H' 𝓗' M' c' er => ?_⟩
  · refine ⟨H', _, r, call_out c1 hM c', s1.trans c'.f, ok, hpost r M' po fun q xs e => ?_⟩
    have z := (c'.o q xs e).2.1
    by_cases y : (Mp q).isSome = true
    · exact .inl y
    · rw [if_neg y] at z
      exact .inr (c1.none_of z).2.2
  · exact ⟨C, ρ, _, H', rfl, rfl, call_out c1 hM c', hE.mono (s1.trans c'.f), herr C M' er⟩
/-- a call of a def that raises nothing -/
theorem ew_call0 {k : Nat} {x : Str} {ps : List Str} {p : Pr} {a : Expr} {es : List Expr} {p2 : Pos} (G : Def P w K mg base CX0 k x ps p) (he : ∀ rs M C M', ¬ p.err rs M C M')
    (h : AW F ρ M (a :: es) fun rs M1 => ∃ Mp : OH, (∀ q xs, Mp q = some xs → M1 q = some xs) ∧ p.pre rs Mp ∧ (∀ r M', p.post rs Mp r M' → (∀ q xs, M' q = some xs → (Mp q).isSome = true ∨ M1 q = none) → Q r (omerge M1 Mp M')))
    (hg : GL F x := by intro _; rfl) (hs : NS F a es := by intro _; rfl) (hpl : NP F pos es := by intro _; rfl) (hdb : (x == ("__debug__" : Str)) = false := by decide) (hk : k ≤ F.lv := by exact Nat.le_of_ble_eq_true rfl) : EW F ρ M (.Call (.Name x p2) (a :: es) [] pos) Q :=
  ew_callG (fun _ _ => passes0) G (h.mono fun rs M1 ⟨Mp, h1, h2, h3⟩ => ⟨Mp, h1, h2, h3, fun C M' z => (he _ _ _ _ z).elim⟩) hg hs hpl hdb hk
theorem ew_callX {k : Nat} {x : Str} {ps : List Str} {p : Pr} {a : Expr} {es : List Expr} {p2 : Pos} (G : Def P w K mg base (L2.CX P w) k x ps p)
    (h : AW F ρ M (a :: es) fun rs M1 => ∃ Mp : OH, (∀ q xs, Mp q = some xs → M1 q = some xs) ∧ p.pre rs Mp ∧ (∀ r M', p.post rs Mp r M' → (∀ q xs, M' q = some xs → (Mp q).isSome = true ∨ M1 q = none) → Q r (omerge M1 Mp M')) ∧ (∀ C M', p.err rs Mp C M' → F.ex C ρ (omerge M1 Mp M')))
    (hg : GL F x := by intro _; rfl) (hs : NS F a es := by intro _; rfl) (hpl : NP F pos es := by intro _; rfl) (hdb : (x == ("__debug__" : Str)) = false := by decide) (hk : k ≤ F.lv := by exact Nat.le_of_ble_eq_true rfl) : EW F ρ M (.Call (.Name x p2) (a :: es) [] pos) Q :=
  ew_callG (fun i σ => by have z := passesX (F := F) (i := i) (σ := σ); rw [F.eP i, F.ew i] at z; exact z) G h hg hs hpl hdb hk
/-- plain data in, plain data out, nothing owned is touched -/
def prD (pre : List Dt → Prop) (post : List Dt → Dt → Prop) : Pr := { pre := fun rs M => M = OH0 ∧ ∃ ds, rs = ds.map .dat ∧ pre ds, post := fun rs _ r M' => M' = OH0 ∧ ∃ ds d, rs = ds.map .dat ∧ r = .dat d ∧ post ds d }
theorem map_dat_inj : ∀ {ds es : List Dt}, ds.map Sl.dat = es.map Sl.dat → ds = es
  | [], [], _ => rfl
  | [], _ :: _, h => by cases h
  | _ :: _, [], h => by cases h
  | d :: ds, e :: es, h => by
    rw [List.map_cons, List.map_cons] at h
    injection h with h1 h2
    injection h1 with h1
    rw [h1, map_dat_inj h2]
theorem omerge00 {M : OH} : omerge M OH0 OH0 = M := by funext a; rfl
theorem prD_out {pre : List Dt → Prop} {post : List Dt → Dt → Prop} {ds : List Dt} {M' : OH} (h : (prD pre post).post (ds.map .dat) OH0 r M') (q : ∀ d, post ds d → Q (.dat d) M) : Q r (omerge M OH0 M') := by
  obtain ⟨e1, ds', d, e2, e3, e4⟩ := h
  rw [e1, e3, omerge00]
  exact q d (map_dat_inj e2 ▸ e4)
theorem ew_callD {k : Nat} {x : Str} {ps : List Str} {pre : List Dt → Prop} {post : List Dt → Dt → Prop} {a : Expr} {es : List Expr} {p2 : Pos} {ds : List Dt} (G : Def P w K mg base CX0 k x ps (prD pre post))
    (ha : AD F ρ M (a :: es) (ds.map .dat)) (hp : pre ds) (q : ∀ d, post ds d → Q (.dat d) M) (hg : GL F x := by intro _; rfl) (hs : NS F a es := by intro _; rfl) (hpl : NP F pos es := by intro _; rfl) (hdb : (x == ("__debug__" : Str)) = false := by decide) (hk : k ≤ F.lv := by exact Nat.le_of_ble_eq_true rfl) :
    EW F ρ M (.Call (.Name x p2) (a :: es) [] pos) Q :=
  ew_call0 G (fun _ _ _ _ z => z) (ha.aw ⟨OH0, fun _ _ z => (by cases z), ⟨rfl, ds, rfl, hp⟩, fun r M' hh _ => prD_out hh q⟩) hg hs hpl hdb hk
theorem ed_F {pre : List Dt → Prop} {post : List Dt → Dt → Prop} {a : Expr} {es : List Expr} {k : Nat} {x : Str} {ps : List Str} {p2 pos : Pos} {ds : List Dt} (d0 : Dt) (G : Def P w K mg base CX0 k x ps (prD pre post))
    (ha : AD F ρ M (a :: es) (ds.map .dat)) (hp : pre ds) (q : ∀ d, post ds d → d = d0) (hg : GL F x := by intro _; rfl) (hs : NS F a es := by intro _; rfl) (hpl : NP F pos es := by intro _; rfl) (hdb : (x == ("__debug__" : Str)) = false := by decide) (hk : k ≤ F.lv := by exact Nat.le_of_ble_eq_true rfl) : ED F ρ M (.Call (.Name x p2) (a :: es) [] pos) (.dat d0) :=
  ew_callD G ha hp (fun d h => by rw [q d h]; exact ⟨rfl, rfl⟩) hg hs hpl hdb hk

/-- plain data in, a new list out -/
def prL (pre : List Dt → Prop) (post : List Dt → List Sl → Prop) : Pr := { pre := fun rs M => M = OH0 ∧ ∃ ds, rs = ds.map .dat ∧ pre ds, post := fun rs _ r M' => ∃ ds p xs, rs = ds.map .dat ∧ r = .raw (.ref p) ∧ M' = oset OH0 p xs ∧ post ds xs }
theorem omerge_new {M : OH} {p : Addr} {xs : List Sl} : omerge M OH0 (oset OH0 p xs) = oset M p xs := by
  funext a
  unfold omerge oset
  by_cases h : a = p
  · simp [h]
  · simp [h, OH0]
theorem ew_callL {k : Nat} {x : Str} {ps : List Str} {pre : List Dt → Prop} {post : List Dt → List Sl → Prop} {a : Expr} {es : List Expr} {p2 : Pos} {ds : List Dt} (G : Def P w K mg base CX0 k x ps (prL pre post))
    (ha : AD F ρ M (a :: es) (ds.map .dat)) (hp : pre ds) (q : ∀ p xs, post ds xs → M p = none → Q (.raw (.ref p)) (oset M p xs)) (hg : GL F x := by intro _; rfl) (hs : NS F a es := by intro _; rfl) (hpl : NP F pos es := by intro _; rfl) (hdb : (x == ("__debug__" : Str)) = false := by decide) (hk : k ≤ F.lv := by exact Nat.le_of_ble_eq_true rfl) :
    EW F ρ M (.Call (.Name x p2) (a :: es) [] pos) Q :=
  ew_call0 G (fun _ _ _ _ z => z) (ha.aw ⟨OH0, fun _ _ z => (by cases z), ⟨rfl, ds, rfl, hp⟩, fun r M' hh hn => by
    obtain ⟨ds', p, xs, e1, e2, e3, e4⟩ := hh
    subst e2 e3
    rw [omerge_new]
    refine q p xs (map_dat_inj e1 ▸ e4) ?_
    rcases hn p xs oset_same with z | z
    · cases z
    · exact z⟩) hg hs hpl hdb hk

/-! ### a def's body -/
def startR (N : List Str) (rs : List Sl) : Rho := rs ++ List.replicate (N.length - rs.length) .un
theorem startR_ok {H : Hp} {N : List Str} {vs : List V} {rs : List Sl} (h : SlsOk K H vs rs) : EnvOk K H (L2.start N vs) (startR N rs) := by
  show EnvOk K H (vs.map some ++ List.replicate (N.length - vs.length) none) (rs ++ List.replicate (N.length - rs.length) .un)
  rw [h.length]
  refine paired_append ?_ ?_
  · induction h with
    | nil => exact .nil
    | cons a b ih => exact .cons (PlOk.of a) ih
  · generalize N.length - rs.length = n
    induction n with
    | zero => exact .nil
    | succ n ih => exact .cons trivial ih
/-- the context of a body that raises nothing -/
def fm0 (P : Program) (w : World) (K : PySem.W.Frag) (mg : Str → Option Value) (base : Heap) {N ps : List Str} {sc : Scope} (S : FnScope N ps sc) (qual : Str) (f : Addr) (cd : Value) (A : Around) (outer : List Env) (s : Shared) (H : Hp) (E : XK) (k : Nat)
    (hr : Room k (A.deeper (envOfC qual sc s.heap.objs.size f cd))) (B0 H0 : Hp) : Fm P w K mg base N sc where
  ι := Unit
  X := fun _ => (cxOf CX0 P w K mg base N qual sc f cd A outer s H E).nox
  eP := fun _ => rfl
  ew := fun _ => rfl
  eK := fun _ => rfl
  eg := fun _ => rfl
  eb := fun _ => rfl
  eN := fun _ => rfl
  es := fun _ => rfl
  nd := S.nd
  lv := k
  hr := fun _ => hr
  hc := fun _ => rfl
  po := fun _ => PassesOwn.never
  B0 := B0
  H0 := H0
  ex := fun _ _ _ => False
  tk := fun _ u s' x => by
    obtain ⟨_, _, _, _, _, _, _, _, _, _, _, _, _, _, _, _, z⟩ := x
    obtain ⟨_, _, _, _, _, _, _, _, z⟩ := z
    exact z.elim
theorem fn0 {x qual : Str} {st : Stmt} {f : Addr} {fd : FuncData} {N ps : List Str} {k : Nat} {p : Pr} (Fd : Fun K x qual st f fd) (S : FnScope N ps (defScope st)) (len : ∀ rs M, p.pre rs M → rs.length = ps.length)
    (body : ∀ cd A outer s H E hr B0 H0 rs M, p.pre rs M → SX (fm0 P w K mg base S qual f cd A outer s H E k hr B0 H0) (startR N rs) M (defBody st) { nx := fun _ M' => p.post rs M (.dat .non) M', rt := fun r M' => p.post rs M r M' }) :
    FnOk P w K mg base CX0 (k + 1) f fd ps (spM K p) := by
  refine Fd.ok S (fun vs H Q E h => ?_) (fun cdv A outer s 𝓗 vs Q E hr h => ?_)
  · obtain ⟨H, B, M, rs, _, q, pre, _⟩ := h
    rw [q.length]; exact len rs M pre
  · obtain ⟨H, B, M, rs, c, q, pre, ret, _⟩ := h
    refine ⟨_, pss_u (F := fm0 P w K mg base S qual f cdv A outer s 𝓗 E k hr B H) (), ?_⟩
    refine ((body cdv A outer s 𝓗 E hr B H rs M pre).run H 𝓗 (L2.start N vs) c (startR_ok q)).mono ⟨fun σ 𝓗' ⟨ρ', M', H', c', s', hE', po⟩ => ?_, fun v 𝓗' ⟨r, M', H', c', ok, po⟩ => ?_, fun σ 𝓗' ⟨ρ', M', H', c', s', hE', po⟩ => ?_, fun σ 𝓗' ⟨ρ', M', H', c', s', hE', po⟩ => ?_⟩
    · exact ret .non (.dat .non) H' 𝓗' M' c' (by show DA K H' _ _; unfold DA; rfl) po
    · exact ret v r H' 𝓗' M' c' ok po
    · exact po.elim
    · exact po.elim
theorem def0 {x qual : Str} {st : Stmt} {f : Addr} {fd : FuncData} {N ps : List Str} {k : Nat} {p : Pr} (Fd : Fun K x qual st f fd) (hm : mg x = some (.ref f)) (hb : Binds K fd ps []) (S : FnScope N ps (defScope st)) (len : ∀ rs M, p.pre rs M → rs.length = ps.length)
    (body : ∀ cd A outer s H E hr B0 H0 rs M, p.pre rs M → SX (fm0 P w K mg base S qual f cd A outer s H E k hr B0 H0) (startR N rs) M (defBody st) { nx := fun _ M' => p.post rs M (.dat .non) M', rt := fun r M' => p.post rs M r M' }) :
    Def P w K mg base CX0 (k + 1) x ps p := ⟨f, fd, fn0 Fd S len body, hm, Fd.kp, hb⟩

/-! ### for -/
/-- for x in a list of data -/
inductive DLs : Dt → List Dt → Prop
  | lst (ds : List Dt) : DLs (.lst ds) ds
  | scr (ds : List Dt) : DLs (.scr ds) ds
theorem DLs.seq {H : Hp} {d : Dt} {ds : List Dt} {v : V} (h : DLs d ds) (q : DA K H d v) : ∃ p vs, v = .ref p ∧ SqL K H p vs ∧ SlsOk K H vs (ds.map .dat) := by
  cases h with
  | lst =>
    unfold DA at q
    obtain ⟨p, vs, e1, e2, e3⟩ := q
    exact ⟨p, vs, e1, SqL.of e2, SlsOk.das.mpr e3⟩
  | scr =>
    unfold DA at q
    obtain ⟨p, vs, e1, e2, e3⟩ := q
    exact ⟨p, vs, e1, e2, SlsOk.das.mpr e3⟩
theorem fList {tg it : Expr} (j : F.ι) : PI (F.X j) tg it (iList K (uE F it)) := by have z := pi_list (X := F.X j) (tg := tg) (pe_u (e := it) j); rw [F.eK j] at z; exact z
theorem dat_get {xs : List Dt} {k : Nat} {r : Sl} (h : (xs.map Sl.dat)[k]? = some r) : ∃ d, xs[k]? = some d ∧ r = .dat d := by
  rw [List.getElem?_map] at h
  cases e : xs[k]? with
  | none => rw [e] at h; cases h
  | some d => rw [e] at h; exact ⟨d, rfl, (Option.some.inj h).symm⟩
theorem s_forL (i : Nat) {it : Expr} {body : List Stmt} {x : Str} {px : Pos} {d : Dt} {xs : List Dt} (Pv : Nat → Rho → OH → Prop) (hi : ED F ρ M it (.dat d)) (hl : DLs d xs) (h0 : Pv 0 ρ M)
    (hs : ∀ k r ρ' M', xs[k]? = some r → Pv k ρ' M' → SX F (ρ'.set i (.dat r)) M' body { D with nx := Pv (k + 1), ct := Pv (k + 1), bk := D.nx }) (hd : ∀ ρ' M', Pv xs.length ρ' M' → D.nx ρ' M')
    (hN : N[i]? = some x := by decide +kernel) (hx : ∀ j, Loc (F.X j).env.scope x := by intro _; first | exact Or.inl rfl | exact Or.inr rfl) (hf : ∀ j, (F.X j).fn x = true ∨ (F.X j).env.scope.names.lookup x = some .local := by intro _; first | exact .inl rfl | exact .inr rfl)
    (hss : ∀ j y, foldedSetIterable it (F.X j).env y = pure y := by intro _ _; rfl) : S1 F ρ M (.For (.Name x px) it body [] pos) D := .mk fun H 𝓗 σ c hE => by
  refine uS.by (fun j => ps_for (F.po j) (F.hc j) (fList j) (pg_name (by rw [F.eN j]; exact F.nd) (by rw [F.eN j]; exact hN) (hx j) (hf j)) (pss_u j) (hss j)) ((hi.run H 𝓗 σ c hE).mono fun v 𝓗1 ⟨H1, M1, r1, c1, s1, q1, e1, e2⟩ => ?_)
  subst e1 e2
  obtain ⟨p, vs, rfl, q2, q3⟩ := hl.seq q1
  have len : vs.length = xs.length := by rw [q3.length, List.length_map]
  refine ⟨p, rfl, ⟨vs, c1.u.seq q2⟩, for_list (K := K) (a := p) (xs := vs) (fun k => QN F H1 (fun ρ' M' => Pv k ρ' M')) ⟨ρ, _, H1, c1, Same.refl _, hE.mono s1, h0⟩ ?_ ?_ ?_⟩
  · rintro k σ' 𝓗' _ ⟨ρ', M', H', c', s', hE', pv⟩
    exact c'.u.seq (s'.seq q2)
  · rintro k v σ' 𝓗' hv ⟨ρ', M', H', c', s', hE', pv⟩
    obtain ⟨r', e5, e6⟩ := paired_get' q3 hv
    obtain ⟨d', e7, rfl⟩ := dat_get e5
    exact ((hs k d' ρ' M' e7 pv).at c' (hE'.set i (e6.mono s')) s').mono ⟨fun _ _ q => q, fun _ _ q => q, QN.imp s1 fun _ _ q => q, fun _ _ q => q⟩
  · rintro σ' 𝓗' ⟨ρ', M', H', c', s', hE', pv⟩
    exact ⟨ρ', M', H', c', s1.trans s', hE', hd ρ' M' (by rw [← len]; exact pv)⟩
theorem s_forR (i : Nat) {a : Expr} {body : List Stmt} {x : Str} {px p2 p3 : Pos} {n : Int} (m : Nat) (Pv : Nat → Rho → OH → Prop) (mr : mg "range" = none) (ha : ED F ρ M a (.dat (.int n))) (hn : n = (m : Int)) (hz : m ≤ 100000) (h0 : Pv 0 ρ M)
    (hs : ∀ (k : Nat) ρ' M', k < m → Pv k ρ' M' → SX F (ρ'.set i (.dat (.int (k : Int)))) M' body { D with nx := Pv (k + 1), ct := Pv (k + 1), bk := D.nx }) (hd : ∀ ρ' M', Pv m ρ' M' → D.nx ρ' M')
    (hg : GL F "range" := by intro _; rfl) (hns : NS F a [] := by intro _; rfl)
    (hN : N[i]? = some x := by decide +kernel) (hx : ∀ j, Loc (F.X j).env.scope x := by intro _; first | exact Or.inl rfl | exact Or.inr rfl) (hf : ∀ j, (F.X j).fn x = true ∨ (F.X j).env.scope.names.lookup x = some .local := by intro _; first | exact .inl rfl | exact .inr rfl)
    (hss : ∀ j y, foldedSetIterable (.Call (.Name "range" p2) [a] [] p3) (F.X j).env y = pure y := by intro _ _; rfl) : S1 F ρ M (.For (.Name x px) (.Call (.Name "range" p2) [a] [] p3) body [] pos) D := .mk fun H 𝓗 σ c hE => by
  subst hn
  refine uS.by (fun j => ps_for (F.po j) (F.hc j) (pi_range1 (hg j) (hmg mr j) (pa_u j) (hns j)) (pg_name (by rw [F.eN j]; exact F.nd) (by rw [F.eN j]; exact hN) (hx j) (hf j)) (pss_u j) (hss j)) (((ad_cons ha ad_nil hns).run H 𝓗 σ c hE).mono fun vs 𝓗1 ⟨H1, M1, r1, c1, s1, q1, e1, e2⟩ => ?_)
  subst e1 e2
  obtain ⟨v, rfl, qv⟩ := sl1 q1
  have qv' : v = .int (m : Int) := qv
  subst qv'
  refine ⟨m, rfl, by omega, by omega, ?_⟩
  refine for_range (lo := 0) (n := ((m : Int)).toNat) (fun k => QN F H1 (fun ρ' M' => Pv k ρ' M')) ⟨ρ, _, H1, c1, Same.refl _, hE.mono s1, h0⟩ ?_ ?_
  · rintro k σ' 𝓗' hk ⟨ρ', M', H', c', s', hE', pv⟩
    have hk' : k < m := by omega
    have e0 : (0 : Int) + (k : Int) = (k : Int) := Int.zero_add _
    show uSs F body _ (σ'.set i (some (.int ((0 : Int) + (k : Int))))) 𝓗'
    rw [e0]
    exact ((hs k ρ' M' hk' pv).at c' (hE'.set i (s := .dat (.int (k : Int))) (by show DA K H' _ _; unfold DA; rfl)) s').mono ⟨fun _ _ q => q, fun _ _ q => q, QN.imp s1 fun _ _ q => q, fun _ _ q => q⟩
  · rintro σ' 𝓗' ⟨ρ', M', H', c', s', hE', pv⟩
    exact ⟨ρ', M', H', c', s1.trans s', hE', hd ρ' M' pv⟩
end
end DL
namespace DL
open PySem PySem.Spec PyProof.Rows L2
section
variable {P : Program} {w : World} {K : PySem.W.Frag} {mg : Str → Option Value} {base : Heap}
/-- a def of the top, where it stands -/
def At (K : PySem.W.Frag) (mg : Str → Option Value) (x : Str) (st : Stmt) (ps : List Str) : Prop := ∃ f fd, Fun K x x st f fd ∧ mg x = some (.ref f) ∧ Binds K fd ps []
theorem at_mk {h : Heap} {x : Str} {st : Stmt} {ps : List Str} {f : Addr} {od an : Option Addr} {sl : Array (Option Value)} {oc kV dc pm cd ct : Value} (X : K.In h) (G : h.Ns mainGlobals mg)
    (a : PySem.W.nsIn K mainGlobals x = some (some (.ref f))) (l : K.lookup f = some ⟨oc, od, .func (PySem.W.fnOf x x (defArgs st) (defBody st) (defScope st) .none kV dc pm an cd ct), sl⟩) (c : PySem.W.codeIn K cd x = true) (k : PySem.W.keepIn K (.ref f) = true)
    (hb : ∀ (kV doc pm : Value) (an : Option Addr) (cdv ct : Value) (us : List Value), us.length = ps.length → bindArgs (PySem.W.fnOf x x (defArgs st) (defBody st) (defScope st) .none kV doc pm an cdv ct) ⟨us, []⟩ = pure (ps.zip us)) : At K mg x st ps := by
  have F := fun_mk (x := x) (qual := x) (st := st) l c k
  exact ⟨f, _, F, PySem.W.mg_of X G a, F.binds hb⟩
theorem defA {x : Str} {st : Stmt} {N ps : List Str} (k : Nat) {p : Pr} (a : At K mg x st ps) (S : FnScope N ps (defScope st)) (len : ∀ rs M, p.pre rs M → rs.length = ps.length)
    (body : ∀ f cd A outer s H E hr B0 H0 rs M, p.pre rs M → SX (fm0 P w K mg base S x f cd A outer s H E k hr B0 H0) (startR N rs) M (defBody st) { nx := fun _ M' => p.post rs M (.dat .non) M', rt := fun r M' => p.post rs M r M' }) :
    Def P w K mg base CX0 (k + 1) x ps p := by
  obtain ⟨f, fd, F, hm, hb⟩ := a
  exact def0 F hm hb S len fun cd A outer s H E hr B0 H0 rs M => body f cd A outer s H E hr B0 H0 rs M
/-- what the law's own def promises -/
def prLaw : Pr := { pre := fun rs M => M = OH0 ∧ ∃ ns : List Int, rs = [.dat (.scr (ns.map .int))] ∧ ns.length ≤ 63, post := fun _ _ r _ => r = .dat (.bl true) }
def spLaw (K : PySem.W.Frag) : Sp := fun vs H Q _ => ∃ (a : Addr) (ns : List Int), vs = [.ref a] ∧ SqL K H a (ns.map V.int) ∧ ns.length ≤ 63 ∧ ∀ H', Q (.bl true) H'
theorem das_ints {H : Hp} : ∀ ns : List Int, DAs K H (ns.map .int) (ns.map V.int)
  | [] => by unfold DAs; rfl
  | n :: ns => by
    show DAs K H (.int n :: ns.map .int) _
    unfold DAs
    exact ⟨.int n, ns.map V.int, rfl, by unfold DA; rfl, das_ints ns⟩
theorem law_imp {CX : CXT} {k : Nat} {f : Addr} {fd : FuncData} {ps : List Str} (G : FnOk P w K mg base CX k f fd ps (spM K prLaw)) : FnOk P w K mg base CX k f fd ps (spLaw K) := G.imp fun vs H Q E ⟨a, ns, e1, hS, hl, q⟩ => by
  subst e1
  refine ⟨H, H, OH0, [.dat (.scr (ns.map .int))], ⟨Same.refl H, Same.refl H, Same.refl H, fun _ z => .inl z, fun _ _ z => by cases z⟩, .cons ?_ .nil, ⟨rfl, ns, rfl, hl⟩, fun v r H' 𝓗' M' _ ok e => ?_, fun _ _ _ _ _ z => z.elim⟩
  · show DA K H (.scr (ns.map .int)) _
    unfold DA
    exact ⟨a, _, rfl, hS, das_ints ns⟩
  · have e' : r = .dat (.bl true) := e
    subst e'
    have ok' : DA K H' (.bl true) v := ok
    unfold DA at ok'
    rw [ok']
    exact q 𝓗'
theorem law_def {CX : CXT} {k : Nat} {x : Str} (D : Def P w K mg base CX k x ["_law_script"] prLaw) {fa : Addr} (h : mg x = some (.ref fa)) : ∃ fd, FnOk P w K mg base CX k fa fd ["_law_script"] (spLaw K) := by
  obtain ⟨f, fd, G, hm, _, _⟩ := D.ex
  rw [hm] at h
  cases h
  exact ⟨fd, law_imp G⟩
end
end DL
namespace DL
open PySem PySem.Spec PyProof.Rows L2
section
variable {P : Program} {w : World} {K : PySem.W.Frag} {mg : Str → Option Value} {base : Heap} {N : List Str} {sc : Scope} {F : Fm P w K mg base N sc}
variable {ρ : Rho} {M : OH} {e a b c : Expr} {pos : Pos} {r r1 r2 : Sl} {Q : Sl → OH → Prop} {D : DE}
/-! ### == of scalars -/
/-- None, bools, ints, texts -/
def sV : Dt → Option V
  | .non => some .non
  | .bl b => some (.bl b)
  | .int i => some (.int i)
  | .str x => some (.str x)
  | _ => none
theorem sV_ok {H : Hp} {d : Dt} {v u : V} (h : DA K H d v) (e : sV d = some u) : v = u := by
  cases d with
  | non => cases e; unfold DA at h; exact h
  | bl b => cases e; unfold DA at h; exact h
  | int b => cases e; unfold DA at h; exact h
  | str b => cases e; unfold DA at h; exact h
  | lst _ => cases e
  | tup _ => cases e
  | nup _ => cases e
  | scr _ => cases e
  | ins _ _ _ => cases e
theorem op2_eq {x y : Dt} {u v : V} (e1 : sV x = some u) (e2 : sV y = some v) (hs : scal u v = true) : Op2 F rEq (.dat x) (.dat y) M fun r' M' => r' = .dat (.bl (decide (u = v))) ∧ M' = M := fun H 𝓗 p q Q' c q1 q2 k => by
  rw [sV_ok q1 e1, sV_ok q2 e2]
  exact ⟨hs, here c k (by show DA K H _ _; unfold DA; rfl)⟩
theorem op2_ne {x y : Dt} {u v : V} (e1 : sV x = some u) (e2 : sV y = some v) (hs : scal u v = true) : Op2 F rNe (.dat x) (.dat y) M fun r' M' => r' = .dat (.bl (!decide (u = v))) ∧ M' = M := fun H 𝓗 p q Q' c q1 q2 k => by
  rw [sV_ok q1 e1, sV_ok q2 e2]
  exact ⟨hs, here c k (by show DA K H _ _; unfold DA; rfl)⟩
theorem dI {i j : Int} : decide (V.int i = V.int j) = decide (i = j) := by
  by_cases h : i = j
  · subst h; simp
  · rw [decide_eq_false h, decide_eq_false (fun z => h (V.int.inj z))]
theorem dS {i j : Str} : decide (V.str i = V.str j) = decide (i = j) := by
  by_cases h : i = j
  · subst h; simp
  · rw [decide_eq_false h, decide_eq_false (fun z => h (V.str.inj z))]
theorem dB {i j : Bool} : decide (V.bl i = V.bl j) = decide (i = j) := by
  by_cases h : i = j
  · subst h; simp
  · rw [decide_eq_false h, decide_eq_false (fun z => h (V.bl.inj z))]
section
variable {i j : Int} {s t : Str} {k l : Bool}
theorem ed_eqI (ha : ED F ρ M a (.dat (.int i))) (hb : ED F ρ M b (.dat (.int j))) : ED F ρ M (.Compare a [.Eq] [b] pos) (.dat (.bl (decide (i = j)))) := by rw [← dI]; exact ed_op2 (fun _ => pe_cmpR op_eq (pe_u _) (pe_u _) (nomark _)) ha hb (op2_eq rfl rfl rfl)
theorem ed_neI (ha : ED F ρ M a (.dat (.int i))) (hb : ED F ρ M b (.dat (.int j))) : ED F ρ M (.Compare a [.NotEq] [b] pos) (.dat (.bl (!decide (i = j)))) := by rw [← dI]; exact ed_op2 (fun _ => pe_cmpR op_ne (pe_u _) (pe_u _) (nomark _)) ha hb (op2_ne rfl rfl rfl)
theorem td_eqI (ha : ED F ρ M a (.dat (.int i))) (hb : ED F ρ M b (.dat (.int j))) : TD F ρ M (.Compare a [.Eq] [b] pos) (decide (i = j)) := by rw [← dI]; exact td_op2 (fun _ => pt_cmpR op_eq (pe_u _) (pe_u _) (nomark _)) ha hb (op2_eq rfl rfl rfl)
theorem td_neI (ha : ED F ρ M a (.dat (.int i))) (hb : ED F ρ M b (.dat (.int j))) : TD F ρ M (.Compare a [.NotEq] [b] pos) (!decide (i = j)) := by rw [← dI]; exact td_op2 (fun _ => pt_cmpR op_ne (pe_u _) (pe_u _) (nomark _)) ha hb (op2_ne rfl rfl rfl)
theorem ed_eqS (ha : ED F ρ M a (.dat (.str s))) (hb : ED F ρ M b (.dat (.str t))) : ED F ρ M (.Compare a [.Eq] [b] pos) (.dat (.bl (decide (s = t)))) := by rw [← dS]; exact ed_op2 (fun _ => pe_cmpR op_eq (pe_u _) (pe_u _) (nomark _)) ha hb (op2_eq rfl rfl rfl)
theorem ed_neS (ha : ED F ρ M a (.dat (.str s))) (hb : ED F ρ M b (.dat (.str t))) : ED F ρ M (.Compare a [.NotEq] [b] pos) (.dat (.bl (!decide (s = t)))) := by rw [← dS]; exact ed_op2 (fun _ => pe_cmpR op_ne (pe_u _) (pe_u _) (nomark _)) ha hb (op2_ne rfl rfl rfl)
theorem td_eqS (ha : ED F ρ M a (.dat (.str s))) (hb : ED F ρ M b (.dat (.str t))) : TD F ρ M (.Compare a [.Eq] [b] pos) (decide (s = t)) := by rw [← dS]; exact td_op2 (fun _ => pt_cmpR op_eq (pe_u _) (pe_u _) (nomark _)) ha hb (op2_eq rfl rfl rfl)
theorem td_neS (ha : ED F ρ M a (.dat (.str s))) (hb : ED F ρ M b (.dat (.str t))) : TD F ρ M (.Compare a [.NotEq] [b] pos) (!decide (s = t)) := by rw [← dS]; exact td_op2 (fun _ => pt_cmpR op_ne (pe_u _) (pe_u _) (nomark _)) ha hb (op2_ne rfl rfl rfl)
theorem ed_eqB (ha : ED F ρ M a (.dat (.bl k))) (hb : ED F ρ M b (.dat (.bl l))) : ED F ρ M (.Compare a [.Eq] [b] pos) (.dat (.bl (decide (k = l)))) := by rw [← dB]; exact ed_op2 (fun _ => pe_cmpR op_eq (pe_u _) (pe_u _) (nomark _)) ha hb (op2_eq rfl rfl rfl)
theorem td_eqB (ha : ED F ρ M a (.dat (.bl k))) (hb : ED F ρ M b (.dat (.bl l))) : TD F ρ M (.Compare a [.Eq] [b] pos) (decide (k = l)) := by rw [← dB]; exact td_op2 (fun _ => pt_cmpR op_eq (pe_u _) (pe_u _) (nomark _)) ha hb (op2_eq rfl rfl rfl)
theorem td_neB (ha : ED F ρ M a (.dat (.bl k))) (hb : ED F ρ M b (.dat (.bl l))) : TD F ρ M (.Compare a [.NotEq] [b] pos) (!decide (k = l)) := by rw [← dB]; exact td_op2 (fun _ => pt_cmpR op_ne (pe_u _) (pe_u _) (nomark _)) ha hb (op2_ne rfl rfl rfl)
end
/-! ### and, or, not -/
section
variable {rest : List Expr} {k l : Bool}
theorem ew_and {Q : Sl → OH → Prop} (ha : EW F ρ M a fun x M1 => ∃ k, x = .dat (.bl k) ∧ if k = true then EW F ρ M1 (.BoolOp .And (b :: rest) pos) Q else Q (.dat (.bl false)) M1) : EW F ρ M (.BoolOp .And (a :: b :: rest) pos) Q := .mk fun H 𝓗 σ c hE => by
  refine uE.by (fun j => pe_and (pe_u j) (pe_u j)) ((ha.run H 𝓗 σ c hE).mono fun v 𝓗1 ⟨H1, M1, r1, c1, s1, q1, k, e1, q⟩ => ?_)
  subst e1
  refine ⟨k, q1, ?_⟩
  cases k with
  | true => exact (q.run H1 𝓗1 σ c1 (hE.mono s1)).mono fun _ _ z => z.up s1
  | false => exact ⟨H1, M1, _, c1, s1, (by show DA K H1 _ _; unfold DA; rfl), q⟩
theorem ew_or {Q : Sl → OH → Prop} (ha : EW F ρ M a fun x M1 => ∃ k, x = .dat (.bl k) ∧ if k = true then Q (.dat (.bl true)) M1 else EW F ρ M1 (.BoolOp .Or (b :: rest) pos) Q) : EW F ρ M (.BoolOp .Or (a :: b :: rest) pos) Q := .mk fun H 𝓗 σ c hE => by
  refine uE.by (fun j => pe_or (pe_u j) (pe_u j)) ((ha.run H 𝓗 σ c hE).mono fun v 𝓗1 ⟨H1, M1, r1, c1, s1, q1, k, e1, q⟩ => ?_)
  subst e1
  refine ⟨k, q1, ?_⟩
  cases k with
  | false => exact (q.run H1 𝓗1 σ c1 (hE.mono s1)).mono fun _ _ z => z.up s1
  | true => exact ⟨H1, M1, _, c1, s1, (by show DA K H1 _ _; unfold DA; rfl), q⟩
theorem ew_one {op} {Q : Sl → OH → Prop} (h : EW F ρ M a Q) : EW F ρ M (.BoolOp op [a] pos) Q := .mk fun H 𝓗 σ c hE => uE.by (fun j => pe_one (pe_u j)) (h.run H 𝓗 σ c hE)
theorem ed_one {op} (h : ED F ρ M a r) : ED F ρ M (.BoolOp op [a] pos) r := ew_one h
theorem ed_and (ha : ED F ρ M a (.dat (.bl k))) (hb : k = true → ED F ρ M (.BoolOp .And (b :: rest) pos) (.dat (.bl l))) : ED F ρ M (.BoolOp .And (a :: b :: rest) pos) (.dat (.bl (k && l))) := ew_and (ha.ew ⟨k, rfl, by
  cases k with
  | true => exact hb rfl
  | false => exact ⟨rfl, rfl⟩⟩)
theorem ed_or (ha : ED F ρ M a (.dat (.bl k))) (hb : k = false → ED F ρ M (.BoolOp .Or (b :: rest) pos) (.dat (.bl l))) : ED F ρ M (.BoolOp .Or (a :: b :: rest) pos) (.dat (.bl (k || l))) := ew_or (ha.ew ⟨k, rfl, by
  cases k with
  | false => exact hb rfl
  | true => exact ⟨rfl, rfl⟩⟩)
theorem ew_not {Q : Sl → OH → Prop} (ha : EW F ρ M a fun x M1 => ∃ k, x = .dat (.bl k) ∧ Q (.dat (.bl (!k))) M1) : EW F ρ M (.UnaryOp .Not a pos) Q := .mk fun H 𝓗 σ c hE => by
  refine uE.by (fun j => pe_not (pe_u j)) ((ha.run H 𝓗 σ c hE).mono fun v 𝓗1 ⟨H1, M1, r1, c1, s1, q1, k, e1, q⟩ => ?_)
  subst e1
  exact ⟨k, q1, H1, M1, _, c1, s1, (by show DA K H1 _ _; unfold DA; rfl), q⟩
theorem ed_not (ha : ED F ρ M a (.dat (.bl k))) : ED F ρ M (.UnaryOp .Not a pos) (.dat (.bl (!k))) := ew_not (ha.ew ⟨k, rfl, rfl, rfl⟩)
/-- .. as tests -/
theorem WW.tw {Q : Bool → OH → Prop} (h : WW F ρ M e Q) : TW F ρ M e Q := .mk fun H 𝓗 σ c hE => uT.by (fun j => (pw_u j).pt) (h.run H 𝓗 σ c hE)
theorem ww_and {Q : Bool → OH → Prop} (ha : TW F ρ M a fun k M1 => if k = true then WW F ρ M1 (.BoolOp .And (b :: rest) pos) Q else Q false M1) : WW F ρ M (.BoolOp .And (a :: b :: rest) pos) Q := .mk fun H 𝓗 σ c hE => by
  refine uW.by (fun j => pw_and (pt_u j) (pw_u j)) ((ha.run H 𝓗 σ c hE).mono fun k 𝓗1 ⟨H1, M1, c1, s1, q⟩ => ?_)
  cases k with
  | true => exact (q.run H1 𝓗1 σ c1 (hE.mono s1)).mono fun _ _ ⟨H2, M2, c2, s2, q2⟩ => ⟨H2, M2, c2, s1.trans s2, q2⟩
  | false => exact ⟨H1, M1, c1, s1, q⟩
theorem ww_or {Q : Bool → OH → Prop} (ha : TW F ρ M a fun k M1 => if k = true then Q true M1 else WW F ρ M1 (.BoolOp .Or (b :: rest) pos) Q) : WW F ρ M (.BoolOp .Or (a :: b :: rest) pos) Q := .mk fun H 𝓗 σ c hE => by
  refine uW.by (fun j => pw_or (pt_u j) (pw_u j)) ((ha.run H 𝓗 σ c hE).mono fun k 𝓗1 ⟨H1, M1, c1, s1, q⟩ => ?_)
  cases k with
  | false => exact (q.run H1 𝓗1 σ c1 (hE.mono s1)).mono fun _ _ ⟨H2, M2, c2, s2, q2⟩ => ⟨H2, M2, c2, s1.trans s2, q2⟩
  | true => exact ⟨H1, M1, c1, s1, q⟩
theorem ww_and1 {Q : Bool → OH → Prop} (ha : TW F ρ M a Q) : WW F ρ M (.BoolOp .And [a] pos) Q := .mk fun H 𝓗 σ c hE => uW.by (fun j => pw_and1 (pt_u j)) (ha.run H 𝓗 σ c hE)
theorem ww_or1 {Q : Bool → OH → Prop} (ha : TW F ρ M a Q) : WW F ρ M (.BoolOp .Or [a] pos) Q := .mk fun H 𝓗 σ c hE => uW.by (fun j => pw_or1 (pt_u j)) (ha.run H 𝓗 σ c hE)
theorem tw_not {Q : Bool → OH → Prop} (ha : TW F ρ M a fun k M1 => Q (!k) M1) : TW F ρ M (.UnaryOp .Not a pos) Q := .mk fun H 𝓗 σ c hE => uT.by (fun j => pt_not (pt_u j)) ((ha.run H 𝓗 σ c hE).mono fun _ _ q => q)
def WD (F : Fm P w K mg base N sc) (ρ : Rho) (M : OH) (e : Expr) (k : Bool) : Prop := WW F ρ M e fun k' M' => k' = k ∧ M' = M
theorem WD.td (h : WD F ρ M e k) : TD F ρ M e k := WW.tw h
theorem wd_and (ha : TD F ρ M a k) (hb : k = true → WD F ρ M (.BoolOp .And (b :: rest) pos) l) : WD F ρ M (.BoolOp .And (a :: b :: rest) pos) (k && l) := ww_and (ha.tw (by
  cases k with
  | true => exact hb rfl
  | false => exact ⟨rfl, rfl⟩))
theorem wd_or (ha : TD F ρ M a k) (hb : k = false → WD F ρ M (.BoolOp .Or (b :: rest) pos) l) : WD F ρ M (.BoolOp .Or (a :: b :: rest) pos) (k || l) := ww_or (ha.tw (by
  cases k with
  | false => exact hb rfl
  | true => exact ⟨rfl, rfl⟩))
theorem wd_and1 (ha : TD F ρ M a k) : WD F ρ M (.BoolOp .And [a] pos) k := ww_and1 ha
theorem wd_or1 (ha : TD F ρ M a k) : WD F ρ M (.BoolOp .Or [a] pos) k := ww_or1 ha
theorem td_not (ha : TD F ρ M a k) : TD F ρ M (.UnaryOp .Not a pos) (!k) := tw_not (ha.tw ⟨rfl, rfl⟩)
theorem td_and (ha : TD F ρ M a k) (hb : k = true → WD F ρ M (.BoolOp .And (b :: rest) pos) l) : TD F ρ M (.BoolOp .And (a :: b :: rest) pos) (k && l) := (wd_and ha hb).td
theorem td_or (ha : TD F ρ M a k) (hb : k = false → WD F ρ M (.BoolOp .Or (b :: rest) pos) l) : TD F ρ M (.BoolOp .Or (a :: b :: rest) pos) (k || l) := (wd_or ha hb).td
theorem ew_ifE (h : TW F ρ M c fun k M1 => if k = true then EW F ρ M1 a Q else EW F ρ M1 b Q) : EW F ρ M (.IfExp c a b pos) Q := .mk fun H 𝓗 σ cc hE => by
  refine uE.by (fun j => pe_ifExp (pt_u j) (pe_u j) (pe_u j)) ((h.run H 𝓗 σ cc hE).mono fun k 𝓗1 ⟨H1, M1, c1, s1, q⟩ => ?_)
  cases k with
  | true => exact (q.run H1 𝓗1 σ c1 (hE.mono s1)).mono fun _ _ z => z.up s1
  | false => exact (q.run H1 𝓗1 σ c1 (hE.mono s1)).mono fun _ _ z => z.up s1
theorem ed_neg {i : Int} (ha : ED F ρ M a (.dat (.int i))) : ED F ρ M (.UnaryOp .USub a pos) (.dat (.int (-i))) := .mk fun H 𝓗 σ c hE => by
  refine uE.by (fun j => pe_un un_neg (pe_u j)) ((ha.run H 𝓗 σ c hE).mono fun v 𝓗1 ⟨H1, M1, r1, c1, s1, q1, e1, e2⟩ => ?_)
  subst e1 e2
  exact ⟨i, q1, H1, _, _, c1, s1, (by show DA K H1 _ _; unfold DA; rfl), rfl, rfl⟩
/-! ### is None -/
def isNon : Sl → Bool
  | .dat .non => true
  | _ => false
theorem isNon_ok {H : Hp} {v : V} {s : Sl} (hk : known s) (hr : ∀ u, s = .raw u → u ≠ .non) (h : SlOk K H v s) : decide (v = V.non) = isNon s := by
  cases s with
  | un => exact hk.elim
  | raw u => have h' : v = u := h; rw [h']; exact decide_eq_false (hr u rfl)
  | dat d =>
    have h' : DA K H d v := h
    cases d with
    | non => unfold DA at h'; rw [h']; rfl
    | bl _ => unfold DA at h'; rw [h']; rfl
    | int _ => unfold DA at h'; rw [h']; rfl
    | str _ => unfold DA at h'; rw [h']; rfl
    | lst _ => unfold DA at h'; obtain ⟨_, _, z, _⟩ := h'; rw [z]; rfl
    | tup _ => unfold DA at h'; obtain ⟨_, _, z, _⟩ := h'; rw [z]; rfl
    | nup _ => unfold DA at h'; obtain ⟨_, _, _, z, _⟩ := h'; rw [z]; rfl
    | scr _ => unfold DA at h'; obtain ⟨_, _, z, _⟩ := h'; rw [z]; rfl
    | ins _ _ _ => unfold DA at h'; obtain ⟨_, _, _, z, _⟩ := h'; rw [z]; rfl
theorem ed_isN {j p2} (ha : ED F ρ M a r) (hk : known r := by trivial) (hr : ∀ u, r = .raw u → u ≠ .non := by intro u z; cases z <;> (intro z2; cases z2)) : ED F ρ M (.Compare a [.Is] [.Constant .none j p2] pos) (.dat (.bl (isNon r))) := .mk fun H 𝓗 σ c hE => by
  refine uE.by (fun j => pe_cmp (pc_isN (pe_u j)) rfl) ((ha.run H 𝓗 σ c hE).mono fun v 𝓗1 ⟨H1, M1, r1, c1, s1, q1, e1, e2⟩ => ?_)
  subst e1 e2
  exact ⟨H1, _, _, c1, s1, (by show DA K H1 _ _; unfold DA; rw [isNon_ok hk hr q1]), rfl, rfl⟩
theorem ed_notN {j p2} (ha : ED F ρ M a r) (hk : known r := by trivial) (hr : ∀ u, r = .raw u → u ≠ .non := by intro u z; cases z <;> (intro z2; cases z2)) : ED F ρ M (.Compare a [.IsNot] [.Constant .none j p2] pos) (.dat (.bl (!isNon r))) := .mk fun H 𝓗 σ c hE => by
  refine uE.by (fun j => pe_cmp (pc_notN (pe_u j)) rfl) ((ha.run H 𝓗 σ c hE).mono fun v 𝓗1 ⟨H1, M1, r1, c1, s1, q1, e1, e2⟩ => ?_)
  subst e1 e2
  exact ⟨H1, _, _, c1, s1, (by show DA K H1 _ _; unfold DA; rw [isNon_ok hk hr q1]), rfl, rfl⟩
theorem td_isN {j p2} (ha : ED F ρ M a r) (hk : known r := by trivial) (hr : ∀ u, r = .raw u → u ≠ .non := by intro u z; cases z <;> (intro z2; cases z2)) : TD F ρ M (.Compare a [.Is] [.Constant .none j p2] pos) (isNon r) := .mk fun H 𝓗 σ c hE => by
  refine uT.by (fun j => pt_cmp (pc_isN (pe_u j)) rfl) ((ha.run H 𝓗 σ c hE).mono fun v 𝓗1 ⟨H1, M1, r1, c1, s1, q1, e1, e2⟩ => ?_)
  subst e1 e2
  exact ⟨isNon r1, (by rw [isNon_ok hk hr q1]), H1, _, c1, s1, rfl, rfl⟩
theorem td_notN {j p2} (ha : ED F ρ M a r) (hk : known r := by trivial) (hr : ∀ u, r = .raw u → u ≠ .non := by intro u z; cases z <;> (intro z2; cases z2)) : TD F ρ M (.Compare a [.IsNot] [.Constant .none j p2] pos) (!isNon r) := .mk fun H 𝓗 σ c hE => by
  refine uT.by (fun j => pt_cmp (pc_notN (pe_u j)) rfl) ((ha.run H 𝓗 σ c hE).mono fun v 𝓗1 ⟨H1, M1, r1, c1, s1, q1, e1, e2⟩ => ?_)
  subst e1 e2
  exact ⟨!isNon r1, (by rw [isNon_ok hk hr q1]), H1, _, c1, s1, rfl, rfl⟩
end
/-! ### isinstance -/
def tyS (M : OH) : Sl → Option String
  | .dat .non => some "NoneType"
  | .dat (.bl _) => some "bool"
  | .dat (.int _) => some "int"
  | .dat (.str _) => some "str"
  | .dat (.lst _) => some "list"
  | .dat (.scr _) => some "list"
  | .dat (.tup _) => some "tuple"
  | .dat (.nup _) => some "tuple"
  | .raw (.ref p) => if (M p).isSome = true then some "list" else none
  | _ => none
theorem tyS_ok {H 𝓗 : Hp} {v : V} {s : Sl} {T : String} (c : St3 F M H 𝓗) (h : SlOk K H v s) (e : tyS M s = some T) : TyX K 𝓗 v (.type T) := by
  cases s with
  | un => cases e
  | raw u =>
    have h' : v = u := h
    subst h'
    cases v with
    | ref p =>
      have e : (if (M p).isSome = true then some "list" else none) = some T := e
      cases q : M p with
      | none => rw [q] at e; cases e
      | some xs =>
        rw [q] at e; cases e
        obtain ⟨_, _, vs, e3, _⟩ := c.o p xs q
        exact .base (.lst e3)
    | non => cases e
    | bl _ => cases e
    | int _ => cases e
    | str _ => cases e
    | byt _ => cases e
    | flt _ => cases e
    | ty _ => cases e
  | dat d =>
    have h' : DA K H d v := h
    cases d with
    | non => cases e; unfold DA at h'; rw [h']; exact .base .non
    | bl _ => cases e; unfold DA at h'; rw [h']; exact .base (.bl _)
    | int _ => cases e; unfold DA at h'; rw [h']; exact .base (.int _)
    | str _ => cases e; unfold DA at h'; rw [h']; exact .base (.str _)
    | lst _ => cases e; unfold DA at h'; obtain ⟨_, _, z, z2, _⟩ := h'; rw [z]; exact .base (.lst (c.u _ _ z2))
    | nup _ => cases e; unfold DA at h'; obtain ⟨_, o, _, z, z2, _⟩ := h'; rw [z]; exact .fTuple (c.u _ _ z2)
    | tup _ =>
      cases e; unfold DA at h'; obtain ⟨_, _, z, z2, _⟩ := h'; rw [z]
      rcases z2 with (z2 | ⟨o, z2⟩) | ⟨o, _, _, z2, z3, _⟩
      · exact .base (.tup (c.u _ _ z2))
      · exact .fTuple (c.u _ _ z2)
      · exact .kTuple z2 z3
    | scr _ =>
      cases e; unfold DA at h'; obtain ⟨_, _, z, z2, _⟩ := h'; rw [z]
      rcases z2 with (z2 | ⟨o, z2⟩) | ⟨o, _, _, z2, z3, _⟩
      · exact .base (.lst (c.u _ _ z2))
      · exact .base (.frz (c.u _ _ z2))
      · exact .kList z2 z3
    | ins _ _ _ => cases e
theorem fIsi (i : F.ι) : CallR (F.X i) (.builtin "isinstance") (rIsi K) := by have h := call_isi (X := F.X i); rw [F.eK i] at h; exact h
theorem ed_isi {p p2 : Pos} {B T : String} {k : Bool} (mi : mg "isinstance" = none) (ha : ED F ρ M a r) (ht : tyS M r = some T) (mb : mg (Str.ofString B) = none) (hk : kitB T B = some k) (hv : bootBuiltins (Str.ofString B) = some (.type B) := by decide +kernel)
    (hg : GL F "isinstance" := by intro _; rfl) (hg2 : GL F (Str.ofString B) := by intro _; rfl) (hn : Str.ofString B ≠ "__name__" := by decide) (hd : (Str.ofString B == ("__debug__" : Str)) = false := by decide) (hs : NS F a [.Name (Str.ofString B) p2] := by intro _; rfl) (hs2 : NS F (.Name (Str.ofString B) p2) [] := by intro _; rfl) (hpl : NP F pos [.Name (Str.ofString B) p2] := by intro _; rfl) :
    ED F ρ M (.Call (.Name "isinstance" p) [a, .Name (Str.ofString B) p2] [] pos) (.dat (.bl k)) := by
  have hb : ED F ρ M (.Name (Str.ofString B) p2) (.raw (.ty B)) := ed_c (fun i => pe_bltn (v := .ty B) (hg2 i) (hmg mb i) hv rfl hn hd) fun _ => rfl
  refine ew_cb (fun i => pe_callB (fIsi i) (hg i) (hmg mi i) (by decide +kernel) (pa_u i) (he := hs i) (hpl := hpl i)) ((ad_cons ha (ad_cons hb ad_nil hs2) hs).aw fun H 𝓗 vs Q' c q kk => ?_)
  obtain ⟨v, u, rfl, q1, q2⟩ := sl2 q
  have q2' : u = .ty B := q2
  subst q2'
  exact ⟨v, .ty B, .type T, .type B, k, rfl, .ty B, tyS_ok c q1 ht, kit_ty hk, here c kk (by show DA K H _ _; unfold DA; rfl)⟩
end
end DL
namespace DL
open PySem PySem.Spec PyProof.Rows L2
/-! ### comprehensions -/
theorem wipe_get {σ : L2.St} {i : Nat} : ∀ vs : List Nat, (L2.wipe σ vs)[i]? = if i ∈ vs ∧ i < σ.length then some none else σ[i]?
  | [] => by simp [L2.wipe]
  | v :: vs => by
    unfold L2.wipe
    rw [List.getElem?_set, wipe_get vs, L2.wipe_length]
    by_cases hv : v = i
    · subst hv
      by_cases hl : v < σ.length
      · simp [hl]
      · simp [hl]
    · rw [if_neg hv]
      by_cases hm : i ∈ vs
      · simp [hm]
      · simp [hm, Ne.symm hv]
theorem wipe_again {σ : L2.St} {vs : List Nat} {j : Nat} {o : Option V} (hj : j ∈ vs) : L2.wipe ((L2.wipe σ vs).set j o) vs = L2.wipe σ vs := by
  apply List.ext_getElem?
  intro i
  rw [wipe_get, List.length_set, L2.wipe_length, wipe_get, List.getElem?_set, wipe_get, L2.wipe_length]
  by_cases hi : i ∈ vs ∧ i < σ.length
  · rw [if_pos hi, if_pos hi]
  · rw [if_neg hi, if_neg hi]
    by_cases h : j = i
    · subst h
      rw [if_pos rfl]
      have : ¬ j < σ.length := fun z => hi ⟨hj, z⟩
      rw [if_neg this, List.getElem?_eq_none (by omega)]
    · rw [if_neg h]
theorem wipe_again2 {σ : L2.St} {vs : List Nat} {j k : Nat} {o o' : Option V} (hj : j ∈ vs) (hk : k ∈ vs) : L2.wipe (((L2.wipe σ vs).set j o).set k o') vs = L2.wipe σ vs := by
  apply List.ext_getElem?
  intro i
  rw [wipe_get, List.length_set, List.length_set, L2.wipe_length, wipe_get, List.getElem?_set, List.getElem?_set, wipe_get, List.length_set, L2.wipe_length]
  by_cases hi : i ∈ vs ∧ i < σ.length
  · rw [if_pos hi, if_pos hi]
  · rw [if_neg hi, if_neg hi]
    by_cases h : k = i
    · subst h
      rw [if_pos rfl]
      have : ¬ k < σ.length := fun z => hi ⟨hk, z⟩
      rw [if_neg this, List.getElem?_eq_none (by omega)]
    · rw [if_neg h]
      by_cases h : j = i
      · subst h
        rw [if_pos rfl]
        have : ¬ j < σ.length := fun z => hi ⟨hj, z⟩
        rw [if_neg this, List.getElem?_eq_none (by omega)]
      · rw [if_neg h]
section
variable {P : Program} {w : World} {K : PySem.W.Frag} {mg : Str → Option Value} {base : Heap} {N : List Str} {sc : Scope} {F : Fm P w K mg base N sc}
variable {ρ : Rho} {M : OH} {e a b c : Expr} {pos : Pos} {r r1 r2 : Sl} {Q : Sl → OH → Prop} {D : DE}
/-- the contexts of a comprehension's block -/
def Fm.blk (F : Fm P w K mg base N sc) (scope : Scope) : Fm P w K mg base N (relS scope sc) where
  ι := F.ι × Shared × Hp × Addr × List (Str × Addr) × List Addr
  X := fun z => (F.X z.1).blk z.2.1 z.2.2.1 scope (compEnvC scope z.2.2.2.2.1 z.2.2.2.1 (F.X z.1).env) z.2.2.2.2.2
  eP := fun z => F.eP z.1
  ew := fun z => F.ew z.1
  eK := fun z => F.eK z.1
  eg := fun z => F.eg z.1
  eb := fun z => F.eb z.1
  eN := fun z => F.eN z.1
  es := fun z => show relS scope (F.X z.1).env.scope = relS scope sc from congrArg _ (F.es z.1)
  nd := F.nd
  lv := F.lv
  hr := fun z => F.hr z.1
  hc := fun z => F.hc z.1
  po := fun z => PassesOwn.never
  B0 := F.B0
  H0 := F.H0
  ex := fun _ _ _ => False
  tk := fun _ u s' x => by
    obtain ⟨_, _, _, _, _, _, _, _, _, _, _, _, _, _, _, _, z⟩ := x
    obtain ⟨_, _, _, _, _, _, _, _, z⟩ := z
    exact z.elim

/-- the tests of a comprehension: none or one -/
def CW (F : Fm P w K mg base N sc) (ρ : Rho) (M : OH) : List Expr → (Bool → OH → Prop) → Prop
  | [], Q => Q true M
  | [c], Q => TW F ρ M c Q
  | _, _ => False
def ttOf (F : Fm P w K mg base N sc) : List Expr → TT
  | [] => tYes
  | [c] => uT F c
  | _ => fun _ _ _ => False
theorem pts_u {ifs : List Expr} (hl : ifs.length ≤ 1) (i : F.ι) : PTs (F.X i) ifs (ttOf F ifs) := by
  match ifs, hl with
  | [], _ => exact pts_nil
  | [c], _ => exact pts_one (pt_u i)
theorem CW.go {ifs : List Expr} {Q : Bool → OH → Prop} (h : CW F ρ M ifs Q) {H 𝓗 : Hp} {σ : L2.St} (cc : St3 F M H 𝓗) (hE : EnvOk K H σ ρ) {R : Bool → Hp → Prop} (k : ∀ b 𝓗, QB F H Q b 𝓗 → R b 𝓗) : ttOf F ifs σ 𝓗 R := by
  match ifs, h with
  | [], h => exact k true 𝓗 ⟨H, M, cc, Same.refl H, h⟩
  | [c], h =>
    have h' : TW F ρ M c Q := h
    exact (h'.run H 𝓗 σ cc hE).mono k
/-- the target takes the item -/
structure TgOk (F : Fm P w K mg base N sc) (scope : Scope) (tg : Expr) (vs : List Nat) (ρ : Rho) (g : TG) (okd : Dt → Prop) (upr : Dt → Rho) : Prop where
  pg : ∀ z, PG ((F.blk scope).X z) tg g
  go : ∀ H 𝓗 M (σ : L2.St) v d (R : L2.St → Hp → Prop), St3 F M H 𝓗 → EnvOk K H σ ρ → DA K H d v → okd d → (∀ σ2, EnvOk K H σ2 (upr d) → L2.wipe σ2 vs = L2.wipe σ vs → R σ2 𝓗) → g v (L2.wipe σ vs) 𝓗 R
theorem tg_name {scope : Scope} {j : Nat} {x : Str} {px : Pos} {vs : List Nat} (hj : j ∈ vs) (hN : N[j]? = some x) (hx : ∀ z, Loc ((F.blk scope).X z).env.scope x) (hf : ∀ z, ((F.blk scope).X z).fn x = true ∨ ((F.blk scope).X z).env.scope.names.lookup x = some .local) :
    TgOk F scope (.Name x px) vs ρ (gName j) (fun _ => True) fun d => (wipeR ρ vs).set j (.dat d) where
  pg := fun z => pg_name (by rw [(F.blk scope).eN z]; exact F.nd) (by rw [(F.blk scope).eN z]; exact hN) (hx z) (hf z)
  go := fun H 𝓗 M σ v d R cc hE hd _ k => k _ ((hE.wipe vs).set j (s := .dat d) hd) (wipe_again hj)
theorem tg_pair {scope : Scope} {j k : Nat} {x y : Str} {px py pt : Pos} {kt} {vs : List Nat} (hj : j ∈ vs) (hk : k ∈ vs) (hN : N[j]? = some x) (hN2 : N[k]? = some y) (hx : ∀ z, Loc ((F.blk scope).X z).env.scope x) (hf : ∀ z, ((F.blk scope).X z).fn x = true ∨ ((F.blk scope).X z).env.scope.names.lookup x = some .local)
    (hx2 : ∀ z, Loc ((F.blk scope).X z).env.scope y) (hf2 : ∀ z, ((F.blk scope).X z).fn y = true ∨ ((F.blk scope).X z).env.scope.names.lookup y = some .local)
    (h1 : ∀ z, (assignEach [.Name x px, .Name y py] ((F.blk scope).X z).env).map (·.2) = assign (.Name x px) ((F.blk scope).X z).env :: (assignEach [.Name y py] ((F.blk scope).X z).env).map (·.2)) (h2 : ∀ z, (assignEach [.Name y py] ((F.blk scope).X z).env).map (·.2) = assign (.Name y py) ((F.blk scope).X z).env :: (assignEach [] ((F.blk scope).X z).env).map (·.2))
    (h3 : ∀ z, (assignEach [.Name x px, .Name y py] ((F.blk scope).X z).env).length = 2) (h4 : ∀ z, (assignEach [.Name x px, .Name y py] ((F.blk scope).X z).env).findIdx? (·.1) = none) :
    TgOk F scope (.Tuple [.Name x px, .Name y py] kt pt) vs ρ (gTup K 2 (gCons (gName j) (gCons (gName k) gNil))) (fun d => ∃ d1 d2, d = .tup [d1, d2]) fun d => match d with | .tup [d1, d2] => ((wipeR ρ vs).set j (.dat d1)).set k (.dat d2) | _ => [] where
  pg := fun z => by
    have q := pg_tup (X := (F.blk scope).X z) (k := kt) (pos := pt) ((F.blk scope).hc z) (pgs_cons (pg_name (i := j) (x := x) (pos := px) (by rw [(F.blk scope).eN z]; exact F.nd) (by rw [(F.blk scope).eN z]; exact hN) (hx z) (hf z)) (pgs_cons (pg_name (i := k) (x := y) (pos := py) (by rw [(F.blk scope).eN z]; exact F.nd) (by rw [(F.blk scope).eN z]; exact hN2) (hx2 z) (hf2 z)) pgs_nil (h2 z)) (h1 z)) (h3 z) (h4 z)
    rw [(F.blk scope).eK z] at q
    exact q
  go := fun H 𝓗 M σ v d R cc hE hd ok kk => by
    obtain ⟨d1, d2, rfl⟩ := ok
    obtain ⟨p, ws, rfl, e2, e3⟩ := tup_seq cc (show SlOk K H v (.dat (.tup [d1, d2])) from hd)
    obtain ⟨v1, v2, rfl, q1, q2⟩ := sl2 e3
    refine ⟨p, _, rfl, e2, rfl, v1, _, rfl, v2, _, rfl, rfl, ?_⟩
    exact kk _ (((hE.wipe vs).set j q1).set k q2) (wipe_again2 hj hk)
/-- a comprehension: as a value, and as what a name is assigned on one line -/
structure EZ (F : Fm P w K mg base N sc) (ρ : Rho) (M : OH) (e : Expr) (Q : Sl → OH → Prop) : Prop where
  ex : ∃ t : TE, (∀ j, PE (F.X j) e t) ∧ (∀ (i : Nat) (y : Str) (py spos : Pos), N[i]? = some y → (∀ j, (F.X j).env.scope.names.lookup y = some .local) → (∀ j, swapsWith e (some (.Name y py)) spos.line (F.X j).env = pure true) → ∀ j, PS (F.X j) (.Assign [.Name y py] e spos) (tAsg t (gName i))) ∧
    ∀ H 𝓗 σ, St3 F M H 𝓗 → EnvOk K H σ ρ → ∀ R : VK, (∀ v 𝓗', QV F H Q v 𝓗' → R v 𝓗') → t σ 𝓗 R
theorem EZ.ew (h : EZ F ρ M e Q) : EW F ρ M e Q := .mk fun H 𝓗 σ c hE => by
  obtain ⟨t, h1, _, h3⟩ := h.ex
  exact uE.by h1 (h3 H 𝓗 σ c hE _ fun _ _ q => q)
theorem EZ.mono {Q' : Sl → OH → Prop} (h : EZ F ρ M e Q) (m : ∀ r M', Q r M' → Q' r M') : EZ F ρ M e Q' := by
  obtain ⟨t, h1, h2, h3⟩ := h.ex
  exact ⟨t, h1, h2, fun H 𝓗 σ c hE R k => h3 H 𝓗 σ c hE R fun v 𝓗' ⟨H', M', r, a, b, d, q⟩ => k v 𝓗' ⟨H', M', r, a, b, d, m _ _ q⟩⟩
/-- frozen at once -/
theorem EZ.freeze (h : EZ F ρ M e fun r M' => ∃ p ds, r = .raw (.ref p) ∧ M' p = some (ds.map .dat) ∧ Q (.dat (.lst ds)) (odel M' p)) : EZ F ρ M e Q := by
  obtain ⟨t, h1, h2, h3⟩ := h.ex
  refine ⟨t, h1, h2, fun H 𝓗 σ c hE R k => h3 H 𝓗 σ c hE R fun v 𝓗' ⟨H', M', r, c', s', q, p, ds, e1, e2, e3⟩ => ?_⟩
  subst e1
  obtain ⟨H2, c2, s2, d2⟩ := c'.frz e2
  have q' : v = .ref p := q
  subst q'
  exact k _ _ ⟨H2, _, .dat (.lst ds), c2, s'.trans s2, d2, e3⟩
theorem s_setZ (i : Nat) {y : Str} {py : Pos} (h : EZ F ρ M e fun r M' => D.nx (ρ.set i r) M') (hN : N[i]? = some y := by decide +kernel) (hyl : ∀ j, (F.X j).env.scope.names.lookup y = some .local := by intro _; rfl) (hsw : ∀ j, swapsWith e (some (.Name y py)) pos.line (F.X j).env = pure true := by intro _; exact sw_true rfl rfl rfl (by decide +kernel)) :
    S1 F ρ M (.Assign [.Name y py] e pos) D := .mk fun H 𝓗 σ c hE => by
  obtain ⟨t, _, h2, h3⟩ := h.ex
  exact uS.by (h2 i y py pos hN hyl hsw) (h3 H 𝓗 σ c hE _ fun v 𝓗' ⟨H', M', r, a, b, d, q⟩ => ⟨ρ.set i r, M', H', a, b, (hE.mono b).set i d, q⟩)
/-- [elt for tg in a list of data if ..] -/
theorem ez_lcL {elt tg it : Expr} {ifs : List Expr} {scope : Scope} {own : List (Str × Nat)} {g : TG} {okd : Dt → Prop} {upr : Dt → Rho} {d : Dt} {xs : List Dt} (Pv : Addr → Nat → List Sl → OH → Prop) (hl1 : ifs.length ≤ 1) (hi : ED F ρ M it (.dat d)) (hl : DLs d xs) (hz : xs.length ≤ 90000)
    (tg1 : TgOk F scope tg (own.map (·.2)) ρ g okd upr) (hok : ∀ x ∈ xs, okd x) (ok : BlkOk N sc scope own) (h0 : ∀ D, M D = none → Pv D 0 [] (oset M D []))
    (hs : ∀ D k x acc M', xs[k]? = some x → M' D = some acc → Pv D k acc M' → acc.length ≤ k → CW (F.blk scope) (upr x) M' ifs fun b M1 => if b = true then EW (F.blk scope) (upr x) M1 elt fun s M2 => M2 D = some acc ∧ Pv D (k + 1) (acc ++ [s]) (oset M2 D (acc ++ [s])) else M1 D = some acc ∧ Pv D (k + 1) acc M1)
    (hd : ∀ D acc M', M' D = some acc → Pv D xs.length acc M' → Q (.raw (.ref D)) M') (hss : ∀ j y, foldedSetIterable it (F.X j).env y = pure y := by intro _ _; rfl) : EZ F ρ M (.ListComp elt [⟨tg, it, ifs, 0⟩] scope pos) Q := by
  refine ⟨tLc (iList K (uE F it)) g (ttOf (F.blk scope) ifs) (uE (F.blk scope) elt) (own.map (·.2)), fun j => pe_lc (own := own) (F.hc j) (by rw [F.eN j]; exact F.nd) (fList j) (by rw [F.eN j, F.es j]; exact ok) (fun s H C cl fp => tg1.pg (j, s, H, C, cl, fp)) (fun s H C cl fp => pts_u hl1 (F := F.blk scope) (j, s, H, C, cl, fp)) (fun s H C cl fp => pe_u (F := F.blk scope) (j, s, H, C, cl, fp)) (hss j), fun i y py spos hy hyl hsw j => ps_setLc (own := own) (F.hc j) (by rw [F.eN j]; exact F.nd) (by rw [F.eN j]; exact hy) (hyl j) (hsw j) (fList j) (by rw [F.eN j, F.es j]; exact ok) (fun s H C cl fp => tg1.pg (j, s, H, C, cl, fp)) (fun s H C cl fp => pts_u hl1 (F := F.blk scope) (j, s, H, C, cl, fp)) (fun s H C cl fp => pe_u (F := F.blk scope) (j, s, H, C, cl, fp)) (hss j), fun H 𝓗 σ c hE R kR => ?_⟩
  refine (hi.run H 𝓗 σ c hE).mono fun v 𝓗1 ⟨H1, M1, r1, c1, s1, q1, e1, e2⟩ => ?_
  subst e1 e2
  obtain ⟨p, vs, rfl, q2, q3⟩ := hl.seq q1
  have len : vs.length = xs.length := by rw [q3.length, List.length_map]
  refine ⟨p, rfl, ⟨vs, c1.u.seq q2⟩, fun Da hD => ?_⟩
  have hMD : M1 Da = none := (c1.none_of hD).2.2
  refine lc_list (K := K) (a := p) (xs := vs) (fun k 𝓗' => ∃ H' M' acc, St3 F M' H' 𝓗' ∧ Same H1 H' ∧ M' Da = some acc ∧ Pv Da k acc M' ∧ acc.length ≤ k) ⟨H1, _, [], c1.newL hD .nil, Same.refl _, oset_same, h0 Da hMD, Nat.le_refl _⟩ ?_ ?_ ?_
  · rintro k 𝓗' _ ⟨H', M', acc, c', s', _⟩
    exact c'.u.seq (s'.seq q2)
  · rintro k v 𝓗' hv ⟨H', M', acc, c', s', hm, pv, hlen⟩
    obtain ⟨r', e5, e6⟩ := paired_get' q3 hv
    obtain ⟨x, e7, rfl⟩ := dat_get e5
    have hk : k < xs.length := (List.getElem?_eq_some_iff.mp e7).1
    refine tg1.go H' 𝓗' M' σ v x _ c' (hE.mono (s1.trans s')) (e6.mono s') (hok x (List.mem_of_getElem? e7)) fun σ2 hE2 hw => ⟨hw, ?_⟩
    refine CW.go (hs Da k x acc M' e7 hm pv hlen) (F := F.blk scope) c' hE2 ?_
    rintro b 𝓗3 ⟨H3, M3, c3, s3, q⟩
    cases b with
    | true =>
      simp only [if_true] at q ⊢
      refine (q.run H3 𝓗3 σ2 c3 (hE2.mono s3)).mono ?_
      rintro y 𝓗4 ⟨H4, M4, s, c4, s4, qy, hm4, pv4⟩
      obtain ⟨_, _, ws, w1, w2⟩ := c4.o Da acc hm4
      refine ⟨ws, w1, sz5l (by rw [w2.length]; omega), H4, _, acc ++ [s], c4.wr hm4 (paired_append w2 (.cons qy .nil)), (s'.trans s3).trans s4, oset_same, pv4, by rw [List.length_append]; exact Nat.succ_le_succ hlen⟩
    | false =>
      simp only [Bool.false_eq_true, if_false] at q ⊢
      exact ⟨H3, M3, acc, c3, s'.trans s3, q.1, q.2, Nat.le_succ_of_le hlen⟩
  · rintro 𝓗' ⟨H', M', acc, c', s', hm, pv, _⟩
    exact kR _ _ ⟨H', M', .raw (.ref Da), c', s1.trans s', rfl, hd Da acc M' hm (by rw [← len]; exact pv)⟩
/-- .. over range(n) -/
theorem ez_lcR {elt tg a : Expr} {p2 p3 : Pos} {ifs : List Expr} {scope : Scope} {own : List (Str × Nat)} {g : TG} {upr : Dt → Rho} {n : Int} (m : Nat) (Pv : Addr → Nat → List Sl → OH → Prop) (mr : mg "range" = none) (hl1 : ifs.length ≤ 1) (ha : ED F ρ M a (.dat (.int n))) (hn : n = (m : Int)) (hz : m ≤ 90000)
    (tg1 : TgOk F scope tg (own.map (·.2)) ρ g (fun _ => True) upr) (ok : BlkOk N sc scope own) (h0 : ∀ D, M D = none → Pv D 0 [] (oset M D []))
    (hs : ∀ D k acc M', k < m → M' D = some acc → Pv D k acc M' → acc.length ≤ k → CW (F.blk scope) (upr (.int (k : Int))) M' ifs fun b M1 => if b = true then EW (F.blk scope) (upr (.int (k : Int))) M1 elt fun s M2 => M2 D = some acc ∧ Pv D (k + 1) (acc ++ [s]) (oset M2 D (acc ++ [s])) else M1 D = some acc ∧ Pv D (k + 1) acc M1)
    (hd : ∀ D acc M', M' D = some acc → Pv D m acc M' → Q (.raw (.ref D)) M') (hg : GL F "range" := by intro _; rfl) (hns : NS F a [] := by intro _; rfl) (hss : ∀ j y, foldedSetIterable (.Call (.Name "range" p2) [a] [] p3) (F.X j).env y = pure y := by intro _ _; rfl) :
    EZ F ρ M (.ListComp elt [⟨tg, .Call (.Name "range" p2) [a] [] p3, ifs, 0⟩] scope pos) Q := by
  subst hn
  refine ⟨tLc (iRng1 (uA F [a])) g (ttOf (F.blk scope) ifs) (uE (F.blk scope) elt) (own.map (·.2)), fun j => pe_lc (own := own) (F.hc j) (by rw [F.eN j]; exact F.nd) (pi_range1 (hg j) (hmg mr j) (pa_u j) (hns j)) (by rw [F.eN j, F.es j]; exact ok) (fun s H C cl fp => tg1.pg (j, s, H, C, cl, fp)) (fun s H C cl fp => pts_u hl1 (F := F.blk scope) (j, s, H, C, cl, fp)) (fun s H C cl fp => pe_u (F := F.blk scope) (j, s, H, C, cl, fp)) (hss j), fun i y py spos hy hyl hsw j => ps_setLc (own := own) (F.hc j) (by rw [F.eN j]; exact F.nd) (by rw [F.eN j]; exact hy) (hyl j) (hsw j) (pi_range1 (hg j) (hmg mr j) (pa_u j) (hns j)) (by rw [F.eN j, F.es j]; exact ok) (fun s H C cl fp => tg1.pg (j, s, H, C, cl, fp)) (fun s H C cl fp => pts_u hl1 (F := F.blk scope) (j, s, H, C, cl, fp)) (fun s H C cl fp => pe_u (F := F.blk scope) (j, s, H, C, cl, fp)) (hss j), fun H 𝓗 σ c hE R kR => ?_⟩
  refine ((ad_cons ha ad_nil hns).run H 𝓗 σ c hE).mono fun vs 𝓗1 ⟨H1, M1, r1, c1, s1, q1, e1, e2⟩ => ?_
  subst e1 e2
  obtain ⟨v, rfl, qv⟩ := sl1 q1
  have qv' : v = .int (m : Int) := qv
  subst qv'
  refine ⟨m, rfl, by omega, by omega, fun Da hD => ?_⟩
  have hMD : M1 Da = none := (c1.none_of hD).2.2
  refine lc_range (lo := 0) (n := ((m : Int)).toNat) (fun k 𝓗' => ∃ H' M' acc, St3 F M' H' 𝓗' ∧ Same H1 H' ∧ M' Da = some acc ∧ Pv Da k acc M' ∧ acc.length ≤ k) ⟨H1, _, [], c1.newL hD .nil, Same.refl _, oset_same, h0 Da hMD, Nat.le_refl _⟩ ?_ ?_
  · rintro k 𝓗' hk' ⟨H', M', acc, c', s', hm, pv, hlen⟩
    have hk : k < m := by omega
    have e0 : (0 : Int) + (k : Int) = (k : Int) := Int.zero_add _
    rw [e0]
    refine tg1.go H' 𝓗' M' σ _ (.int (k : Int)) _ c' (hE.mono (s1.trans s')) (by unfold DA; rfl) trivial fun σ2 hE2 hw => ⟨hw, ?_⟩
    refine CW.go (hs Da k acc M' hk hm pv hlen) (F := F.blk scope) c' hE2 ?_
    rintro b 𝓗3 ⟨H3, M3, c3, s3, q⟩
    cases b with
    | true =>
      simp only [if_true] at q ⊢
      refine (q.run H3 𝓗3 σ2 c3 (hE2.mono s3)).mono ?_
      rintro y 𝓗4 ⟨H4, M4, s, c4, s4, qy, hm4, pv4⟩
      obtain ⟨_, _, ws, w1, w2⟩ := c4.o Da acc hm4
      refine ⟨ws, w1, sz5l (by rw [w2.length]; omega), H4, _, acc ++ [s], c4.wr hm4 (paired_append w2 (.cons qy .nil)), (s'.trans s3).trans s4, oset_same, pv4, by rw [List.length_append]; exact Nat.succ_le_succ hlen⟩
    | false =>
      simp only [Bool.false_eq_true, if_false] at q ⊢
      exact ⟨H3, M3, acc, c3, s'.trans s3, q.1, q.2, Nat.le_succ_of_le hlen⟩
  · rintro 𝓗' ⟨H', M', acc, c', s', hm, pv, _⟩
    exact kR _ _ ⟨H', M', .raw (.ref Da), c', s1.trans s', rfl, hd Da acc M' hm pv⟩
/-- a comprehension that gives a new list -/
def ZL (F : Fm P w K mg base N sc) (ρ : Rho) (M : OH) (e : Expr) (xs : List Sl) : Prop := EZ F ρ M e fun r M' => ∃ p, M p = none ∧ r = .raw (.ref p) ∧ M' = oset M p xs
theorem ZL.el {xs : List Sl} (h : ZL F ρ M e xs) : EL F ρ M e xs := EZ.ew h
theorem ZL.to {xs ys : List Sl} (h : ZL F ρ M e xs) (q : xs = ys) : ZL F ρ M e ys := by rw [← q]; exact h
theorem ZL.ez {xs : List Sl} (h : ZL F ρ M e xs) (k : ∀ p, M p = none → Q (.raw (.ref p)) (oset M p xs)) : EZ F ρ M e Q := EZ.mono h fun r M' ⟨p, e1, e2, e3⟩ => by subst e2 e3; exact k p e1
/-- .. frozen at once -/
theorem ZL.zd {ds : List Dt} (h : ZL F ρ M e (ds.map .dat)) (k : Q (.dat (.lst ds)) M) : EZ F ρ M e Q := EZ.freeze (h.ez fun p hp => ⟨p, ds, rfl, oset_same, by rw [odel_oset hp]; exact k⟩)
/-- .. pure: an int's truth, or a test, over range(n) -/
theorem zl_lcR {elt tg a : Expr} {p2 p3 : Pos} {ifs : List Expr} {scope : Scope} {own : List (Str × Nat)} {g : TG} {upr : Dt → Rho} {n : Int} (m : Nat) (f : Nat → Bool) (v : Nat → Sl) (mr : mg "range" = none) (hl1 : ifs.length ≤ 1) (ha : ED F ρ M a (.dat (.int n))) (hn : n = (m : Int)) (hz : m ≤ 90000)
    (tg1 : TgOk F scope tg (own.map (·.2)) ρ g (fun _ => True) upr) (ok : BlkOk N sc scope own)
    (ht : ∀ k M', k < m → CW (F.blk scope) (upr (.int (k : Int))) M' ifs fun b M1 => b = f k ∧ M1 = M')
    (he : ∀ k M', k < m → f k = true → ED (F.blk scope) (upr (.int (k : Int))) M' elt (v k)) (hg : GL F "range" := by intro _; rfl) (hns : NS F a [] := by intro _; rfl) (hss : ∀ j y, foldedSetIterable (.Call (.Name "range" p2) [a] [] p3) (F.X j).env y = pure y := by intro _ _; rfl) :
    ZL F ρ M (.ListComp elt [⟨tg, .Call (.Name "range" p2) [a] [] p3, ifs, 0⟩] scope pos) (((List.range m).filter f).map v) := by
  refine ez_lcR m (fun D k acc M' => M D = none ∧ M' = oset M D acc ∧ acc = ((List.range k).filter f).map v) mr hl1 ha hn hz tg1 ok (fun D hD => ⟨hD, rfl, rfl⟩) ?_ ?_ hg hns hss
  · rintro D k acc M' hk hm ⟨hD, e1, e2⟩ _
    have h1 := ht k M' hk
    match ifs, hl1, h1 with
    | [], _, h1 =>
      obtain ⟨e3, _⟩ := h1
      refine (he k M' hk e3.symm).ew ⟨hm, hD, by rw [e1, oset_oset], ?_⟩
      rw [List.range_succ, List.filter_append, List.map_append, e2]
      simp [← e3]
    | [c], _, h1 =>
      refine TW.mono h1 fun b M1 ⟨e3, e4⟩ => ?_
      subst e3 e4
      split
      · rename_i hf
        refine (he k M1 hk hf).ew ⟨hm, hD, by rw [e1, oset_oset], ?_⟩
        rw [List.range_succ, List.filter_append, List.map_append, e2]
        simp [hf]
      · rename_i hf
        refine ⟨hm, hD, e1, ?_⟩
        rw [List.range_succ, List.filter_append, List.map_append, e2]
        simp [hf]
  · rintro D acc M' hm ⟨hD, e1, e2⟩
    exact ⟨D, hD, rfl, by rw [e1, e2]⟩
theorem zl_lcL {elt tg it : Expr} {ifs : List Expr} {scope : Scope} {own : List (Str × Nat)} {g : TG} {okd : Dt → Prop} {upr : Dt → Rho} {d : Dt} {xs : List Dt} (f : Dt → Bool) (v : Dt → Sl) (hl1 : ifs.length ≤ 1) (hi : ED F ρ M it (.dat d)) (hl : DLs d xs) (hz : xs.length ≤ 90000)
    (tg1 : TgOk F scope tg (own.map (·.2)) ρ g okd upr) (hok : ∀ x ∈ xs, okd x) (ok : BlkOk N sc scope own)
    (ht : ∀ x M', x ∈ xs → CW (F.blk scope) (upr x) M' ifs fun b M1 => b = f x ∧ M1 = M')
    (he : ∀ x M', x ∈ xs → f x = true → ED (F.blk scope) (upr x) M' elt (v x)) (hss : ∀ j y, foldedSetIterable it (F.X j).env y = pure y := by intro _ _; rfl) :
    ZL F ρ M (.ListComp elt [⟨tg, it, ifs, 0⟩] scope pos) ((xs.filter f).map v) := by
  refine ez_lcL (fun D k acc M' => M D = none ∧ M' = oset M D acc ∧ acc = ((xs.take k).filter f).map v) hl1 hi hl hz tg1 hok ok (fun D hD => ⟨hD, rfl, rfl⟩) ?_ ?_ hss
  · rintro D k x acc M' hx hm ⟨hD, e1, e2⟩ _
    have hmem : x ∈ xs := List.mem_of_getElem? hx
    have ht' : xs.take (k + 1) = xs.take k ++ [x] := by rw [List.take_add_one, hx]; rfl
    have h1 := ht x M' hmem
    match ifs, hl1, h1 with
    | [], _, h1 =>
      obtain ⟨e3, _⟩ := h1
      refine (he x M' hmem e3.symm).ew ⟨hm, hD, by rw [e1, oset_oset], ?_⟩
      rw [ht', List.filter_append, List.map_append, e2]
      simp [← e3]
    | [c], _, h1 =>
      refine TW.mono h1 fun b M1 ⟨e3, e4⟩ => ?_
      subst e3 e4
      split
      · rename_i hf
        refine (he x M1 hmem hf).ew ⟨hm, hD, by rw [e1, oset_oset], ?_⟩
        rw [ht', List.filter_append, List.map_append, e2]
        simp [hf]
      · rename_i hf
        refine ⟨hm, hD, e1, ?_⟩
        rw [ht', List.filter_append, List.map_append, e2]
        simp [hf]
  · rintro D acc M' hm ⟨hD, e1, e2⟩
    exact ⟨D, hD, rfl, by rw [e1, e2, List.take_length]⟩
theorem TD.cw {k : Bool} (h : TD F ρ M c k) : CW F ρ M [c] fun b M1 => b = k ∧ M1 = M := h
/-! ### truth -/
theorem td_truI {i : Int} (ha : ED F ρ M a (.dat (.int i))) (he : ∀ j whole, isTrue a (F.X j).env whole = (do let v ← whole; standAt a.pos; holding [v] (truthy v)) := by intro _ _; rfl) : TD F ρ M a (i != 0) := .mk fun H 𝓗 σ c hE =>
  uT.by (t := fun σ H Q => uE F a σ H fun x H' => ∃ k, TruV K x H' k ∧ Q k H') (fun j => by have q := pt_truth (X := F.X j) (pe_u (e := a) j) (he j); rw [F.eK j] at q; exact q) ((ha.run H 𝓗 σ c hE).mono fun v 𝓗1 ⟨H1, M1, r1, c1, s1, q1, e1, e2⟩ => by
    subst e1 e2
    have q1' : v = .int i := q1
    subst q1'
    exact ⟨i != 0, rfl, H1, _, c1, s1, rfl, rfl⟩)
/-! ### methods of lists -/
theorem fTy {H 𝓗 : Hp} {v : V} {s : Sl} {xs : List Sl} (c : St3 F M H 𝓗) (hl : LsOf M s xs) (q : SlOk K H v s) : tyV K "list" v 𝓗 := by
  obtain ⟨p, vs, rfl, q2, _⟩ := hl.seq c q
  exact .inl ⟨rfl, vs, q2⟩
section
variable {o : Expr} {apos : Pos} {p : Addr} {xs : List Sl}
abbrev AB (F : Fm P w K mg base N sc) (o : Expr) (x : Str) : Prop := ∀ j, attributeBase o x (F.X j).env (eval o (F.X j).env) = eval o (F.X j).env
abbrev FW (F : Fm P w K mg base N sc) (pos : Pos) (es : List Expr) : Prop := ∀ j, ((backTo pos (starEach es (F.X j).env)).all (fun x => !x.1) && (backToKw pos (keywordEach [] (F.X j).env)).all (fun x => x.1.isSome)
      && decide (es.length + ([] : List Keyword).length + (if ([] : List Keyword).isEmpty then 0 else 1) < 30)) = true
/-- a method of a list with one argument, by values -/
theorem ew_bm1 {name : Str} {id : String} {t : V → List V → Hp → VK → Prop} {s : Sl} (slot : Slot "list" name id) (hty : typeOf (.builtin id) = pure (.type "method_descriptor")) (hm : ∀ j, MtR (F.X j) id t)
    (ho : ED F ρ M o s) (hl : LsOf M s xs) (ha : EW F ρ M a fun r M1 => ∀ H 𝓗 u v (Q' : VK), St3 F M1 H 𝓗 → SlOk K H u s → SlOk K H v r → (∀ v' 𝓗', QV F H Q v' 𝓗' → Q' v' 𝓗') → t u [v] 𝓗 Q')
    (hb : AB F o name := by intro _; rfl) (hf : FW F pos [a] := by intro _; rfl) (hline : (apos.endLine == pos.line) = true := by rfl) (hs : NS F a [] := by intro _; rfl) (hpl : NP F pos [] := by intro _; rfl) : EW F ρ M (.Call (.Attribute o name apos) [a] [] pos) Q := .mk fun H 𝓗 σ c hE => by
  refine uE.by (t := tBM K "list" t (uE F o) (uA F [a])) (fun j => by have q := pe_bm (X := F.X j) PySem.F.plainAttrs_list slot hty (hm j) (pe_u (e := o) j) (pa_u (es := [a]) j) (hb j) (hf j) hline (hs j) (hpl j); rw [F.eK j] at q; exact q) ((ho.run H 𝓗 σ c hE).mono fun u 𝓗1 ⟨H1, M1, r1, c1, s1, q1, e1, e2⟩ => ?_)
  subst e1 e2
  refine ⟨fTy c1 hl q1, (aw_cons (Q := fun rs M2 => ∃ r, rs = [r] ∧ ∀ H 𝓗 u v (Q' : VK), St3 F M2 H 𝓗 → SlOk K H u r1 → SlOk K H v r → (∀ v' 𝓗', QV F H Q v' 𝓗' → Q' v' 𝓗') → t u [v] 𝓗 Q') (ha.mono fun r M2 h => aw_nil ⟨r, rfl, h⟩) hs).run H1 𝓗1 σ c1 (hE.mono s1) |>.mono fun vs 𝓗2 ⟨H2, M2, rs, c2, s2, q2, r, e3, h⟩ => ?_⟩
  subst e3
  obtain ⟨v, rfl, qv⟩ := sl1 q2
  exact h H2 𝓗2 u v _ c2 (q1.mono s2) qv fun v' 𝓗' z => z.up (s1.trans s2)
theorem ew_bm0 {name : Str} {id : String} {t : V → List V → Hp → VK → Prop} {s : Sl} (slot : Slot "list" name id) (hty : typeOf (.builtin id) = pure (.type "method_descriptor")) (hm : ∀ j, MtR (F.X j) id t)
    (ho : ED F ρ M o s) (hl : LsOf M s xs) (ha : ∀ H 𝓗 u (Q' : VK), St3 F M H 𝓗 → SlOk K H u s → (∀ v' 𝓗', QV F H Q v' 𝓗' → Q' v' 𝓗') → t u [] 𝓗 Q')
    (hb : AB F o name := by intro _; rfl) (hline : (apos.endLine == pos.line) = true := by rfl) : EW F ρ M (.Call (.Attribute o name apos) [] [] pos) Q := .mk fun H 𝓗 σ c hE => by
  refine uE.by (t := tBM0 K "list" t (uE F o)) (fun j => by have q := pe_bm0 (X := F.X j) (cpos := pos) (apos := apos) PySem.F.plainAttrs_list slot hty (hm j) (pe_u (e := o) j) (hb j) (hline := hline); rw [F.eK j] at q; exact q) ((ho.run H 𝓗 σ c hE).mono fun u 𝓗1 ⟨H1, M1, r1, c1, s1, q1, e1, e2⟩ => ?_)
  subst e1 e2
  exact ⟨fTy c1 hl q1, ha H1 𝓗1 u _ c1 q1 fun v' 𝓗' z => z.up s1⟩
/-- xs.append(e) -/
theorem ew_append (ho : ED F ρ M o (.raw (.ref p))) (hp : M p = some xs) (ha : EW F ρ M a fun s M1 => ∃ ys, M1 p = some ys ∧ ys.length ≤ 90000 ∧ Q (.dat .non) (oset M1 p (ys ++ [s])))
    (hb : AB F o "append" := by intro _; rfl) (hf : FW F pos [a] := by intro _; rfl) (hline : (apos.endLine == pos.line) = true := by rfl) (hs : NS F a [] := by intro _; rfl) (hpl : NP F pos [] := by intro _; rfl) : EW F ρ M (.Call (.Attribute o "append" apos) [a] [] pos) Q :=
  ew_bm1 PySem.F.slot_list_append PySem.F.type_list_append (fun _ => mt_append) ho (.raw hp) (ha.mono fun s M1 ⟨ys, e1, e2, q⟩ H 𝓗 u v Q' c qu qv k => by
    have qu' : u = .ref p := qu
    subst qu'
    obtain ⟨_, _, ws, w1, w2⟩ := c.o p ys e1
    exact ⟨p, ws, v, rfl, rfl, w1, sz5l (by rw [w2.length]; omega), k _ _ ⟨H, _, .dat .non, c.wr e1 (paired_append w2 (.cons qv .nil)), Same.refl H, (by show DA K H _ _; unfold DA; rfl), q⟩⟩) hb hf hline hs hpl
/-- xs.pop(i) -/
theorem ew_pop {i : Int} {k : Nat} {s : Sl} (ho : ED F ρ M o (.raw (.ref p))) (hp : M p = some xs) (ha : ED F ρ M a (.dat (.int i))) (hi : i = (k : Int)) (hk : xs[k]? = some s) (hz : xs.length ≤ 100000) (q : Q s (oset M p (xs.eraseIdx k)))
    (hb : AB F o "pop" := by intro _; rfl) (hf : FW F pos [a] := by intro _; rfl) (hline : (apos.endLine == pos.line) = true := by rfl) (hs : NS F a [] := by intro _; rfl) (hpl : NP F pos [] := by intro _; rfl) : EW F ρ M (.Call (.Attribute o "pop" apos) [a] [] pos) Q :=
  ew_bm1 PySem.F.slot_list_pop PySem.F.type_list_pop (fun _ => mt_popAt) ho (.raw hp) (ha.ew fun H 𝓗 u v Q' c qu qv kk => by
    have qu' : u = .ref p := qu
    have qv' : v = .int i := qv
    subst qu' qv' hi
    obtain ⟨_, _, ws, w1, w2⟩ := c.o p xs hp
    obtain ⟨y, y1, y2⟩ := slget w2 hk
    have hlt : k < ws.length := (List.getElem?_eq_some_iff.mp y1).1
    have hz' := w2.length
    refine ⟨p, ws, k, k, y, rfl, rfl, w1, by omega, by omega, ?_, y1, kk _ _ ⟨H, _, s, c.wr hp (paired_erase k w2), Same.refl H, y2, q⟩⟩
    exact (ixN_seq (n := ws.length) (i := (k : Int)) (by unfold ixN; rw [if_pos (by omega), if_pos (by omega)]; rfl)).1) hb hf hline hs hpl
/-- xs.reverse() -/
theorem ew_reverse (ho : ED F ρ M o (.raw (.ref p))) (hp : M p = some xs) (q : Q (.dat .non) (oset M p xs.reverse)) (hb : AB F o "reverse" := by intro _; rfl) (hline : (apos.endLine == pos.line) = true := by rfl) : EW F ρ M (.Call (.Attribute o "reverse" apos) [] [] pos) Q :=
  ew_bm0 PySem.F.slot_list_reverse PySem.F.type_list_reverse (fun _ => mt_reverse) ho (.raw hp) (fun H 𝓗 u Q' c qu k => by
    have qu' : u = .ref p := qu
    subst qu'
    obtain ⟨_, _, ws, w1, w2⟩ := c.o p xs hp
    exact ⟨p, ws, rfl, rfl, w1, k _ _ ⟨H, _, .dat .non, c.wr hp (paired_rev w2), Same.refl H, (by show DA K H _ _; unfold DA; rfl), q⟩⟩) hb hline
/-- .. where the list is what an expression gives -/
theorem ew_bm1W {name : Str} {id : String} {t : V → List V → Hp → VK → Prop} (slot : Slot "list" name id) (hty : typeOf (.builtin id) = pure (.type "method_descriptor")) (hm : ∀ j, MtR (F.X j) id t)
    (h : EW F ρ M o fun s M0 => (∃ xs, LsOf M0 s xs) ∧ EW F ρ M0 a fun r M1 => ∀ H 𝓗 u v (Q' : VK), St3 F M1 H 𝓗 → SlOk K H u s → SlOk K H v r → (∀ v' 𝓗', QV F H Q v' 𝓗' → Q' v' 𝓗') → t u [v] 𝓗 Q')
    (hb : AB F o name := by intro _; rfl) (hf : FW F pos [a] := by intro _; rfl) (hline : (apos.endLine == pos.line) = true := by rfl) (hs : NS F a [] := by intro _; rfl) (hpl : NP F pos [] := by intro _; rfl) : EW F ρ M (.Call (.Attribute o name apos) [a] [] pos) Q := .mk fun H 𝓗 σ c hE => by
  refine uE.by (t := tBM K "list" t (uE F o) (uA F [a])) (fun j => by have q := pe_bm (X := F.X j) PySem.F.plainAttrs_list slot hty (hm j) (pe_u (e := o) j) (pa_u (es := [a]) j) (hb j) (hf j) hline (hs j) (hpl j); rw [F.eK j] at q; exact q) ((h.run H 𝓗 σ c hE).mono fun u 𝓗1 ⟨H1, M1, r1, c1, s1, q1, ⟨xs, hl⟩, ha⟩ => ?_)
  refine ⟨fTy c1 hl q1, (aw_cons (Q := fun rs M2 => ∃ r, rs = [r] ∧ ∀ H 𝓗 u v (Q' : VK), St3 F M2 H 𝓗 → SlOk K H u r1 → SlOk K H v r → (∀ v' 𝓗', QV F H Q v' 𝓗' → Q' v' 𝓗') → t u [v] 𝓗 Q') (ha.mono fun r M2 h => aw_nil ⟨r, rfl, h⟩) hs).run H1 𝓗1 σ c1 (hE.mono s1) |>.mono fun vs 𝓗2 ⟨H2, M2, rs, c2, s2, q2, r, e3, h⟩ => ?_⟩
  subst e3
  obtain ⟨v, rfl, qv⟩ := sl1 q2
  exact h H2 𝓗2 u v _ c2 (q1.mono s2) qv fun v' 𝓗' z => z.up (s1.trans s2)
theorem ew_appendW (h : EW F ρ M o fun s M0 => ∃ p xs, s = .raw (.ref p) ∧ M0 p = some xs ∧ EW F ρ M0 a fun s M1 => ∃ ys, M1 p = some ys ∧ ys.length ≤ 90000 ∧ Q (.dat .non) (oset M1 p (ys ++ [s])))
    (hb : AB F o "append" := by intro _; rfl) (hf : FW F pos [a] := by intro _; rfl) (hline : (apos.endLine == pos.line) = true := by rfl) (hs : NS F a [] := by intro _; rfl) (hpl : NP F pos [] := by intro _; rfl) : EW F ρ M (.Call (.Attribute o "append" apos) [a] [] pos) Q :=
  ew_bm1W PySem.F.slot_list_append PySem.F.type_list_append (fun _ => mt_append) (h.mono fun s M0 ⟨p, xs, e0, hp, ha⟩ => ⟨⟨xs, by rw [e0]; exact .raw hp⟩, ha.mono fun s M1 ⟨ys, e1, e2, q⟩ H 𝓗 u v Q' c qu qv k => by
    subst e0
    have qu' : u = .ref p := qu
    subst qu'
    obtain ⟨_, _, ws, w1, w2⟩ := c.o p ys e1
    exact ⟨p, ws, v, rfl, rfl, w1, sz5l (by rw [w2.length]; omega), k _ _ ⟨H, _, .dat .non, c.wr e1 (paired_append w2 (.cons qv .nil)), Same.refl H, (by show DA K H _ _; unfold DA; rfl), q⟩⟩⟩) hb hf hline hs hpl
end
/-- fewer owned lists from here on -/
theorem sx_less {M' : OH} {sts : List Stmt} (h : SX F ρ M' sts D) (k : ∀ p xs, M' p = some xs → M p = some xs) : SX F ρ M sts D := .mk fun H 𝓗 σ c hE => h.run H 𝓗 σ (c.less k) hE
theorem sx_drop {sts : List Stmt} (h : SX F ρ OH0 sts D) : SX F ρ M sts D := sx_less h fun _ _ z => by cases z
/-- a call that gives a new list of data, frozen at once -/
theorem ew_callLD {k : Nat} {x : Str} {ps : List Str} {pre : List Dt → Prop} {post : List Dt → List Sl → Prop} {a : Expr} {es : List Expr} {p2 : Pos} {ds : List Dt} (G : Def P w K mg base CX0 k x ps (prL pre post))
    (ha : AD F ρ M (a :: es) (ds.map .dat)) (hp : pre ds) (q : ∀ xs, post ds xs → ∃ ds', xs = ds'.map .dat ∧ Q (.dat (.lst ds')) M) (hg : GL F x := by intro _; rfl) (hs : NS F a es := by intro _; rfl) (hpl : NP F pos es := by intro _; rfl) (hdb : (x == ("__debug__" : Str)) = false := by decide) (hk : k ≤ F.lv := by exact Nat.le_of_ble_eq_true rfl) :
    EW F ρ M (.Call (.Name x p2) (a :: es) [] pos) Q :=
  EW.freeze (ew_callL G ha hp (fun p xs h hn => by
    obtain ⟨ds', e1, e2⟩ := q xs h
    exact ⟨p, ds', rfl, by rw [oset_same, e1], by rw [odel_oset hn]; exact e2⟩) hg hs hpl hdb hk)
end
end DL
namespace DL
open PySem PySem.Spec PyProof.Rows L2
/-! ### == at depth -/
mutual
def toP : Dt → PyData
  | .non => .none
  | .bl b => .bool b
  | .int i => .int i
  | .str x => .str x
  | .lst ds => .list (toPs ds)
  | .scr ds => .list (toPs ds)
  | .tup ds => .tuple (toPs ds)
  | .nup ds => .tuple (toPs ds)
  | .ins _ _ _ => .none
def toPs : List Dt → List PyData
  | [] => []
  | d :: ds => toP d :: toPs ds
end
def scalD : Dt → Prop
  | .non => True
  | .bl _ => True
  | .int _ => True
  | .str x => PyData.canLay0 (.str x) = true
  | _ => False
/-- plain data of at most that depth -/
def DOk : Nat → Dt → Prop
  | 0, d => scalD d
  | n + 1, d => scalD d ∨ ∃ ds, (d = .lst ds ∨ d = .tup ds ∨ d = .nup ds) ∧ ∀ x ∈ ds, DOk n x
theorem scal_dp {K : PySem.W.Frag} {H : Hp} {d : Dt} {v : V} (s : scalD d) (h : DA K H d v) : Dp K H v (toP d) := by
  cases d with
  | non => unfold DA at h; rw [h]; exact .non
  | bl b => unfold DA at h; rw [h]; exact .bl b
  | int b => unfold DA at h; rw [h]; exact .int b
  | str b => unfold DA at h; rw [h]; exact .str b
  | lst _ => exact s.elim
  | tup _ => exact s.elim
  | nup _ => exact s.elim
  | scr _ => exact s.elim
  | ins _ _ _ => exact s.elim
theorem scal_ok {d : Dt} (s : scalD d) : (toP d).canLay0 = true ∧ (toP d).depth = 0 := by
  cases d with
  | non => exact ⟨rfl, rfl⟩
  | bl b => exact ⟨rfl, rfl⟩
  | int b => exact ⟨rfl, rfl⟩
  | str b => exact ⟨s, rfl⟩
  | lst _ => exact s.elim
  | tup _ => exact s.elim
  | nup _ => exact s.elim
  | scr _ => exact s.elim
  | ins _ _ _ => exact s.elim
theorem dok_all {K : PySem.W.Frag} {H : Hp} {n : Nat} (ih : ∀ {d : Dt} {v : V}, DOk n d → DA K H d v → Dp K H v (toP d)) : ∀ {ds : List Dt} {vs : List V}, (∀ x ∈ ds, DOk n x) → DAs K H ds vs → DpAll K H vs (toPs ds)
  | [], _, _, h => by unfold DAs at h; subst h; exact .nil
  | d :: ds, _, ok, h => by
    unfold DAs at h
    obtain ⟨v, r, rfl, h1, h2⟩ := h
    exact .cons (ih (ok d List.mem_cons_self) h1) (dok_all ih (fun x hx => ok x (List.mem_cons_of_mem _ hx)) h2)
theorem dok_dp {K : PySem.W.Frag} {H : Hp} : ∀ {n : Nat} {d : Dt} {v : V}, DOk n d → DA K H d v → Dp K H v (toP d)
  | 0, d, v, ok, h => scal_dp ok h
  | n + 1, d, v, ok, h => by
    rcases ok with ok | ⟨ds, rfl | rfl | rfl, ok⟩
    · exact scal_dp ok h
    · unfold DA at h
      obtain ⟨a, vs, rfl, e2, e3⟩ := h
      exact .lst (SqL.of e2) (dok_all dok_dp ok e3)
    · unfold DA at h
      obtain ⟨a, vs, rfl, e2, e3⟩ := h
      exact .tup e2 (dok_all dok_dp ok e3)
    · unfold DA at h
      obtain ⟨a, o, vs, rfl, e2, _, _, e3⟩ := h
      exact .tup (.inl (.inr ⟨o, e2⟩)) (dok_all dok_dp ok e3)
theorem dok_allp {n : Nat} (ih : ∀ {d : Dt}, DOk n d → (toP d).canLay0 = true ∧ (toP d).depth ≤ n) : ∀ {ds : List Dt}, (∀ x ∈ ds, DOk n x) → PyData.canLayAll0 (toPs ds) = true ∧ PyData.depthAll (toPs ds) ≤ n
  | [], _ => ⟨rfl, Nat.zero_le _⟩
  | d :: ds, ok => by
    obtain ⟨a1, a2⟩ := ih (ok d List.mem_cons_self)
    obtain ⟨b1, b2⟩ := dok_allp ih (fun x hx => ok x (List.mem_cons_of_mem _ hx)) (ds := ds)
    show PyData.canLayAll0 (toP d :: toPs ds) = true ∧ PyData.depthAll (toP d :: toPs ds) ≤ n
    unfold PyData.canLayAll0 PyData.depthAll
    rw [a1, b1]
    exact ⟨rfl, by omega⟩
theorem dok_ok : ∀ {n : Nat} {d : Dt}, DOk n d → (toP d).canLay0 = true ∧ (toP d).depth ≤ n
  | 0, d, ok => by
    obtain ⟨a, b⟩ := scal_ok ok
    exact ⟨a, by omega⟩
  | n + 1, d, ok => by
    rcases ok with ok | ⟨ds, rfl | rfl | rfl, ok⟩
    · obtain ⟨a, b⟩ := scal_ok ok
      exact ⟨a, by omega⟩
    · obtain ⟨a, b⟩ := dok_allp dok_ok ok
      unfold toP PyData.canLay0 PyData.depth
      exact ⟨a, by omega⟩
    · obtain ⟨a, b⟩ := dok_allp dok_ok ok
      unfold toP PyData.canLay0 PyData.depth
      exact ⟨a, by omega⟩
    · obtain ⟨a, b⟩ := dok_allp dok_ok ok
      unfold toP PyData.canLay0 PyData.depth
      exact ⟨a, by omega⟩
theorem dok_shaped {n : Nat} {d : Dt} (h : DOk n d) (hn : n ≤ 64) : SeqAt.shaped (toP d) = true := by
  obtain ⟨a, b⟩ := dok_ok h
  unfold SeqAt.shaped
  rw [a, decide_eq_true (Nat.le_trans b hn)]
  rfl
theorem DOk.lst {n : Nat} {ds : List Dt} (h : ∀ x ∈ ds, DOk n x) : DOk (n + 1) (.lst ds) := .inr ⟨ds, .inl rfl, h⟩
theorem DOk.tup {n : Nat} {ds : List Dt} (h : ∀ x ∈ ds, DOk n x) : DOk (n + 1) (.tup ds) := .inr ⟨ds, .inr (.inl rfl), h⟩
theorem DOk.nup {n : Nat} {ds : List Dt} (h : ∀ x ∈ ds, DOk n x) : DOk (n + 1) (.nup ds) := .inr ⟨ds, .inr (.inr rfl), h⟩
theorem DOk.int {n : Nat} {i : Int} : DOk n (.int i) := by cases n with | zero => exact trivial | succ n => exact .inl trivial
theorem DOk.bl {n : Nat} {i : Bool} : DOk n (.bl i) := by cases n with | zero => exact trivial | succ n => exact .inl trivial
theorem DOk.non {n : Nat} : DOk n .non := by cases n with | zero => exact trivial | succ n => exact .inl trivial
theorem DOk.str {n : Nat} {x : Str} (h : PyData.canLay0 (.str x) = true) : DOk n (.str x) := by cases n with | zero => exact h | succ n => exact .inl h
theorem DOk.up {n : Nat} : ∀ {d : Dt}, DOk n d → DOk (n + 1) d := by
  induction n with
  | zero => exact fun h => .inl h
  | succ n ih =>
    intro d h
    rcases h with h | ⟨ds, e, h⟩
    · exact .inl h
    · exact .inr ⟨ds, e, fun x hx => ih (h x hx)⟩
/-- Python's == of data -/
def eqD (a b : Dt) : Bool := PyData.eqv (toP a) (toP b)
theorem eqD_refl {n : Nat} {d : Dt} (h : DOk n d) : eqD d d = true := PySem.SeqAt.eqv_refl _ (dok_ok h).1
section
variable {P : Program} {w : World} {K : PySem.W.Frag} {mg : Str → Option Value} {base : Heap} {N : List Str} {sc : Scope} {F : Fm P w K mg base N sc}
variable {ρ : Rho} {M : OH} {e a b c : Expr} {pos : Pos} {r r1 r2 : Sl} {Q : Sl → OH → Prop} {D : DE}
theorem fEqD (i : F.ι) : OpR (F.X i) (compareOp .Eq) (rEqD K) := by have h := op_eqD (X := F.X i) (F.hr i).units; rw [F.eK i] at h; exact h
theorem fNeD (i : F.ι) : OpR (F.X i) (compareOp .NotEq) (rNeD K) := by have h := op_neD (X := F.X i) (F.hr i).units; rw [F.eK i] at h; exact h
theorem Dp.mono {H H' : Hp} (e : Same H H') : ∀ {d : Dt} {v : V} {n : Nat}, DOk n d → DA K H d v → Dp K H' v (toP d) := fun ok h => dok_dp ok (h.mono e)
theorem op2_eqD {x y : Dt} {n m : Nat} (h1 : DOk n x) (h2 : DOk m y) (hn : n ≤ 64) (hm : m ≤ 64) : Op2 F (rEqD K) (.dat x) (.dat y) M fun r' M' => r' = .dat (.bl (eqD x y)) ∧ M' = M := fun H 𝓗 u v Q' c q1 q2 k =>
  ⟨toP x, toP y, Dp.mono c.u h1 q1, Dp.mono c.u h2 q2, dok_shaped h1 hn, dok_shaped h2 hm, here c k (by show DA K H _ _; unfold DA; rfl)⟩
theorem op2_neD {x y : Dt} {n m : Nat} (h1 : DOk n x) (h2 : DOk m y) (hn : n ≤ 64) (hm : m ≤ 64) : Op2 F (rNeD K) (.dat x) (.dat y) M fun r' M' => r' = .dat (.bl (!eqD x y)) ∧ M' = M := fun H 𝓗 u v Q' c q1 q2 k =>
  ⟨toP x, toP y, Dp.mono c.u h1 q1, Dp.mono c.u h2 q2, dok_shaped h1 hn, dok_shaped h2 hm, here c k (by show DA K H _ _; unfold DA; rfl)⟩
section
variable {x y : Dt} {n m : Nat}
theorem ed_eqD (ha : ED F ρ M a (.dat x)) (hb : ED F ρ M b (.dat y)) (h1 : DOk n x) (h2 : DOk m y) (hn : n ≤ 64 := by decide) (hm : m ≤ 64 := by decide) : ED F ρ M (.Compare a [.Eq] [b] pos) (.dat (.bl (eqD x y))) := ed_op2 (fun i => pe_cmpR (fEqD i) (pe_u _) (pe_u _) (nomark _)) ha hb (op2_eqD h1 h2 hn hm)
theorem ed_neD (ha : ED F ρ M a (.dat x)) (hb : ED F ρ M b (.dat y)) (h1 : DOk n x) (h2 : DOk m y) (hn : n ≤ 64 := by decide) (hm : m ≤ 64 := by decide) : ED F ρ M (.Compare a [.NotEq] [b] pos) (.dat (.bl (!eqD x y))) := ed_op2 (fun i => pe_cmpR (fNeD i) (pe_u _) (pe_u _) (nomark _)) ha hb (op2_neD h1 h2 hn hm)
theorem td_eqD (ha : ED F ρ M a (.dat x)) (hb : ED F ρ M b (.dat y)) (h1 : DOk n x) (h2 : DOk m y) (hn : n ≤ 64 := by decide) (hm : m ≤ 64 := by decide) : TD F ρ M (.Compare a [.Eq] [b] pos) (eqD x y) := td_op2 (fun i => pt_cmpR (fEqD i) (pe_u _) (pe_u _) (nomark _)) ha hb (op2_eqD h1 h2 hn hm)
theorem td_neD (ha : ED F ρ M a (.dat x)) (hb : ED F ρ M b (.dat y)) (h1 : DOk n x) (h2 : DOk m y) (hn : n ≤ 64 := by decide) (hm : m ≤ 64 := by decide) : TD F ρ M (.Compare a [.NotEq] [b] pos) (!eqD x y) := td_op2 (fun i => pt_cmpR (fNeD i) (pe_u _) (pe_u _) (nomark _)) ha hb (op2_neD h1 h2 hn hm)
end
/-! ### in -/
def flatD : Dt → Bool
  | .non => true
  | .bl _ => true
  | .int _ => true
  | .str _ => true
  | _ => false
def vD : Dt → V
  | .bl b => .bl b
  | .int i => .int i
  | .str x => .str x
  | _ => .non
theorem vD_ok {H : Hp} {d : Dt} {v : V} (h : DA K H d v) (e : flatD d = true) : v = vD d ∧ flatV (vD d) = true := by
  cases d with
  | non => unfold DA at h; exact ⟨h, rfl⟩
  | bl b => unfold DA at h; exact ⟨h, rfl⟩
  | int b => unfold DA at h; exact ⟨h, rfl⟩
  | str b => unfold DA at h; exact ⟨h, rfl⟩
  | lst _ => cases e
  | tup _ => cases e
  | nup _ => cases e
  | scr _ => cases e
  | ins _ _ _ => cases e
theorem vDs_ok {H : Hp} : ∀ {ds : List Dt} {vs : List V}, DAs K H ds vs → (∀ d ∈ ds, flatD d = true) → vs = ds.map vD ∧ vs.all flatV = true
  | [], _, h, _ => by unfold DAs at h; subst h; exact ⟨rfl, rfl⟩
  | d :: ds, _, h, e => by
    unfold DAs at h
    obtain ⟨v, r, rfl, h1, h2⟩ := h
    obtain ⟨a1, a2⟩ := vD_ok h1 (e d List.mem_cons_self)
    obtain ⟨b1, b2⟩ := vDs_ok h2 fun x hx => e x (List.mem_cons_of_mem _ hx)
    rw [a1, b1]
    refine ⟨rfl, ?_⟩
    rw [List.all_cons, a2, ← b1, b2]
    rfl
/-- Python's in, over flat data -/
def inD (x : Dt) (ds : List Dt) : Bool := inV (vD x) (ds.map vD)
theorem inD_int {i : Int} {ns : List Int} : inD (.int i) (ns.map .int) = decide (i ∈ ns) := by
  unfold inD inV
  rw [List.map_map, List.any_map]
  induction ns with
  | nil => rfl
  | cons n ns ih =>
    rw [List.any_cons, ih]
    have : (eqV (vD (.int n)) (vD (.int i))) = decide (i = n) := by
      show eqV (.int n) (.int i) = _
      unfold eqV
      by_cases h : n = i
      · subst h; simp
      · rw [decide_eq_false (fun z => h z.symm)]
        simp [h]
    show (eqV (vD (.int n)) (vD (.int i)) || decide (i ∈ ns)) = _
    rw [this]
    by_cases h1 : i = n
    · subst h1; simp
    · by_cases h2 : i ∈ ns <;> simp [h1, h2]
theorem fIn (i : F.ι) : OpR (F.X i) (compareOp .In) (rIn K false) := by have h := op_in_seq (X := F.X i); rw [F.eK i] at h; exact h
theorem fNotIn (i : F.ι) : OpR (F.X i) (compareOp .NotIn) (rIn K true) := by have h := op_notIn_seq (X := F.X i); rw [F.eK i] at h; exact h
theorem op2_in {neg : Bool} {x : Dt} {s : Sl} {ds : List Dt} (hx : flatD x = true) (hl : SqOf M s (ds.map .dat)) (hf : ∀ d ∈ ds, flatD d = true) : Op2 F (rIn K neg) (.dat x) s M fun r' M' => r' = .dat (.bl (if neg then !inD x ds else inD x ds)) ∧ M' = M := fun H 𝓗 u v Q' c q1 q2 k => by
  obtain ⟨p, vs, rfl, e2, e3⟩ := hl.seq c q2
  obtain ⟨a1, a2⟩ := vD_ok q1 hx
  obtain ⟨b1, b2⟩ := vDs_ok (SlsOk.das.mp e3) hf
  subst a1
  refine ⟨p, vs, rfl, e2, a2, b2, here c k ?_⟩
  show DA K H _ _
  unfold DA
  rw [b1]
  rfl
theorem ed_in {x : Dt} {s : Sl} {ds : List Dt} (ha : ED F ρ M a (.dat x)) (hb : ED F ρ M b s) (hl : SqOf M s (ds.map .dat)) (hx : flatD x = true) (hf : ∀ d ∈ ds, flatD d = true) (hm : behindInMarks .In b = false := by rfl) : ED F ρ M (.Compare a [.In] [b] pos) (.dat (.bl (inD x ds))) :=
  ed_op2 (fun i => pe_cmpR (fIn i) (pe_u _) (pe_u _) hm) ha hb (op2_in hx hl hf)
theorem ed_nin {x : Dt} {s : Sl} {ds : List Dt} (ha : ED F ρ M a (.dat x)) (hb : ED F ρ M b s) (hl : SqOf M s (ds.map .dat)) (hx : flatD x = true) (hf : ∀ d ∈ ds, flatD d = true) (hm : behindInMarks .NotIn b = false := by rfl) : ED F ρ M (.Compare a [.NotIn] [b] pos) (.dat (.bl (!inD x ds))) :=
  ed_op2 (fun i => pe_cmpR (fNotIn i) (pe_u _) (pe_u _) hm) ha hb (op2_in hx hl hf)
theorem td_in {x : Dt} {s : Sl} {ds : List Dt} (ha : ED F ρ M a (.dat x)) (hb : ED F ρ M b s) (hl : SqOf M s (ds.map .dat)) (hx : flatD x = true) (hf : ∀ d ∈ ds, flatD d = true) (hm : behindInMarks .In b = false := by rfl) : TD F ρ M (.Compare a [.In] [b] pos) (inD x ds) :=
  td_op2 (fun i => pt_cmpR (fIn i) (pe_u _) (pe_u _) hm) ha hb (op2_in hx hl hf)
theorem td_nin {x : Dt} {s : Sl} {ds : List Dt} (ha : ED F ρ M a (.dat x)) (hb : ED F ρ M b s) (hl : SqOf M s (ds.map .dat)) (hx : flatD x = true) (hf : ∀ d ∈ ds, flatD d = true) (hm : behindInMarks .NotIn b = false := by rfl) : TD F ρ M (.Compare a [.NotIn] [b] pos) (!inD x ds) :=
  td_op2 (fun i => pt_cmpR (fNotIn i) (pe_u _) (pe_u _) hm) ha hb (op2_in hx hl hf)
end
end DL
namespace DL
open PySem PySem.Spec PyProof.Rows L2
/-! ### slices, + and * of lists and tuples, stores, sums -/
/-- the part that a slice takes, its bounds not below 0 -/
def cutN {α : Type} (xs : List α) (lo hi : Option Nat) : List α := (xs.drop (lo.getD 0)).take ((match hi with | some h => min h xs.length | none => xs.length) - lo.getD 0)
def oI : Option Nat → Option Int
  | some n => some (n : Int)
  | none => none
theorem cutV_eq (vs : List V) (lo hi : Option Nat) : cutV vs (oI lo) (oI hi) = cutN vs lo hi := by
  have h1 : HT.sIx vs.length 0 (oI lo) = min (lo.getD 0) vs.length := by
    cases lo with
    | none => simp [oI, HT.sIx]
    | some n => exact HT.sIx_nat _ _ _
  have h2 : HT.sIx vs.length vs.length (oI hi) = (match hi with | some h => min h vs.length | none => vs.length) := by
    cases hi with
    | none => rfl
    | some n => exact HT.sIx_nat _ _ _
  unfold cutV cutN
  rw [h1, h2]
  by_cases h : lo.getD 0 ≤ vs.length
  · rw [Nat.min_eq_left h]
  · rw [Nat.min_eq_right (by omega), List.drop_eq_nil_of_le (Nat.le_refl _), List.drop_eq_nil_of_le (by omega)]
    simp
theorem cut_take {α : Type} (xs : List α) (n : Nat) : cutN xs none (some n) = xs.take n := by
  unfold cutN
  simp only [Option.getD_none, List.drop_zero, Nat.sub_zero]
  by_cases h : n ≤ xs.length
  · rw [Nat.min_eq_left h]
  · rw [Nat.min_eq_right (by omega), List.take_of_length_le (Nat.le_refl _), List.take_of_length_le (by omega)]
theorem cut_drop {α : Type} (xs : List α) (n : Nat) : cutN xs (some n) none = xs.drop n := by
  unfold cutN
  simp only [Option.getD_some]
  rw [List.take_of_length_le (by rw [List.length_drop]; omega)]
theorem cutN_map {α β : Type} (f : α → β) (xs : List α) (lo hi : Option Nat) : cutN (xs.map f) lo hi = (cutN xs lo hi).map f := by
  unfold cutN
  rw [List.map_take, List.map_drop, List.length_map]
theorem paired_cut {α β : Type} {F : α → β → Prop} {l₁ : List α} {l₂ : List β} (h : Paired F l₁ l₂) (lo hi : Option Nat) : Paired F (cutN l₁ lo hi) (cutN l₂ lo hi) := by
  unfold cutN
  rw [h.length]
  exact paired_take _ (paired_drop _ h)
section
variable {P : Program} {w : World} {K : PySem.W.Frag} {mg : Str → Option Value} {base : Heap} {N : List Str} {sc : Scope} {F : Fm P w K mg base N sc}
variable {ρ : Rho} {M : OH} {e a b c : Expr} {pos : Pos} {r r1 r2 : Sl} {Q : Sl → OH → Prop} {D : DE}
/-- a slice's part -/
inductive PD (F : Fm P w K mg base N sc) (ρ : Rho) (M : OH) : Option Expr → Option Nat → Prop
  | non : PD F ρ M none none
  | som {e : Expr} {i : Int} (n : Nat) : ED F ρ M e (.dat (.int i)) → i = (n : Int) → PD F ρ M (some e) (some n)
def toOf (F : Fm P w K mg base N sc) : Option Expr → TO
  | none => tNoPart
  | some e => tPart (uE F e)
theorem po_u (i : F.ι) (e : Option Expr) : PO (F.X i) e (toOf F e) := by
  cases e with
  | none => exact po_none
  | some e => exact po_some (pe_u i)
theorem PD.go {o : Option Expr} {n : Option Nat} (h : PD F ρ M o n) {H 𝓗 : Hp} {σ : L2.St} (cc : St3 F M H 𝓗) (hE : EnvOk K H σ ρ) {R : Option Int → Hp → Prop} (k : ∀ H' 𝓗', St3 F M H' 𝓗' → Same H H' → R (oI n) 𝓗') : toOf F o σ 𝓗 R := by
  cases h with
  | non => exact k H 𝓗 cc (Same.refl H)
  | som n h e =>
    refine (h.run H 𝓗 σ cc hE).mono fun v 𝓗1 ⟨H1, M1, r1, c1, s1, q1, e1, e2⟩ => ?_
    subst e1 e2 e
    exact ⟨n, q1, k H1 𝓗1 c1 s1⟩
theorem fSlL (i : F.ι) : SlR (F.X i) (rSlL K) := by have h := sl_list (X := F.X i); rw [F.eK i] at h; exact h
theorem fSlT (i : F.ι) : SlR (F.X i) (rSlA K) := by have h := sl_tupA (X := F.X i); rw [F.eK i] at h; exact h
theorem el_slice {p2 : Pos} {lo hi : Option Expr} {nl nh : Option Nat} {s : Sl} {xs : List Sl} (ha : ED F ρ M a s) (hl : LsOf M s xs) (h1 : PD F ρ M lo nl) (h2 : PD F ρ M hi nh) : EL F ρ M (.Subscript a (.Slice lo hi none p2) pos) (cutN xs nl nh) := .mk fun H 𝓗 σ c hE => by
  refine uE.by (t := tSl (rSlL K) (uE F a) (toOf F lo) (toOf F hi)) (fun j => pe_slice (fSlL j) (pe_u j) (po_u j lo) (po_u j hi)) ((ha.run H 𝓗 σ c hE).mono fun v 𝓗1 ⟨H1, M1, r1, c1, s1, q1, e1, e2⟩ => ?_)
  subst e1 e2
  refine h1.go c1 (hE.mono s1) fun H2 𝓗2 c2 s2 => h2.go c2 (hE.mono (s1.trans s2)) fun H3 𝓗3 c3 s3 => ?_
  obtain ⟨p, vs, rfl, e2, e3⟩ := hl.seq c3 (q1.mono (s2.trans s3))
  refine ⟨p, vs, rfl, e2, fun q hq => ?_⟩
  rw [cutV_eq]
  exact ⟨H3, _, .raw (.ref q), c3.newL hq (paired_cut e3 nl nh), (s1.trans s2).trans s3, rfl, q, (c3.none_of hq).2.2, rfl, rfl⟩
theorem ed_sliceL {p2 : Pos} {lo hi : Option Expr} {nl nh : Option Nat} {s : Sl} {ds : List Dt} (ha : ED F ρ M a s) (hl : LsOf M s (ds.map .dat)) (h1 : PD F ρ M lo nl) (h2 : PD F ρ M hi nh) : ED F ρ M (.Subscript a (.Slice lo hi none p2) pos) (.dat (.lst (cutN ds nl nh))) := (el_slice ha hl h1 h2 |>.to (cutN_map _ _ _ _)).ed
theorem ed_sliceT {p2 : Pos} {lo hi : Option Expr} {nl nh : Option Nat} {ds : List Dt} (ha : ED F ρ M a (.dat (.tup ds))) (h1 : PD F ρ M lo nl) (h2 : PD F ρ M hi nh) : ED F ρ M (.Subscript a (.Slice lo hi none p2) pos) (.dat (.tup (cutN ds nl nh))) := .mk fun H 𝓗 σ c hE => by
  refine uE.by (t := tSl (rSlA K) (uE F a) (toOf F lo) (toOf F hi)) (fun j => pe_slice (fSlT j) (pe_u j) (po_u j lo) (po_u j hi)) ((ha.run H 𝓗 σ c hE).mono fun v 𝓗1 ⟨H1, M1, r1, c1, s1, q1, e1, e2⟩ => ?_)
  subst e1 e2
  refine h1.go c1 (hE.mono s1) fun H2 𝓗2 c2 s2 => h2.go c2 (hE.mono (s1.trans s2)) fun H3 𝓗3 c3 s3 => ?_
  have q3 := q1.mono (s2.trans s3)
  obtain ⟨p, vs, rfl, e2, e3⟩ := tup_seq c3 q3
  have e4 : SlsOk K H3 (cutV vs (oI nl) (oI nh)) ((cutN ds nl nh).map .dat) := by rw [cutV_eq, ← cutN_map]; exact paired_cut e3 nl nh
  refine ⟨p, vs, rfl, e2, fun hw => ?_, fun hw q hq => ?_⟩
  · have ev : cutV vs (oI nl) (oI nh) = vs := by
      unfold cutV
      rw [hw.1, hw.2]
      simp
    have ed : cutN ds nl nh = ds := by
      rw [ev] at e4
      have h1 := e4.length
      rw [List.length_map] at h1
      have h2 := e3.length
      rw [List.length_map] at h2
      have : (cutN ds nl nh).length = ds.length := by omega
      unfold cutN at this ⊢
      have h5 := List.length_take_le ((match nh with | some h => min h ds.length | none => ds.length) - nl.getD 0) (ds.drop (nl.getD 0))
      rw [List.length_take, List.length_drop] at this
      by_cases hz : ds.length = 0
      · have : ds = [] := List.length_eq_zero_iff.mp hz
        subst this; simp
      · have h6 : nl.getD 0 = 0 := by omega
        rw [h6] at this ⊢
        simp only [List.drop_zero, Nat.sub_zero] at this ⊢
        exact List.take_of_length_le (by omega)
    rw [ed]
    exact ⟨H3, _, .dat (.tup ds), c3, (s1.trans s2).trans s3, q3, rfl, rfl⟩
  · obtain ⟨c4, s4⟩ := c3.newF (o := .tup (cutV vs (oI nl) (oI nh))) hq
    refine ⟨_, _, .dat (.tup (cutN ds nl nh)), c4, ((s1.trans s2).trans s3).trans s4, ?_, rfl, rfl⟩
    show DA K _ (.tup (cutN ds nl nh)) _
    unfold DA
    exact ⟨q, _, rfl, SqT.of upd_same, (SlsOk.das.mp e4).mono s4⟩
/-- a list that is tracked -/
inductive LtOf (M : OH) : Sl → List Sl → Prop
  | dat (ds : List Dt) : LtOf M (.dat (.lst ds)) (ds.map .dat)
  | raw {p : Addr} {xs : List Sl} : M p = some xs → LtOf M (.raw (.ref p)) xs
theorem LtOf.seq {s : Sl} {xs : List Sl} {H 𝓗 : Hp} {v : V} (h : LtOf M s xs) (c : St3 F M H 𝓗) (q : SlOk K H v s) : ∃ p vs, v = .ref p ∧ 𝓗 p = some (.lst vs) ∧ SlsOk K H vs xs := by
  cases h with
  | dat ds =>
    have q' : DA K H (.lst ds) v := q
    unfold DA at q'
    obtain ⟨p, vs, e1, e2, e3⟩ := q'
    exact ⟨p, vs, e1, c.u _ _ e2, SlsOk.das.mpr e3⟩
  | raw e =>
    obtain ⟨_, _, vs, e2, e3⟩ := c.o _ _ e
    exact ⟨_, vs, q, e2, e3⟩
theorem el_cat {s t : Sl} {xs ys : List Sl} (ha : ED F ρ M a s) (hb : ED F ρ M b t) (h1 : LtOf M s xs) (h2 : LtOf M t ys) (hz : xs.length + ys.length ≤ 100000) : EL F ρ M (.BinOp a .Add b pos) (xs ++ ys) :=
  ew_op2 (fun _ => pe_op op_cat (pe_u _) (pe_u _)) (ha.ew (hb.ew fun H 𝓗 u v Q' c q1 q2 k => by
    obtain ⟨p, vs, rfl, e2, e3⟩ := h1.seq c q1
    obtain ⟨p2, ws, rfl, f2, f3⟩ := h2.seq c q2
    refine ⟨p, p2, vs, ws, rfl, rfl, e2, f2, sz5 (by rw [e3.length, f3.length]; exact hz), fun q hq => k _ _ ⟨H, _, .raw (.ref q), c.newL hq (paired_append e3 f3), Same.refl H, rfl, q, (c.none_of hq).2.2, rfl, rfl⟩⟩))
theorem ew_catW (h : EW F ρ M a fun s M1 => EW F ρ M1 b fun t M2 => ∃ xs ys, LtOf M2 s xs ∧ LtOf M2 t ys ∧ xs.length + ys.length ≤ 100000 ∧ ∀ p, M2 p = none → Q (.raw (.ref p)) (oset M2 p (xs ++ ys))) : EW F ρ M (.BinOp a .Add b pos) Q :=
  ew_op2 (fun _ => pe_op op_cat (pe_u _) (pe_u _)) (h.mono fun s M1 h => h.mono fun t M2 ⟨xs, ys, h1, h2, hz, kk⟩ H 𝓗 u v Q' c q1 q2 k => by
    obtain ⟨p, vs, rfl, e2, e3⟩ := h1.seq c q1
    obtain ⟨p2, ws, rfl, f2, f3⟩ := h2.seq c q2
    refine ⟨p, p2, vs, ws, rfl, rfl, e2, f2, sz5 (by rw [e3.length, f3.length]; exact hz), fun q hq => k _ _ ⟨H, _, .raw (.ref q), c.newL hq (paired_append e3 f3), Same.refl H, rfl, kk q (c.none_of hq).2.2⟩⟩)
theorem ed_cat {xs ys : List Dt} (ha : ED F ρ M a (.dat (.lst xs))) (hb : ED F ρ M b (.dat (.lst ys))) (hz : xs.length + ys.length ≤ 100000) : ED F ρ M (.BinOp a .Add b pos) (.dat (.lst (xs ++ ys))) :=
  (el_cat ha hb (.dat _) (.dat _) (by rw [List.length_map, List.length_map]; exact hz) |>.to (List.map_append (f := Sl.dat)).symm).ed
theorem el_rep {s : Sl} {xs : List Sl} {i : Int} (n : Nat) (ha : ED F ρ M a s) (hb : ED F ρ M b (.dat (.int i))) (h1 : LtOf M s xs) (hi : i = (n : Int)) (hz : xs.length * n ≤ 100000) (hn : n ≤ 100000) : EL F ρ M (.BinOp a .Mult b pos) (List.replicate n xs).flatten := by
  subst hi
  exact ew_op2 (fun _ => pe_op op_rep (pe_u _) (pe_u _)) (ha.ew (hb.ew fun H 𝓗 u v Q' c q1 q2 k => by
    obtain ⟨p, vs, rfl, e2, e3⟩ := h1.seq c q1
    have q2' : v = .int (n : Int) := q2
    subst q2'
    refine ⟨p, n, vs, rfl, rfl, e2, by omega, by omega, sz5 (by rw [e3.length, Int.toNat_natCast]; exact hz), fun q hq => k _ _ ⟨H, _, .raw (.ref q), c.newL hq (paired_rep e3 n), Same.refl H, rfl, q, (c.none_of hq).2.2, rfl, rfl⟩⟩))
theorem ed_rep {ds : List Dt} {i : Int} (n : Nat) (ha : ED F ρ M a (.dat (.lst ds))) (hb : ED F ρ M b (.dat (.int i))) (hi : i = (n : Int)) (hz : ds.length * n ≤ 100000) (hn : n ≤ 100000) : ED F ρ M (.BinOp a .Mult b pos) (.dat (.lst (List.replicate n ds).flatten)) :=
  (el_rep n ha hb (.dat _) hi (by rw [List.length_map]; exact hz) hn |>.to (by rw [List.map_flatten, List.map_replicate])).ed
/-! ### stores -/
theorem s_setI {o i : Expr} {p2 : Pos} {k : Int} {n : Nat} {q : Addr} (h : EW F ρ M e fun s M1 => ED F ρ M1 o (.raw (.ref q)) ∧ ED F ρ M1 i (.dat (.int k)) ∧ k = (n : Int) ∧ ∃ xs, M1 q = some xs ∧ n < xs.length ∧ D.nx ρ (oset M1 q (xs.set n s)))
    (ha : ∀ j v, assign (.Subscript o i p2) (F.X j).env v = (do
      let ov ← holding [v] (eval o (F.X j).env)
      let iv ← holding [v, ov] (eval i (F.X j).env)
      standAt p2
      holding [v, ov, iv] (setItem ov iv v)
      release [v, ov, iv] []) := by intro _ _; rfl) (hs : ∀ j, swapsWithSole [.Subscript o i p2] e pos.line (F.X j).env = pure false := by intro _; rfl) (hw : ∀ j, swappedStores [.Subscript o i p2] e (F.X j).env = pure none := by intro _; rfl)
    (h1 : ∀ j, (assignEach [.Subscript o i p2] (F.X j).env).map (·.2) = [assign (.Subscript o i p2) (F.X j).env] := by intro _; rfl) : S1 F ρ M (.Assign [.Subscript o i p2] e pos) D := .mk fun H 𝓗 σ c hE => by
  refine uS.by (t := tAsg (uE F e) (gSub (uE F o) (uE F i) rSetL)) (fun j => ps_asg (pe_u j) (pg_sub (pe_u j) (pe_u j) set_list (ha j)) (hs j) (hw j) (h1 j)) ((h.run H 𝓗 σ c hE).mono fun v 𝓗1 ⟨H1, M1, s, c1, s1, q1, ho, hi, hk, xs, hq, hn, kk⟩ => ?_)
  refine (ho.run H1 𝓗1 σ c1 (hE.mono s1)).mono fun ov 𝓗2 ⟨H2, M2, s2', c2, s2, q2, e1, e2⟩ => ?_
  subst e1 e2
  refine (hi.run H2 𝓗2 σ c2 (hE.mono (s1.trans s2))).mono fun iv 𝓗3 ⟨H3, M3, s3', c3, s3, q3, e1, e2⟩ => ?_
  subst e1 e2 hk
  have q2' : ov = .ref q := q2
  have q3' : iv = .int (n : Int) := q3
  subst q2' q3'
  obtain ⟨_, _, ws, w1, w2⟩ := c3.o q xs hq
  refine ⟨q, ws, n, n, rfl, rfl, w1, ?_, ρ, _, H3, c3.wr hq (paired_set (q1.mono (s2.trans s3)) n w2), (s1.trans s2).trans s3, hE.mono ((s1.trans s2).trans s3), kk⟩
  unfold ixN
  rw [if_pos (by omega), if_pos (by have := w2.length; omega)]
  rfl
/-! ### sum, max, any, list, tuple -/
theorem vInts {H : Hp} : ∀ {ns : List Int} {vs : List V}, DAs K H (ns.map .int) vs → vs = ns.map V.int
  | [], vs, h => by
    have h' : DAs K H [] vs := h
    unfold DAs at h'; exact h'
  | n :: ns, vs, h => by
    have h' : DAs K H (.int n :: ns.map .int) vs := h
    unfold DAs at h'
    obtain ⟨v, r, rfl, h1, h2⟩ := h'
    unfold DA at h1
    rw [h1, vInts h2]
    rfl
theorem vBls {H : Hp} : ∀ {ns : List Bool} {vs : List V}, DAs K H (ns.map .bl) vs → vs = ns.map V.bl
  | [], vs, h => by
    have h' : DAs K H [] vs := h
    unfold DAs at h'; exact h'
  | n :: ns, vs, h => by
    have h' : DAs K H (.bl n :: ns.map .bl) vs := h
    unfold DAs at h'
    obtain ⟨v, r, rfl, h1, h2⟩ := h'
    unfold DA at h1
    rw [h1, vBls h2]
    rfl
theorem fSum (i : F.ι) : CallR (F.X i) (.builtin "sum") (rSum K) := by have h := cr_sum (X := F.X i) (F.hc i); rw [F.eK i] at h; exact h
theorem fMax (i : F.ι) : CallR (F.X i) (.builtin "max") (rMax K) := by have h := cr_max (X := F.X i) (F.hc i); rw [F.eK i] at h; exact h
theorem fAny (i : F.ι) : CallR (F.X i) (.builtin "any") (rAny K) := by have h := cr_any (X := F.X i) (F.hc i); rw [F.eK i] at h; exact h
theorem fListOf (i : F.ι) : CallR (F.X i) (.type "list") (fun xs H Q => ∃ p ys, xs = [.ref p] ∧ (SqL K H p ys ∨ SqT K H p ys) ∧ ∀ l, H l = none → Q (.ref l) (upd H l (.lst ys))) := by have h := call_list_of (X := F.X i); rw [F.eK i] at h; exact h
theorem fTupleOf (i : F.ι) : CallR (F.X i) (.type "tuple") (fun xs H Q => ∃ p ys, xs = [.ref p] ∧ ((SqL K H p ys ∧ ∀ l, H l = none → Q (.ref l) (upd H l (.tup ys))) ∨ (SqT K H p ys ∧ Q (.ref p) H))) := by have h := call_tuple_of (X := F.X i); rw [F.eK i] at h; exact h
section
variable {p : Pos} {s : Sl}
theorem ed_sum {ns : List Int} (mm : mg "sum" = none) (ha : ED F ρ M a s) (hl : LsOf M s ((ns.map Dt.int).map .dat)) (hg : GL F "sum" := by intro _; rfl) (hs : NS F a [] := by intro _; rfl) (hpl : NP F pos [] := by intro _; rfl) : ED F ρ M (.Call (.Name "sum" p) [a] [] pos) (.dat (.int ns.sum)) := by
  refine ew_cb (fun i => pe_callB (fSum i) (hg i) (hmg mm i) (by decide +kernel) (pa_u i) (he := hs i) (hpl := hpl i)) ((ad_cons ha ad_nil hs).aw fun H 𝓗 vs Q' c q k => ?_)
  obtain ⟨v, rfl, qv⟩ := sl1 q
  obtain ⟨p, ws, rfl, e2, e3⟩ := hl.seq c qv
  rw [vInts (SlsOk.das.mp e3)] at e2
  exact ⟨p, ns, rfl, e2, here c k (by show DA K H _ _; unfold DA; rfl)⟩
theorem ew_max {ns : List Int} (mm : mg "max" = none) (ha : ED F ρ M a s) (hl : LsOf M s ((ns.map Dt.int).map .dat)) (hn : 0 < ns.length) (kk : ∀ m, m ∈ ns → (∀ y ∈ ns, y ≤ m) → Q (.dat (.int m)) M) (hg : GL F "max" := by intro _; rfl) (hs : NS F a [] := by intro _; rfl) (hpl : NP F pos [] := by intro _; rfl) : EW F ρ M (.Call (.Name "max" p) [a] [] pos) Q := by
  refine ew_cb (fun i => pe_callB (fMax i) (hg i) (hmg mm i) (by decide +kernel) (pa_u i) (he := hs i) (hpl := hpl i)) ((ad_cons ha ad_nil hs).aw fun H 𝓗 vs Q' c q k => ?_)
  obtain ⟨v, rfl, qv⟩ := sl1 q
  obtain ⟨p, ws, rfl, e2, e3⟩ := hl.seq c qv
  rw [vInts (SlsOk.das.mp e3)] at e2
  exact ⟨p, ns, rfl, e2, hn, fun m h1 h2 => k _ _ ⟨H, M, .dat (.int m), c, Same.refl H, (by show DA K H _ _; unfold DA; rfl), kk m h1 h2⟩⟩
theorem ed_any {bs : List Bool} (mm : mg "any" = none) (ha : ED F ρ M a s) (hl : LsOf M s ((bs.map Dt.bl).map .dat)) (hg : GL F "any" := by intro _; rfl) (hs : NS F a [] := by intro _; rfl) (hpl : NP F pos [] := by intro _; rfl) : ED F ρ M (.Call (.Name "any" p) [a] [] pos) (.dat (.bl (bs.any id))) := by
  refine ew_cb (fun i => pe_callB (fAny i) (hg i) (hmg mm i) (by decide +kernel) (pa_u i) (he := hs i) (hpl := hpl i)) ((ad_cons ha ad_nil hs).aw fun H 𝓗 vs Q' c q k => ?_)
  obtain ⟨v, rfl, qv⟩ := sl1 q
  obtain ⟨p, ws, rfl, e2, e3⟩ := hl.seq c qv
  rw [vBls (SlsOk.das.mp e3)] at e2
  exact ⟨p, bs, rfl, e2, here c k (by show DA K H _ _; unfold DA; rfl)⟩
/-- list(xs) -/
theorem el_list {xs : List Sl} (mm : mg "list" = none) (ha : ED F ρ M a s) (hl : SqOf M s xs) (hg : GL F "list" := by intro _; rfl) (hs : NS F a [] := by intro _; rfl) (hpl : NP F pos [] := by intro _; rfl) : EL F ρ M (.Call (.Name "list" p) [a] [] pos) xs := by
  refine ew_cb (fun i => pe_callTy (fListOf i) (hg i) (hmg mm i) (by decide +kernel) (pa_u i) (he := hs i) (hpl := hpl i)) ((ad_cons ha ad_nil hs).aw fun H 𝓗 vs Q' c q k => ?_)
  obtain ⟨v, rfl, qv⟩ := sl1 q
  obtain ⟨p, ws, rfl, e2, e3⟩ := hl.seq c qv
  exact ⟨p, ws, rfl, e2, fun l hl => k _ _ ⟨H, _, .raw (.ref l), c.newL hl e3, Same.refl H, rfl, l, (c.none_of hl).2.2, rfl, rfl⟩⟩
theorem ed_list {ds : List Dt} (mm : mg "list" = none) (ha : ED F ρ M a s) (hl : SqOf M s (ds.map .dat)) (hg : GL F "list" := by intro _; rfl) (hs : NS F a [] := by intro _; rfl) (hpl : NP F pos [] := by intro _; rfl) : ED F ρ M (.Call (.Name "list" p) [a] [] pos) (.dat (.lst ds)) := (el_list mm ha hl hg hs hpl).ed
/-- tuple(xs) of a list of data -/
theorem ed_tuple {ds : List Dt} (mm : mg "tuple" = none) (ha : ED F ρ M a s) (hl : LsOf M s (ds.map .dat)) (hg : GL F "tuple" := by intro _; rfl) (hs : NS F a [] := by intro _; rfl) (hpl : NP F pos [] := by intro _; rfl) : ED F ρ M (.Call (.Name "tuple" p) [a] [] pos) (.dat (.tup ds)) := by
  refine ew_cb (fun i => pe_callTy (fTupleOf i) (hg i) (hmg mm i) (by decide +kernel) (pa_u i) (he := hs i) (hpl := hpl i)) ((ad_cons ha ad_nil hs).aw fun H 𝓗 vs Q' c q k => ?_)
  obtain ⟨v, rfl, qv⟩ := sl1 q
  obtain ⟨p, ws, rfl, e2, e3⟩ := hl.seq c qv
  refine ⟨p, ws, rfl, .inl ⟨e2, fun l hl => ?_⟩⟩
  obtain ⟨c2, s2⟩ := c.newF (o := .tup ws) hl
  refine k _ _ ⟨_, _, .dat (.tup ds), c2, s2, ?_, rfl, rfl⟩
  show DA K _ (.tup ds) _
  unfold DA
  exact ⟨l, ws, rfl, SqT.of upd_same, (SlsOk.das.mp e3).mono s2⟩
end
end
end DL
namespace DL
open PySem PySem.Spec PyProof.Rows L2
section
variable {P : Program} {w : World} {K : PySem.W.Frag} {mg : Str → Option Value} {base : Heap} {N : List Str} {sc : Scope} {F : Fm P w K mg base N sc}
variable {ρ : Rho} {M : OH} {e a b c o : Expr} {pos apos : Pos} {r r1 r2 s : Sl} {Q : Sl → OH → Prop} {D : DE} {p : Addr} {xs : List Sl}
/-! ### more methods of lists -/
theorem fCnt (i : F.ι) : MtR (F.X i) "list.count" (rCntI K) := by have h := mt_lcount (X := F.X i); rw [F.eK i] at h; exact h
theorem ed_count {ns : List Int} {k : Int} (ho : ED F ρ M o s) (hl : LsOf M s ((ns.map Dt.int).map .dat)) (ha : ED F ρ M a (.dat (.int k)))
    (hb : AB F o "count" := by intro _; rfl) (hf : FW F pos [a] := by intro _; rfl) (hline : (apos.endLine == pos.line) = true := by rfl) (hs : NS F a [] := by intro _; rfl) (hpl : NP F pos [] := by intro _; rfl) : ED F ρ M (.Call (.Attribute o "count" apos) [a] [] pos) (.dat (.int (ns.count k : Nat))) :=
  ew_bm1 PySem.F.slot_list_count PySem.F.type_list_count fCnt ho hl (ha.ew fun H 𝓗 u v Q' c qu qv kk => by
    have qv' : v = .int k := qv
    subst qv'
    obtain ⟨p, ws, rfl, e2, e3⟩ := hl.seq c qu
    rw [vInts (SlsOk.das.mp e3)] at e2
    exact ⟨p, ns, k, rfl, rfl, e2, here c kk (by show DA K H _ _; unfold DA; rfl)⟩) hb hf hline hs hpl
theorem fIdx (i : F.ι) : MtR (F.X i) "list.index" (rIndex K) := by have h := mt_index (X := F.X i); rw [F.eK i] at h; exact h
/-- xs.index(y), y there, flat data: the first place -/
theorem ed_index {ds : List Dt} {y : Dt} {j : Nat} (ho : ED F ρ M o s) (hl : LsOf M s (ds.map .dat)) (ha : ED F ρ M a (.dat y)) (hy : flatD y = true) (hfl : ∀ d ∈ ds, flatD d = true) {z : Dt} (hj : ds[j]? = some z) (hz : eqV (vD z) (vD y) = true)
    (hno : ∀ m z', m < j → ds[m]? = some z' → eqV (vD z') (vD y) = false)
    (hb : AB F o "index" := by intro _; rfl) (hf : FW F pos [a] := by intro _; rfl) (hline : (apos.endLine == pos.line) = true := by rfl) (hs : NS F a [] := by intro _; rfl) (hpl : NP F pos [] := by intro _; rfl) : ED F ρ M (.Call (.Attribute o "index" apos) [a] [] pos) (.dat (.int (j : Nat))) :=
  ew_bm1 PySem.F.slot_list_index PySem.F.type_list_index fIdx ho hl (ha.ew fun H 𝓗 u v Q' c qu qv kk => by
    obtain ⟨p, ws, rfl, e2, e3⟩ := hl.seq c qu
    obtain ⟨a1, a2⟩ := vD_ok qv hy
    obtain ⟨b1, b2⟩ := vDs_ok (SlsOk.das.mp e3) hfl
    subst a1 b1
    refine ⟨p, _, _, j, vD z, rfl, rfl, e2, a2, b2, by rw [List.getElem?_map, hj]; rfl, hz, fun m z' hm hz' => ?_, here c kk (by show DA K H _ _; unfold DA; rfl)⟩
    rw [List.getElem?_map] at hz'
    cases q : ds[m]? with
    | none => rw [q] at hz'; cases hz'
    | some d => rw [q] at hz'; cases hz'; exact hno m d hm q) hb hf hline hs hpl
/-- xs.clear() -/
theorem ew_clear (ho : ED F ρ M o (.raw (.ref p))) (hp : M p = some xs) (q : Q (.dat .non) (oset M p [])) (hb : AB F o "clear" := by intro _; rfl) (hline : (apos.endLine == pos.line) = true := by rfl) : EW F ρ M (.Call (.Attribute o "clear" apos) [] [] pos) Q :=
  ew_bm0 PySem.F.slot_list_clear PySem.F.type_list_clear (fun _ => mt_clear) ho (.raw hp) (fun H 𝓗 u Q' c qu k => by
    have qu' : u = .ref p := qu
    subst qu'
    obtain ⟨_, _, ws, w1, w2⟩ := c.o p xs hp
    exact ⟨p, ws, rfl, rfl, w1, k _ _ ⟨H, _, .dat .non, c.wr hp .nil, Same.refl H, (by show DA K H _ _; unfold DA; rfl), q⟩⟩) hb hline
/-- list(range(n)) -/
theorem rgV_nat (n : Nat) : rgV 0 (n : Int) = (List.range n).map fun k : Nat => V.int (k : Int) := by
  unfold rgV
  simp
theorem el_listRg {p1 p2 p3 : Pos} {i : Int} (n : Nat) (ml : mg "list" = none) (mr : mg "range" = none) (ha : ED F ρ M a (.dat (.int i))) (hi : i = (n : Int)) (hn : n ≤ 90000) (hg : GL F "list" := by intro _; rfl) (hg2 : GL F "range" := by intro _; rfl) (hs : NS F a [] := by intro _; rfl)
    (hs2 : NS F (.Call (.Name "range" p2) [a] [] p3) [] := by intro _; rfl) : EL F ρ M (.Call (.Name "list" p1) [.Call (.Name "range" p2) [a] [] p3] [] pos) ((List.range n).map fun k : Nat => .dat (.int (k : Int))) := .mk fun H 𝓗 σ c hE => by
  subst hi
  refine uE.by (t := tLstRg (tRg1 (uE F a))) (fun j => pe_listRg (F.hc j) (hg j) (hmg ml j) (prg_1 (hg2 j) (hmg mr j) (pe_u j) (hs j)) (hs2 j)) ((ha.run H 𝓗 σ c hE).mono fun v 𝓗1 ⟨H1, M1, r1, c1, s1, q1, e1, e2⟩ => ?_)
  subst e1 e2
  refine ⟨n, q1, RgOk.of_le (by omega) (by omega) (by omega) (by omega), fun q hq => ?_⟩
  rw [rgV_nat]
  refine ⟨H1, _, .raw (.ref q), c1.newL hq (xs := (List.range n).map fun k : Nat => .dat (.int (k : Int))) ?_, s1, rfl, q, (c1.none_of hq).2.2, rfl, rfl⟩
  generalize List.range n = l
  induction l with
  | nil => exact .nil
  | cons x l ih => exact .cons (by show DA K H1 _ _; unfold DA; rfl) ih
/-! ### for a, b in zip(xs, ys) -/
theorem s_forZip (i j : Nat) {l1 l2 : Expr} {body : List Stmt} {x y : Str} {px py pt p2 p3 : Pos} {kt} {d1 d2 : Dt} {xs ys : List Dt} (Pv : Nat → Rho → OH → Prop) (mz : mg "zip" = none) (h1 : ED F ρ M l1 (.dat d1)) (h2 : ED F ρ M l2 (.dat d2)) (hl1 : DLs d1 xs) (hl2 : DLs d2 ys) (hlen : xs.length = ys.length) (h0 : Pv 0 ρ M)
    (hs : ∀ k x y ρ' M', xs[k]? = some x → ys[k]? = some y → Pv k ρ' M' → SX F ((ρ'.set i (.dat x)).set j (.dat y)) M' body { D with nx := Pv (k + 1), ct := Pv (k + 1), bk := D.nx }) (hd : ∀ ρ' M', Pv xs.length ρ' M' → D.nx ρ' M')
    (hg : GL F "zip" := by intro _; rfl) (hN : N[i]? = some x := by decide +kernel) (hN2 : N[j]? = some y := by decide +kernel)
    (hx : ∀ j, Loc (F.X j).env.scope x := by intro _; first | exact Or.inl rfl | exact Or.inr rfl) (hf : ∀ j, (F.X j).fn x = true ∨ (F.X j).env.scope.names.lookup x = some .local := by intro _; first | exact .inl rfl | exact .inr rfl)
    (hx2 : ∀ j, Loc (F.X j).env.scope y := by intro _; first | exact Or.inl rfl | exact Or.inr rfl) (hf2 : ∀ j, (F.X j).fn y = true ∨ (F.X j).env.scope.names.lookup y = some .local := by intro _; first | exact .inl rfl | exact .inr rfl)
    (hns : NS F l1 [l2] := by intro _; rfl) (hns2 : NS F l2 [] := by intro _; rfl) (hpl : NP F p3 [l2] := by intro _; rfl)
    (t1 : ∀ z, (assignEach [.Name x px, .Name y py] (F.X z).env).map (·.2) = assign (.Name x px) (F.X z).env :: (assignEach [.Name y py] (F.X z).env).map (·.2) := by intro _; rfl) (t2 : ∀ z, (assignEach [.Name y py] (F.X z).env).map (·.2) = assign (.Name y py) (F.X z).env :: (assignEach [] (F.X z).env).map (·.2) := by intro _; rfl)
    (t3 : ∀ z, (assignEach [.Name x px, .Name y py] (F.X z).env).length = 2 := by intro _; rfl) (t4 : ∀ z, (assignEach [.Name x px, .Name y py] (F.X z).env).findIdx? (·.1) = none := by intro _; rfl)
    (hss : ∀ z v, foldedSetIterable (.Call (.Name "zip" p2) [l1, l2] [] p3) (F.X z).env v = pure v := by intro _ _; rfl) : S1 F ρ M (.For (.Tuple [.Name x px, .Name y py] kt pt) (.Call (.Name "zip" p2) [l1, l2] [] p3) body [] pos) D := .mk fun H 𝓗 σ c hE => by
  have tgt : ∀ z, PG (F.X z) (.Tuple [.Name x px, .Name y py] kt pt) (gTup K 2 (gCons (gName i) (gCons (gName j) gNil))) := fun z => by
    have q := pg_tup (X := F.X z) (k := kt) (pos := pt) (F.hc z) (pgs_cons (pg_name (i := i) (x := x) (pos := px) (by rw [F.eN z]; exact F.nd) (by rw [F.eN z]; exact hN) (hx z) (hf z)) (pgs_cons (pg_name (i := j) (x := y) (pos := py) (by rw [F.eN z]; exact F.nd) (by rw [F.eN z]; exact hN2) (hx2 z) (hf2 z)) pgs_nil (t2 z)) (t1 z)) (t3 z) (t4 z)
    rw [F.eK z] at q
    exact q
  have zp : ∀ z, PI (F.X z) (.Tuple [.Name x px, .Name y py] kt pt) (.Call (.Name "zip" p2) [l1, l2] [] p3) (iZip K (uA F [l1, l2])) := fun z => by
    have q := pi_zip (X := F.X z) (p := p2) (pos := p3) (tpos := pt) (elts := [.Name x px, .Name y py]) (kk := kt) (hg z) (hmg mz z) (pa_u (es := [l1, l2]) z) (hns z) (hpl z)
    rw [F.eK z] at q
    exact q
  refine uS.by (fun z => ps_for (F.po z) (F.hc z) (zp z) (tgt z) (pss_u z) (hss z)) (((ad_cons h1 (ad_cons h2 ad_nil hns2) hns).run H 𝓗 σ c hE).mono fun vs 𝓗1 ⟨H1, M1, r1, c1, s1, q1, e1, e2⟩ => ?_)
  subst e1 e2
  obtain ⟨v1, v2, rfl, qa, qb⟩ := sl2 q1
  obtain ⟨p1, ws1, rfl, a1, a2⟩ := hl1.seq qa
  obtain ⟨p2, ws2, rfl, b1, b2⟩ := hl2.seq qb
  have len1 : ws1.length = xs.length := by rw [a2.length, List.length_map]
  have len2 : ws2.length = ys.length := by rw [b2.length, List.length_map]
  refine ⟨p1, p2, ws1, ws2, rfl, c1.u.seq a1, c1.u.seq b1, RZ.for_zipL (K := K) (xs := ws1) (ys := ws2) (by omega) (fun k => QN F H1 (fun ρ' M' => Pv k ρ' M')) ⟨ρ, _, H1, c1, Same.refl _, hE.mono s1, h0⟩ ?_ ?_ ?_⟩
  · rintro k σ' 𝓗' ⟨ρ', M', H', c', s', hE', pv⟩
    exact ⟨c'.u.seq (s'.seq a1), c'.u.seq (s'.seq b1)⟩
  · rintro k u v T σ' 𝓗' hu hv ⟨ρ', M', H', c', s', hE', pv⟩ hT
    obtain ⟨r', e5, e6⟩ := paired_get' a2 hu
    obtain ⟨d', e7, rfl⟩ := dat_get e5
    obtain ⟨r2', f5, f6⟩ := paired_get' b2 hv
    obtain ⟨d2', f7, rfl⟩ := dat_get f5
    obtain ⟨c2, s2⟩ := c'.newF (o := .tup [u, v]) hT
    refine ⟨T, [u, v], rfl, SqT.of upd_same, rfl, u, [v], rfl, v, [], rfl, rfl, ?_⟩
    have e6' : SlOk K (upd H' T (.tup [u, v])) u (.dat d') := e6.mono (s'.trans s2)
    have f6' : SlOk K (upd H' T (.tup [u, v])) v (.dat d2') := f6.mono (s'.trans s2)
    exact ((hs k d' d2' ρ' M' e7 f7 pv).at c2 (((hE'.mono s2).set i e6').set j f6') (s'.trans s2)).mono ⟨fun _ _ q => q, fun _ _ q => q, QN.imp s1 fun _ _ q => q, fun _ _ q => q⟩
  · rintro σ' 𝓗' ⟨ρ', M', H', c', s', hE', pv⟩
    exact ⟨ρ', M', H', c', s1.trans s', hE', hd ρ' M' (by rw [← len1]; exact pv)⟩
/-! ### a, b = e -/
theorem s_unpack2 (i j : Nat) {x y : Str} {px py pt : Pos} {kt} {d1 d2 : Dt} (h : EW F ρ M e fun r M1 => r = .dat (.tup [d1, d2]) ∧ D.nx ((ρ.set i (.dat d1)).set j (.dat d2)) M1) (hN : N[i]? = some x := by decide +kernel) (hN2 : N[j]? = some y := by decide +kernel)
    (hx : ∀ j, Loc (F.X j).env.scope x := by intro _; first | exact Or.inl rfl | exact Or.inr rfl) (hf : ∀ j, (F.X j).fn x = true ∨ (F.X j).env.scope.names.lookup x = some .local := by intro _; first | exact .inl rfl | exact .inr rfl)
    (hx2 : ∀ j, Loc (F.X j).env.scope y := by intro _; first | exact Or.inl rfl | exact Or.inr rfl) (hf2 : ∀ j, (F.X j).fn y = true ∨ (F.X j).env.scope.names.lookup y = some .local := by intro _; first | exact .inl rfl | exact .inr rfl)
    (t1 : ∀ z, (assignEach [.Name x px, .Name y py] (F.X z).env).map (·.2) = assign (.Name x px) (F.X z).env :: (assignEach [.Name y py] (F.X z).env).map (·.2) := by intro _; rfl) (t2 : ∀ z, (assignEach [.Name y py] (F.X z).env).map (·.2) = assign (.Name y py) (F.X z).env :: (assignEach [] (F.X z).env).map (·.2) := by intro _; rfl)
    (t3 : ∀ z, (assignEach [.Name x px, .Name y py] (F.X z).env).length = 2 := by intro _; rfl) (t4 : ∀ z, (assignEach [.Name x px, .Name y py] (F.X z).env).findIdx? (·.1) = none := by intro _; rfl)
    (hs : ∀ z, swapsWithSole [.Tuple [.Name x px, .Name y py] kt pt] e pos.line (F.X z).env = pure false := by intro _; rfl) (hw : ∀ z, swappedStores [.Tuple [.Name x px, .Name y py] kt pt] e (F.X z).env = pure none := by intro _; rfl)
    (h1 : ∀ z, (assignEach [.Tuple [.Name x px, .Name y py] kt pt] (F.X z).env).map (·.2) = [assign (.Tuple [.Name x px, .Name y py] kt pt) (F.X z).env] := by intro _; rfl) : S1 F ρ M (.Assign [.Tuple [.Name x px, .Name y py] kt pt] e pos) D := .mk fun H 𝓗 σ c hE => by
  have tgt : ∀ z, PG (F.X z) (.Tuple [.Name x px, .Name y py] kt pt) (gTup K 2 (gCons (gName i) (gCons (gName j) gNil))) := fun z => by
    have q := pg_tup (X := F.X z) (k := kt) (pos := pt) (F.hc z) (pgs_cons (pg_name (i := i) (x := x) (pos := px) (by rw [F.eN z]; exact F.nd) (by rw [F.eN z]; exact hN) (hx z) (hf z)) (pgs_cons (pg_name (i := j) (x := y) (pos := py) (by rw [F.eN z]; exact F.nd) (by rw [F.eN z]; exact hN2) (hx2 z) (hf2 z)) pgs_nil (t2 z)) (t1 z)) (t3 z) (t4 z)
    rw [F.eK z] at q
    exact q
  refine uS.by (fun z => ps_asg (pe_u z) (tgt z) (hs z) (hw z) (h1 z)) ((h.run H 𝓗 σ c hE).mono fun v 𝓗1 ⟨H1, M1, r1, c1, s1, q1, e1, k⟩ => ?_)
  subst e1
  obtain ⟨p, ws, rfl, e2, e3⟩ := tup_seq c1 q1
  obtain ⟨v1, v2, rfl, qa, qb⟩ := sl2 e3
  exact ⟨p, _, rfl, e2, rfl, v1, _, rfl, v2, _, rfl, rfl, _, M1, H1, c1, s1, ((hE.mono s1).set i qa).set j qb, k⟩
/-! ### displays by wishes; return with fewer owned lists -/
theorem ew_lst {es : List Expr} (h : AW F ρ M es fun rs M1 => rs.length ≤ 100000 ∧ ∀ p, M1 p = none → Q (.raw (.ref p)) (oset M1 p rs)) : EW F ρ M (.List es pos) Q := .mk fun H 𝓗 σ c hE =>
  uE.by (fun j => pe_lst (pa_u j)) ((h.run H 𝓗 σ c hE).mono fun vs 𝓗' ⟨H', M', rs', c', s', q, hz, k⟩ => by
    refine ⟨sz5 (by rw [q.length]; exact hz), fun p hp => ?_⟩
    exact ⟨H', _, .raw (.ref p), c'.newL hp q, s', rfl, k p (c'.none_of hp).2.2⟩)
theorem ew_tup {es : List Expr} {k : Nat} (h : AW F ρ M es fun rs M1 => ∃ ds, rs = ds.map .dat ∧ ds.length ≤ 100000 ∧ Q (.dat (.tup ds)) M1) : EW F ρ M (.Tuple es k pos) Q := .mk fun H 𝓗 σ c hE =>
  uE.by (fun j => pe_tup (pa_u j)) ((h.run H 𝓗 σ c hE).mono fun vs 𝓗' ⟨H', M', rs', c', s', q, ds, e1, hz, kk⟩ => by
    subst e1
    have hd := SlsOk.das.mp q
    refine ⟨sz5 (by rw [hd.len]; exact hz), fun p hp => ?_⟩
    obtain ⟨c2, s2⟩ := c'.newF (o := .tup vs) hp
    refine ⟨_, _, .dat (.tup ds), c2, s'.trans s2, ?_, kk⟩
    show DA K _ (.tup ds) _
    unfold DA
    exact ⟨p, vs, rfl, SqT.of upd_same, hd.mono s2⟩)
theorem s_ret0 (h : EW F ρ M e fun r M' => ∃ M'' : OH, (∀ p xs, M'' p = some xs → M' p = some xs) ∧ D.rt r M'') : S1 F ρ M (.Return (some e) pos) D := .mk fun H 𝓗 σ c hE =>
  uS.by (fun j => ps_ret (pe_u j)) ((h.run H 𝓗 σ c hE).mono fun v 𝓗' ⟨H', M', r, c', s', q, M'', hl, n⟩ => ⟨r, M'', H', c'.less hl, q, n⟩)
/-- return of data: nothing stays owned -/
theorem s_retD (h : EW F ρ M e fun r _ => D.rt r OH0) : S1 F ρ M (.Return (some e) pos) D := s_ret0 (h.mono fun r M' q => ⟨OH0, fun _ _ z => (by cases z), q⟩)
/-- a list given back: it alone stays owned -/
theorem s_retL (h : EW F ρ M e fun r M' => ∃ p xs, r = .raw (.ref p) ∧ M' p = some xs ∧ D.rt (.raw (.ref p)) (oset OH0 p xs)) : S1 F ρ M (.Return (some e) pos) D := s_ret0 (h.mono fun r M' ⟨p, xs, e1, e2, q⟩ => by
  refine ⟨oset OH0 p xs, fun a ys z => ?_, by rw [e1]; exact q⟩
  unfold oset at z
  by_cases e : a = p
  · subst e; rw [if_pos rfl] at z; rw [e2]; exact z
  · rw [if_neg e] at z; cases z)
/-! ### a list of owned lists, frozen whole -/
theorem Cxt.frz2 {B0 H0 H 𝓗 : Hp} {qs : List Addr} {dss : List (List Dt)} (c : Cxt K B0 H0 M H 𝓗) (hp : M p = some (qs.map fun q => .raw (.ref q))) (hq : Paired (fun q (ds : List Dt) => M q = some (ds.map .dat)) qs dss) :
    ∃ H', Cxt K B0 H0 OH0 H' 𝓗 ∧ Same H H' ∧ DA K H' (.lst (dss.map .lst)) (.ref p) := by
  have own : ∀ a, (a = p ∨ a ∈ qs) → ∃ xs, M a = some xs := fun a h => by
    rcases h with h | h
    · exact ⟨_, by rw [h]; exact hp⟩
    · obtain ⟨i, hi, e⟩ := List.getElem_of_mem h
      obtain ⟨ds, e1, e2⟩ := paired_get' hq (List.getElem?_eq_getElem hi)
      exact ⟨_, by rw [← e]; exact e2⟩
  refine ⟨fun a => if a = p ∨ a ∈ qs then 𝓗 a else H a, ⟨fun a o e => ?_, fun a o e => ?_, c.b, fun a h => ?_, fun _ _ z => by cases z⟩, fun a o e => ?_, ?_⟩
  · show (if a = p ∨ a ∈ qs then 𝓗 a else H a) = some o
    split
    · exact c.u a o (c.f a o e)
    · exact c.f a o e
  · have e : (if a = p ∨ a ∈ qs then 𝓗 a else H a) = some o := e
    split at e
    · exact e
    · exact c.u a o e
  · have h : (if a = p ∨ a ∈ qs then 𝓗 a else H a) ≠ none := h
    split at h
    · rename_i ha
      obtain ⟨xs, q⟩ := own a ha
      exact .inr (c.o a xs q).2.1
    · exact c.n a h
  · show (if a = p ∨ a ∈ qs then 𝓗 a else H a) = some o
    split
    · exact c.u a o e
    · exact e
  · have s1 : Same H (fun a => if a = p ∨ a ∈ qs then 𝓗 a else H a) := fun a o e => by
      show (if a = p ∨ a ∈ qs then 𝓗 a else H a) = some o
      split
      · exact c.u a o e
      · exact e
    obtain ⟨_, _, vs, v1, v2⟩ := c.o p _ hp
    unfold DA
    refine ⟨p, vs, rfl, by rw [if_pos (.inl rfl)]; exact v1, ?_⟩
    have hmem : ∀ q ∈ qs, q = p ∨ q ∈ qs := fun q h => .inr h
    generalize hH : (fun a => if a = p ∨ a ∈ qs then 𝓗 a else H a) = H' at s1 ⊢
    have look : ∀ q ∈ qs, H' q = 𝓗 q := fun q h => by rw [← hH]; exact if_pos (.inr h)
    clear hH v1 hp own hmem
    induction hq generalizing vs with
    | nil =>
      cases v2
      unfold DAs
      rfl
    | @cons q ds qs' dss' h1 _ ih =>
      cases v2 with
      | @cons v _ vs' _ w1 w2 =>
        have w1' : v = .ref q := w1
        subst w1'
        show DAs K H' (.lst ds :: dss'.map .lst) _
        unfold DAs
        refine ⟨.ref q, vs', rfl, ?_, ih vs' w2 fun q' h => look q' (List.mem_cons_of_mem _ h)⟩
        obtain ⟨_, _, us, u1, u2⟩ := c.o q _ h1
        unfold DA
        exact ⟨q, us, rfl, by rw [look q List.mem_cons_self]; exact u1, (SlsOk.das.mp u2).mono s1⟩
theorem s_retLL (h : EW F ρ M e fun r M' => ∃ (p : Addr) (qs : List Addr) (dss : List (List Dt)), r = .raw (.ref p) ∧ M' p = some (qs.map fun q => .raw (.ref q)) ∧ Paired (fun q (ds : List Dt) => M' q = some (ds.map .dat)) qs dss ∧ D.rt (.dat (.lst (dss.map .lst))) OH0) : S1 F ρ M (.Return (some e) pos) D := .mk fun H 𝓗 σ c hE =>
  uS.by (fun j => ps_ret (pe_u j)) ((h.run H 𝓗 σ c hE).mono fun v 𝓗' ⟨H', M', r, c', s', q, p, qs, dss, e1, hp, hq, n⟩ => by
    subst e1
    have q' : v = .ref p := q
    subst q'
    obtain ⟨H2, c2, s2, d2⟩ := c'.frz2 hp hq
    exact ⟨.dat (.lst (dss.map .lst)), OH0, H2, c2, d2, n⟩)
end
end DL
namespace DL
open PySem PySem.Spec PyProof.Rows L2
/-! ### lists of numbers, and owned lists of owned lists of numbers -/
def il (ms : List Nat) : List Sl := ms.map fun m : Nat => .dat (.int (m : Int))
def ilD (ms : List Nat) : List Dt := ms.map fun m : Nat => .int (m : Int)
theorem il_D (ms : List Nat) : il ms = (ilD ms).map .dat := by unfold il ilD; rw [List.map_map]; rfl
theorem il_len (ms : List Nat) : (il ms).length = ms.length := by unfold il; rw [List.length_map]
theorem ilD_len (ms : List Nat) : (ilD ms).length = ms.length := by unfold ilD; rw [List.length_map]
theorem il_app (ms : List Nat) (m : Nat) : il (ms ++ [m]) = il ms ++ [.dat (.int (m : Int))] := by unfold il; rw [List.map_append]; rfl
/-! ### owned rows in an owned list -/
structure RR (M : OH) (p : Addr) (qs : List Addr) (R : List (List Nat)) : Prop where
  out : M p = some (qs.map fun q => .raw (.ref q))
  len : qs.length = R.length
  row : ∀ (k : Nat) (q : Addr) (r : List Nat), qs[k]? = some q → R[k]? = some r → M q = some (il r)
  nd : ∀ (i j : Nat) (q : Addr), qs[i]? = some q → qs[j]? = some q → i = j
  np : ∀ (i : Nat) (q : Addr), qs[i]? = some q → q ≠ p
theorem RR.has {M : OH} {p : Addr} {qs : List Addr} {R : List (List Nat)} (h : RR M p qs R) {k : Nat} (hk : k < R.length) : ∃ q r, qs[k]? = some q ∧ R[k]? = some r ∧ M q = some (il r) := by
  have h1 : k < qs.length := by rw [h.len]; exact hk
  exact ⟨qs[k], R[k], List.getElem?_eq_getElem h1, List.getElem?_eq_getElem hk, h.row k _ _ (List.getElem?_eq_getElem h1) (List.getElem?_eq_getElem hk)⟩
theorem RR.isS {M : OH} {p : Addr} {qs : List Addr} {R : List (List Nat)} (h : RR M p qs R) {k : Nat} {q : Addr} (hk : qs[k]? = some q) : (M q).isSome = true := by
  have h1 : k < qs.length := (List.getElem?_eq_some_iff.mp hk).1
  have h2 : k < R.length := by rw [← h.len]; exact h1
  rw [h.row k q _ hk (List.getElem?_eq_getElem h2)]
  rfl
theorem RR.push {M M' : OH} {p q : Addr} {qs : List Addr} {R : List (List Nat)} {r : List Nat} (h : RR M p qs R) (hq : M q = none) (h1 : M' p = some ((qs.map fun q => .raw (.ref q)) ++ [.raw (.ref q)])) (h2 : M' q = some (il r)) (h3 : ∀ a, a ≠ p → (M a).isSome = true → M' a = M a) : RR M' p (qs ++ [q]) (R ++ [r]) where
  out := by rw [h1, List.map_append]; rfl
  len := by rw [List.length_append, List.length_append, h.len]; rfl
  row := fun k a s e1 e2 => by
    by_cases hk : k < qs.length
    · rw [List.getElem?_append_left hk] at e1
      rw [List.getElem?_append_left (by rw [← h.len]; exact hk)] at e2
      rw [h3 a (h.np _ _ e1) (h.isS e1)]
      exact h.row _ _ _ e1 e2
    · rw [List.getElem?_append_right (by omega)] at e1
      rw [List.getElem?_append_right (by rw [← h.len]; omega), ← h.len] at e2
      generalize k - qs.length = m at e1 e2
      cases m with
      | zero => injection e1 with e1; injection e2 with e2; subst e1 e2; exact h2
      | succ m => cases e1
  nd := fun i j a e1 e2 => by
    by_cases hi : i < qs.length <;> by_cases hj : j < qs.length
    · rw [List.getElem?_append_left hi] at e1
      rw [List.getElem?_append_left hj] at e2
      exact h.nd _ _ _ e1 e2
    · rw [List.getElem?_append_left hi] at e1
      rw [List.getElem?_append_right (by omega)] at e2
      have := h.isS e1
      generalize j - qs.length = m at e2
      cases m with
      | zero => injection e2 with e2; subst e2; rw [hq] at this; cases this
      | succ m => cases e2
    · rw [List.getElem?_append_left hj] at e2
      rw [List.getElem?_append_right (by omega)] at e1
      have := h.isS e2
      generalize i - qs.length = m at e1
      cases m with
      | zero => injection e1 with e1; subst e1; rw [hq] at this; cases this
      | succ m => cases e1
    · rw [List.getElem?_append_right (by omega)] at e1 e2
      have a1 : i - qs.length = 0 := by
        generalize i - qs.length = m at e1
        cases m with
        | zero => rfl
        | succ m => cases e1
      have a2 : j - qs.length = 0 := by
        generalize j - qs.length = m at e2
        cases m with
        | zero => rfl
        | succ m => cases e2
      omega
  np := fun i a e1 => by
    by_cases hi : i < qs.length
    · rw [List.getElem?_append_left hi] at e1
      exact h.np _ _ e1
    · rw [List.getElem?_append_right (by omega)] at e1
      generalize i - qs.length = m at e1
      cases m with
      | zero => injection e1 with e1; subst e1; intro e; subst e; rw [h.out] at hq; cases hq
      | succ m => cases e1
theorem RR.same {M M' : OH} {p : Addr} {qs : List Addr} {R : List (List Nat)} (h : RR M p qs R) (h3 : ∀ a, (M a).isSome = true → M' a = M a) : RR M' p qs R where
  out := by rw [h3 p (by rw [h.out]; rfl)]; exact h.out
  len := h.len
  row := fun k q r e1 e2 => by rw [h3 q (h.isS e1)]; exact h.row k q r e1 e2
  nd := h.nd
  np := h.np
theorem RR.put {M M' : OH} {p q : Addr} {qs : List Addr} {R : List (List Nat)} {r : List Nat} {k : Nat} (h : RR M p qs R) (hk : qs[k]? = some q) (h2 : M' q = some (il r)) (h3 : ∀ a, a ≠ q → (M a).isSome = true → M' a = M a) : RR M' p qs (R.set k r) where
  out := by rw [h3 p (fun e => h.np _ _ hk e.symm) (by rw [h.out]; rfl)]; exact h.out
  len := by rw [List.length_set]; exact h.len
  row := fun j a s e1 e2 => by
    by_cases hj : k = j
    · subst hj
      have hl : k < R.length := by rw [← h.len]; exact (List.getElem?_eq_some_iff.mp hk).1
      rw [List.getElem?_set_self hl] at e2
      injection e2 with e2
      rw [hk] at e1
      injection e1 with e1
      subst e1 e2
      exact h2
    · rw [List.getElem?_set_ne hj] at e2
      rw [h3 a (fun e => by subst e; exact hj (h.nd _ _ _ hk e1)) (h.isS e1)]
      exact h.row _ _ _ e1 e2
  nd := h.nd
  np := h.np
theorem RR.swap {M M' : OH} {p q : Addr} {qs : List Addr} {R : List (List Nat)} {r : List Nat} {k : Nat} (h : RR M p qs R) (hk : k < qs.length) (hq : M q = none) (h1 : M' p = some ((qs.map fun q => .raw (.ref q)).set k (.raw (.ref q)))) (h2 : M' q = some (il r)) (h3 : ∀ a, a ≠ p → (M a).isSome = true → M' a = M a) : RR M' p (qs.set k q) (R.set k r) where
  out := by rw [h1, List.map_set]
  len := by rw [List.length_set, List.length_set]; exact h.len
  row := fun j a s e1 e2 => by
    by_cases hj : k = j
    · subst hj
      have hl : k < R.length := by rw [← h.len]; exact hk
      rw [List.getElem?_set_self hl] at e2
      rw [List.getElem?_set_self hk] at e1
      injection e2 with e2
      injection e1 with e1
      subst e1 e2
      exact h2
    · rw [List.getElem?_set_ne hj] at e1 e2
      rw [h3 a (h.np _ _ e1) (h.isS e1)]
      exact h.row _ _ _ e1 e2
  nd := fun i j a e1 e2 => by
    have fresh : ∀ m, qs[m]? = Option.some q → False := fun m e => by
      have := h.isS e
      rw [hq] at this
      cases this
    by_cases hi : k = i <;> by_cases hj : k = j
    · omega
    · subst hi
      rw [List.getElem?_set_self hk] at e1
      rw [List.getElem?_set_ne hj] at e2
      injection e1 with e1
      subst e1
      exact (fresh _ e2).elim
    · subst hj
      rw [List.getElem?_set_self hk] at e2
      rw [List.getElem?_set_ne hi] at e1
      injection e2 with e2
      subst e2
      exact (fresh _ e1).elim
    · rw [List.getElem?_set_ne hi] at e1
      rw [List.getElem?_set_ne hj] at e2
      exact h.nd _ _ _ e1 e2
  np := fun i a e1 => by
    by_cases hi : k = i
    · subst hi
      rw [List.getElem?_set_self hk] at e1
      injection e1 with e1
      subst e1
      intro e
      subst e
      rw [h.out] at hq
      cases hq
    · rw [List.getElem?_set_ne hi] at e1
      exact h.np _ _ e1
theorem paired_of {α β : Type} {F : α → β → Prop} : ∀ {l₁ : List α} {l₂ : List β}, l₁.length = l₂.length → (∀ (k : Nat) (a : α) (b : β), l₁[k]? = some a → l₂[k]? = some b → F a b) → Paired F l₁ l₂
  | [], [], _, _ => .nil
  | [], _ :: _, h, _ => by simp at h
  | _ :: _, [], h, _ => by simp at h
  | x :: xs, y :: ys, h, g => .cons (g 0 x y rfl rfl) (paired_of (by simp at h; exact h) fun k a b e1 e2 => g (k + 1) a b e1 e2)
theorem RR.pair {M : OH} {p : Addr} {qs : List Addr} {R : List (List Nat)} (h : RR M p qs R) : Paired (fun q (ds : List Dt) => M q = some (ds.map .dat)) qs (R.map ilD) :=
  paired_map.mpr (paired_of h.len fun k a b e1 e2 => by rw [h.row k a b e1 e2, il_D])
/-- a comprehension without a test -/
theorem cw_if {P : Program} {w : World} {K : PySem.W.Frag} {mg : Str → Option Value} {base : Heap} {N : List Str} {sc : Scope} {F : Fm P w K mg base N sc} {ρ : Rho} {M : OH} {A B : OH → Prop} (h : A M) : CW F ρ M [] (fun b M1 => if b = true then A M1 else B M1) :=
  (if_pos rfl : (if true = true then A M else B M) = A M).mpr h
theorem ew_callDW {P : Program} {w : World} {K : PySem.W.Frag} {mg : Str → Option Value} {base : Heap} {N : List Str} {sc : Scope} {F : Fm P w K mg base N sc} {ρ : Rho} {M : OH} {pos : Pos} {Q : Sl → OH → Prop} {k : Nat} {x : Str} {ps : List Str} {pre : List Dt → Prop} {post : List Dt → Dt → Prop} {a : Expr} {es : List Expr} {p2 : Pos} (G : Def P w K mg base CX0 k x ps (prD pre post))
    (ha : AW F ρ M (a :: es) fun rs M1 => ∃ ds, rs = ds.map .dat ∧ pre ds ∧ ∀ d, post ds d → Q (.dat d) M1) (hg : GL F x := by intro _; rfl) (hs : NS F a es := by intro _; rfl) (hpl : NP F pos es := by intro _; rfl) (hdb : (x == ("__debug__" : Str)) = false := by decide) (hk : k ≤ F.lv := by exact Nat.le_of_ble_eq_true rfl) :
    EW F ρ M (.Call (.Name x p2) (a :: es) [] pos) Q :=
  ew_call0 G (fun _ _ _ _ z => z) (ha.mono fun rs M1 ⟨ds, e, hp, q⟩ => by subst e; exact ⟨OH0, fun _ _ z => (by cases z), ⟨rfl, ds, rfl, hp⟩, fun r M' hh _ => prD_out hh q⟩) hg hs hpl hdb hk
/-- a name's own list is frozen where it is -/
theorem sx_frz {P : Program} {w : World} {K : PySem.W.Frag} {mg : Str → Option Value} {base : Heap} {N : List Str} {sc : Scope} {F : Fm P w K mg base N sc} {ρ : Rho} {M : OH} {D : DE} (i : Nat) {sts : List Stmt} {p : Addr} {ds : List Dt} (hr : ρ[i]? = some (.raw (.ref p))) (hp : M p = some (ds.map .dat)) (h : SX F (ρ.set i (.dat (.lst ds))) (odel M p) sts D) : SX F ρ M sts D := .mk fun H 𝓗 σ c hE => by
  obtain ⟨H2, c2, s2, d2⟩ := c.frz hp
  obtain ⟨o, o1, o2⟩ := paired_get hE hr
  have o3 : o = some (.ref p) := o2
  subst o3
  have hE2 := EnvOk.set (s := .dat (.lst ds)) i (hE.mono s2) d2
  have e : σ.set i (some (V.ref p)) = σ := by
    apply List.ext_getElem?
    intro j
    by_cases hj : i = j
    · subst hj
      rw [List.getElem?_set_self (List.getElem?_eq_some_iff.mp o1).1, o1]
    · rw [List.getElem?_set_ne hj]
  rw [e] at hE2
  exact SX.at h c2 hE2 s2
end DL
namespace DL
open PySem PySem.Spec PyProof.Rows L2
section
variable {P : Program} {w : World} {K : PySem.W.Frag} {mg : Str → Option Value} {base : Heap} {N : List Str} {sc : Scope} {F : Fm P w K mg base N sc}
variable {ρ : Rho} {M : OH} {e a b c : Expr} {pos : Pos} {r r1 r2 : Sl} {Q : Sl → OH → Prop} {D : DE}
/-- an own error's class -/
structure OwnE (K : PySem.W.Frag) (mg : Str → Option Value) (x : Str) (C : Addr) : Prop where
  facts : ∃ B newId initId bmB, ExcBaseFacts B newId initId bmB ∧ PySem.W.excIn K C bmB newId = true
  here : mg x = some (.ref C)
  kp : PySem.W.keepIn K (.ref C) = true
  sub : PySem.W.subIn K (.ref C) (.type "BaseException") = some true
  ty : PySem.W.typeIn K (.ref C) = some (.type "type")
/-- raise X(e) -/
theorem s_raise {x : Str} {C : Addr} {p p2 : Pos} (o : OwnE K mg x C) (h : EW F ρ M e fun _ M' => F.ex C ρ M') (hg : GL F x := by intro _; rfl) (hs : NS F e [] := by intro _; rfl) (hdb : (x == ("__debug__" : Str)) = false := by decide) : S1 F ρ M (.Raise (some (.Call (.Name x p) [e] [] p2)) none pos) D := .mk fun H 𝓗 σ c hE => by
  obtain ⟨B, nw, ini, bmB, f1, f2⟩ := o.facts
  refine uS.by (t := fun _ σ H => uE F e σ H fun _ H1 => mkW K F.B0 F.H0 F.ex (.ref C) none σ H1) (fun j => ?_) ((h.run H 𝓗 σ c hE).mono fun v 𝓗' ⟨H', M', r, c', s', q, n⟩ => ?_)
  · exact ps_raise (F.hc j) (F.tk j) (SkE.pmk_own1 f1 (by rw [F.eK j]; exact f2) (by rw [F.eg j]; exact o.here) (by rw [F.eK j]; exact o.kp) (raises_own (by rw [F.eK j]; exact o.sub) (by rw [F.eK j]; exact o.ty)) (hg j) (pe_u j) (hs j) hdb)
  · exact ⟨C, ρ, M', H', rfl, rfl, c', hE.mono s', n⟩
/-- a part of an f-string -/
def FP (F : Fm P w K mg base N sc) (ρ : Rho) (M : OH) (e : Expr) : Prop := EW F ρ M e fun r M' => M' = M ∧ ∃ y : Str, r = .dat (.str y) ∧ y.length ≤ 2000
theorem fp_str {x : Str} {j} (h : x.length ≤ 2000 := by decide +kernel) : FP F ρ M (.Constant (.str x) j pos) := ed_str.ew ⟨rfl, x, rfl, h⟩
theorem fp_int {i : Int} (h : ED F ρ M e (.dat (.int i))) (hz : i.natAbs.log2 < 1920) : FP F ρ M (.FormattedValue e (-1) none pos) := .mk fun H 𝓗 σ c hE => by
  refine uE.by (fun j => pe_fmt (pe_u j)) ((h.run H 𝓗 σ c hE).mono fun v 𝓗' ⟨H', M', r, c', s', q, e1, e2⟩ => ?_)
  subst e1 e2
  have q' : v = .int i := q
  exact .inr ⟨i, q', hz, H', M', _, c', s', (by show DA K H' (.str (toString i)) _; unfold DA; rfl), rfl, _, rfl, by have := int_text_len_1921 hz; omega⟩
inductive FJ (F : Fm P w K mg base N sc) (ρ : Rho) (M : OH) : List Expr → Prop
  | nil : FJ F ρ M []
  | cons {e : Expr} {es : List Expr} : FP F ρ M e → FJ F ρ M es → FJ F ρ M (e :: es)
theorem pj_u (j : F.ι) : ∀ es : List Expr, PJ (F.X j) es (es.map (uE F))
  | [] => .nil
  | _ :: es => .cons (pe_u j) (pj_u j es)
theorem fj_run {σ : L2.St} {R : Str → Hp → Prop} : ∀ {es : List Expr} {acc : Str} {H 𝓗 : Hp}, FJ F ρ M es → St3 F M H 𝓗 → EnvOk K H σ ρ → acc.length + 2000 * es.length ≤ sizeLine → (∀ y H' 𝓗', St3 F M H' 𝓗' → Same H H' → R y 𝓗') → tJs (es.map (uE F)) acc σ 𝓗 R
  | [], acc, H, 𝓗, _, c, _, _, k => k acc H 𝓗 c (Same.refl H)
  | e :: es, acc, H, 𝓗, .cons h hs, c, hE, hz, k => by
    refine (EW.run h H 𝓗 σ c hE).mono fun v 𝓗1 ⟨H1, M1, r, c1, s1, q1, e1, y, e2, e3⟩ => ?_
    have e1' := e1.symm
    subst e1' e2
    have q' : v = .str y := q1
    rw [List.length_cons] at hz
    have hl : (acc ++ y).length = acc.length + y.length := PySem.Str.length_append _ _
    exact ⟨y, q', by omega, fj_run hs c1 (hE.mono s1) (by omega) fun y' H' 𝓗' c' s' => k y' H' 𝓗' c' (s1.trans s')⟩
theorem ew_fstr {v1 v2 : Expr} {rest : List Expr} (h : FJ F ρ M (v1 :: v2 :: rest)) (hz : rest.length ≤ 50 := by decide) (q : ∀ y : Str, Q (.dat (.str y)) M) : EW F ρ M (.JoinedStr (v1 :: v2 :: rest) pos) Q := .mk fun H 𝓗 σ c hE =>
  uE.by (fun j => pe_joined (pj_u j _)) (fj_run h c hE (by rw [sizeLine_eq]; show 0 + 2000 * (rest.length + 1 + 1) ≤ _; omega) fun y H' 𝓗' c' s' => ⟨H', M, .dat (.str y), c', s', (by show DA K H' (.str y) _; unfold DA; rfl), q y⟩)
end
section
variable {P : Program} {w : World} {K : PySem.W.Frag} {mg : Str → Option Value} {base : Heap}
/-- the context of a body that may raise own errors -/
def fmX (P : Program) (w : World) (K : PySem.W.Frag) (mg : Str → Option Value) (base : Heap) {N ps : List Str} {sc : Scope} (S : FnScope N ps sc) (qual : Str) (f : Addr) (cd : Value) (A : Around) (outer : List Env) (s : Shared) (H : Hp) (E : XK) (k : Nat)
    (hr : Room k (A.deeper (envOfC qual sc s.heap.objs.size f cd))) (B0 H0 : Hp) (err : Addr → OH → Prop) (he : ∀ C H' 𝓗' M', Cxt K B0 H0 M' H' 𝓗' → err C M' → E (.ref C) none 𝓗') : Fm P w K mg base N sc where
  ι := Unit
  X := fun _ => cxOf (L2.CX P w) P w K mg base N qual sc f cd A outer s H E
  eP := fun _ => rfl
  ew := fun _ => rfl
  eK := fun _ => rfl
  eg := fun _ => rfl
  eb := fun _ => rfl
  eN := fun _ => rfl
  es := fun _ => rfl
  nd := S.nd
  lv := k
  hr := fun _ => hr
  hc := fun _ => rfl
  po := fun _ => passes_of rfl
  B0 := B0
  H0 := H0
  ex := fun C _ M => err C M
  tk := fun _ => (takes_of (X := cxOf (L2.CX P w) P w K mg base N qual sc f cd A outer s H E) rfl rfl rfl rfl).imp fun c d σ H1 ⟨C, ρ, M, H', e1, e2, c1, _, x⟩ => by subst e1 e2; exact he C H' H1 M c1 x
theorem fnX {x qual : Str} {st : Stmt} {f : Addr} {fd : FuncData} {N ps : List Str} {k : Nat} {p : Pr} (Fd : Fun K x qual st f fd) (S : FnScope N ps (defScope st)) (len : ∀ rs M, p.pre rs M → rs.length = ps.length)
    (body : ∀ cd A outer s H E hr B0 H0 rs M he, p.pre rs M → SX (fmX P w K mg base S qual f cd A outer s H E k hr B0 H0 (p.err rs M) he) (startR N rs) M (defBody st) { nx := fun _ M' => p.post rs M (.dat .non) M', rt := fun r M' => p.post rs M r M' }) :
    FnOk P w K mg base (L2.CX P w) (k + 1) f fd ps (spM K p) := by
  refine Fd.okX S (fun vs H Q E h => ?_) (fun cdv A outer s 𝓗 vs Q E hr h => ?_)
  · obtain ⟨H, B, M, rs, _, q, pre, _⟩ := h
    rw [q.length]; exact len rs M pre
  · obtain ⟨H, B, M, rs, c, q, pre, ret, he⟩ := h
    refine ⟨_, pss_u (F := fmX P w K mg base S qual f cdv A outer s 𝓗 E k hr B H (p.err rs M) he) (), ?_⟩
    refine ((body cdv A outer s 𝓗 E hr B H rs M he pre).run H 𝓗 (L2.start N vs) c (startR_ok q)).mono ⟨fun σ 𝓗' ⟨ρ', M', H', c', s', hE', po⟩ => ?_, fun v 𝓗' ⟨r, M', H', c', ok, po⟩ => ?_, fun σ 𝓗' ⟨ρ', M', H', c', s', hE', po⟩ => ?_, fun σ 𝓗' ⟨ρ', M', H', c', s', hE', po⟩ => ?_⟩
    · exact ret .non (.dat .non) H' 𝓗' M' c' (by show DA K H' _ _; unfold DA; rfl) po
    · exact ret v r H' 𝓗' M' c' ok po
    · exact po.elim
    · exact po.elim
end
end DL
namespace DL
open PySem PySem.Spec PyProof.Rows L2
section
variable {X : Cx}
theorem cr_range1 : CallR X (.type "range") (fun vs H Q => ∃ n, vs = [V.int n] ∧ ∀ p, H p = none → Q (.ref p) (upd H p (.rng 0 n))) := by
  intro pins s σ H vs us Q I r h
  obtain ⟨n, rfl, q⟩ := h
  obtain ⟨u1, rfl, t, rfl⟩ := vals1 r
  refine call_range_1 ⟨.ref s.heap.objs.size, upd H s.heap.objs.size (.rng 0 n), I.laid (t' := s.toks + 2) (fun b o e => Heap.get?_push_of_some _ e) (Nat.le_refl _) ?_, rfl, q _ (I.hok.fresh (Nat.le_refl _))⟩
  exact ⟨_, _, _, Heap.get?_push_size _ rfl⟩
def rRng (neg : Bool) : R2 := fun x y H Q => ∃ i a lo hi, x = V.int i ∧ y = V.ref a ∧ H a = some (.rng lo hi) ∧ Q (.bl (if neg then !decide (lo ≤ i ∧ i < hi) else decide (lo ≤ i ∧ i < hi))) H
theorem op_inRng : OpR X (compareOp .In) (rRng false) := fun pins s σ H x y v u Q I rx ry ⟨i, a, lo, hi, e1, e2, ha, q⟩ => op_in_rng pins s σ H x y v u Q I rx ry ⟨i, a, lo, hi, e1, e2, ha, q⟩
theorem op_ninRng : OpR X (compareOp .NotIn) (rRng true) := by
  intro pins s σ H x y v u Q I rx ry h
  obtain ⟨i, a, lo, hi, rfl, rfl, ha, q⟩ := h
  obtain ⟨k, rfl⟩ := rx
  obtain rfl : u = Value.ref a := ry
  obtain ⟨t1, t2, t3, ho⟩ := I.hok a _ ha
  show wpAny _ _ (do return Value.bool (!(← contains (Value.ref a) (Value.int i k)))) _ _ s
  refine wpAny_bind (wpAny_contains_slot (T := "range") ⟨_, ho, rfl⟩ F.slot_range_contains (call_meets F.slot_range_contains ⟨_, ho, rfl⟩ F.entry_range_contains (F.args_range_contains_2 _ _) (q_contains a lo hi i t1 t2 t3 k)
    ⟨ho, wpAny_truthy_bool (wpAny_pure ⟨.bl _, H, I, rfl, ?_⟩)⟩))
  rw [place1]
  exact q
/-- len(set(a)) of ints -/
def tLenSetG (K : PySem.W.Frag) (ta : TE) : TE := fun σ H Q => ta σ H fun x H1 => ∃ (l : Addr) (ns : List Int), x = .ref l ∧ SqL K H1 l (ns.map V.int) ∧ ns.length ≤ 4000 ∧ Q (.int ((PyProof.Rows.firstMet (fun i => ns.getD i 0) ns.length).length : Nat)) H1
theorem firstMet_new (f : Nat → Int) : ∀ n, (PyProof.Rows.firstMet f n).length = n → ∀ i j, i < j → j < n → f i ≠ f j := by
  intro n
  induction n with
  | zero => intro _ i j _ h; exact absurd h (Nat.not_lt_zero j)
  | succ n ih =>
    intro h i j hij hj
    have l := PyProof.Rows.firstMet_length_le f n
    rw [PyProof.Rows.firstMet_succ] at h
    unfold PyProof.Rows.step_dedup at h
    have a := PyProof.Rows.firstMet_any f n (f n)
    by_cases hc : (PyProof.Rows.firstMet f n).any (· == f n) = true
    · rw [if_pos hc] at h
      omega
    · rw [if_neg hc, List.length_append] at h
      by_cases e : j = n
      · subst e
        intro z
        refine hc ?_
        rw [a, List.any_map, List.any_eq_true]
        exact ⟨i, List.mem_range.mpr hij, by simp [z]⟩
      · exact ih (by simpa using h) i j hij (by omega)
def distinct (ns : List Int) : Nat := (PyProof.Rows.firstMet (fun i => ns.getD i 0) ns.length).length
theorem distinct_le (ns : List Int) : distinct ns ≤ ns.length := PyProof.Rows.firstMet_length_le _ _
theorem distinct_new {ns : List Int} (h : distinct ns = ns.length) : ∀ (k : Nat) (y : Int), ns[k]? = some y → ∀ i, i < k → ns[i]? ≠ some y := fun k y hk i hi e => by
  have hk1 := (List.getElem?_eq_some_iff.mp hk).1
  refine firstMet_new _ ns.length h i k hi hk1 ?_
  show ns.getD i 0 = ns.getD k 0
  rw [List.getD_eq_getElem?_getD, List.getD_eq_getElem?_getD, e, hk]
theorem distinct_nodup {ns : List Int} (h : ns.Nodup) : distinct ns = ns.length := by
  unfold distinct
  rw [RZ.firstMet_nodup h ns.length (Nat.le_refl _), List.take_length]
theorem nodup_of_new : ∀ {ns : List Int}, (∀ (k : Nat) (y : Int), ns[k]? = some y → ∀ i, i < k → ns[i]? ≠ some y) → ns.Nodup
  | [], _ => List.nodup_nil
  | x :: xs, h => List.nodup_cons.mpr ⟨fun hm => by
      obtain ⟨j, hj⟩ := List.mem_iff_getElem?.mp hm
      exact h (j + 1) x hj 0 (Nat.succ_pos j) rfl, nodup_of_new fun k y hk i hi => h (k + 1) y hk (i + 1) (Nat.succ_lt_succ hi)⟩
theorem pe_lenSetG {a : Expr} {ta : TE} {p p2 q pos : Pos} (hg : Gl X "len") (hm : X.mg "len" = none) (hg2 : Gl X "set") (hm2 : X.mg "set" = none) (ha : PE X a ta) (hc : X.calm = true)
    (na : starEach [a] X.env = (false, eval a X.env) :: starEach [] X.env := by rfl) : PE X (.Call (.Name "len" p) [.Call (.Name "set" p2) [a] [] q] [] pos) (tLenSetG X.K ta) := by
  refine ⟨fun pins s σ H Q I h => ?_⟩
  refine Call_ (ld_blt I hg hm boot_len ?_)
  refine PyProof.Rows.callWith_builtin1 (PyProof.Rows.args_cons ?_ rfl) rfl rfl
  refine Call_ (ld_blt I hg2 hm2 boot_set ?_)
  refine PyProof.Rows.callWith_type1 (PyProof.Rows.args_cons (thn (ha.run pins s σ H _ I h) fun v s1 ⟨x, H1, I1, r1, q1⟩ => PyProof.Rows.args_nil ?_) na) na rfl
  obtain ⟨l, ns, rfl, hq, hl, q1⟩ := q1
  cases r1
  obtain ⟨its, r, pl, hz⟩ := I1.list hq
  have hlen : its.toArray.size = ns.length := by rw [List.size_toArray, ← r.length, List.length_map]
  refine call_set_list (I1.ok.hd hc) pl.isList (by simpa using RZ.intsAre_vals r) (by rw [hlen]; unfold scanBound; omega) fun h' tk hS hk => ?_
  refine PyProof.Rows.args_nil ?_
  rw [hlen] at hS
  have hle := PyProof.Rows.firstMet_length_le (fun i => ns.getD i 0) ns.length
  generalize (PyProof.Rows.firstMet (fun i => ns.getD i 0) ns.length) = fm at hS q1 hle
  obtain ⟨o, es, ep, t, ho, hex, hd, _, _, _, hf, hn⟩ := hS
  have I2 : Inv X pins σ H1 { s1 with heap := h', toks := tk } := I1.kept fun b o e => hk b o (Heap.lt_size e) e
  exact call_len_set ho hex hd hf (by rw [hn] <;> omega) ⟨.int fm.length, H1, I2.tok _, ⟨_, by rw [hn]⟩, q1⟩
end
section
variable {P : Program} {w : World} {K : PySem.W.Frag} {mg : Str → Option Value} {base : Heap} {N : List Str} {sc : Scope} {F : Fm P w K mg base N sc}
variable {ρ : Rho} {M : OH} {e a b c : Expr} {pos : Pos} {r r1 r2 : Sl} {Q : Sl → OH → Prop} {D : DE}
/-- a constant of the module -/
theorem ed_globI {x : Str} {i : Int} {t : Tok} (hm : mg x = some (.int i t)) (hg : GL F x := by intro _; rfl) (hd : (x == ("__debug__" : Str)) = false := by decide) : ED F ρ M (.Name x pos) (.dat (.int i)) := .mk fun H 𝓗 σ c hE =>
  uE.by (fun j => pe_glob (v := .int i) (hg j) (hmg hm j) ⟨t, rfl⟩ hd) (here c (fun _ _ z => z) (show DA K H (.int i) (.int i) by unfold DA; rfl))
theorem fRng (j : F.ι) : CallR (F.X j) (.type "range") (fun vs H Q => ∃ n, vs = [V.int n] ∧ ∀ p, H p = none → Q (.ref p) (upd H p (.rng 0 n))) := cr_range1
/-- i in range(n) -/
theorem inR_go {i n : Int} {neg : Bool} {σ : L2.St} {H 𝓗 : Hp} {R : VK} (ha : ED F ρ M a (.dat (.int i))) (hb : ED F ρ M b (.dat (.int n))) (hs : NS F b []) (c : St3 F M H 𝓗) (hE : EnvOk K H σ ρ) (k : ∀ 𝓗' H', St3 F M H' 𝓗' → Same H H' → R (.bl (if neg then !decide (0 ≤ i ∧ i < n) else decide (0 ≤ i ∧ i < n))) 𝓗') :
    tOp (rRng neg) (uE F a) (tCB (fun vs H Q => ∃ n, vs = [V.int n] ∧ ∀ p, H p = none → Q (.ref p) (upd H p (.rng 0 n))) (uA F [b])) σ 𝓗 R := by
  refine (ha.run H 𝓗 σ c hE).mono fun v 𝓗1 ⟨H1, M1, r1, c1, s1, q1, e1, e2⟩ => ?_
  have e2' := e2.symm
  subst e1 e2'
  refine ((ad_cons hb ad_nil hs).run H1 𝓗1 σ c1 (hE.mono s1)).mono fun vs 𝓗2 ⟨H2, M2, r2, c2, s2, q2, e3, e4⟩ => ?_
  have e4' := e4.symm
  subst e3 e4'
  obtain ⟨u, rfl, qu⟩ := sl1 q2
  have qv' : v = .int i := q1
  have qu' : u = .int n := qu
  subst qv' qu'
  refine ⟨n, rfl, fun p hp => ?_⟩
  obtain ⟨c3, s3⟩ := c2.newF (o := .rng 0 n) hp
  exact ⟨i, p, 0, n, rfl, rfl, upd_same, k _ _ c3 ((s1.trans s2).trans s3)⟩
variable {i n : Int} {p2 p3 : Pos}
theorem td_inR (mr : mg "range" = none) (ha : ED F ρ M a (.dat (.int i))) (hb : ED F ρ M b (.dat (.int n))) (hg : GL F "range" := by intro _; rfl) (hs : NS F b [] := by intro _; rfl) (hpl : NP F p3 [] := by intro _; rfl) (hm : behindInMarks .In (.Call (.Name "range" p2) [b] [] p3) = false := by rfl) : TD F ρ M (.Compare a [.In] [.Call (.Name "range" p2) [b] [] p3] pos) (decide (0 ≤ i ∧ i < n)) := .mk fun H 𝓗 σ c hE =>
  uT.by (fun j => pt_cmpR op_inRng (pe_u j) (pe_callTy (fRng j) (hg j) (hmg mr j) (by decide +kernel) (pa_u j) (he := hs j) (hpl := hpl j)) hm) (inR_go ha hb hs c hE fun 𝓗' H' c' s' => ⟨_, rfl, H', M, c', s', rfl, rfl⟩)
theorem td_ninR (mr : mg "range" = none) (ha : ED F ρ M a (.dat (.int i))) (hb : ED F ρ M b (.dat (.int n))) (hg : GL F "range" := by intro _; rfl) (hs : NS F b [] := by intro _; rfl) (hpl : NP F p3 [] := by intro _; rfl) (hm : behindInMarks .NotIn (.Call (.Name "range" p2) [b] [] p3) = false := by rfl) : TD F ρ M (.Compare a [.NotIn] [.Call (.Name "range" p2) [b] [] p3] pos) (!decide (0 ≤ i ∧ i < n)) := .mk fun H 𝓗 σ c hE =>
  uT.by (fun j => pt_cmpR op_ninRng (pe_u j) (pe_callTy (fRng j) (hg j) (hmg mr j) (by decide +kernel) (pa_u j) (he := hs j) (hpl := hpl j)) hm) (inR_go ha hb hs c hE fun 𝓗' H' c' s' => ⟨_, rfl, H', M, c', s', rfl, rfl⟩)
theorem ed_ninR (mr : mg "range" = none) (ha : ED F ρ M a (.dat (.int i))) (hb : ED F ρ M b (.dat (.int n))) (hg : GL F "range" := by intro _; rfl) (hs : NS F b [] := by intro _; rfl) (hpl : NP F p3 [] := by intro _; rfl) (hm : behindInMarks .NotIn (.Call (.Name "range" p2) [b] [] p3) = false := by rfl) : ED F ρ M (.Compare a [.NotIn] [.Call (.Name "range" p2) [b] [] p3] pos) (.dat (.bl (!decide (0 ≤ i ∧ i < n)))) := .mk fun H 𝓗 σ c hE =>
  uE.by (fun j => pe_cmpR op_ninRng (pe_u j) (pe_callTy (fRng j) (hg j) (hmg mr j) (by decide +kernel) (pa_u j) (he := hs j) (hpl := hpl j)) hm) (inR_go ha hb hs c hE fun 𝓗' H' c' s' => ⟨H', M, _, c', s', (by show DA K H' (.bl _) _; unfold DA; rfl), rfl, rfl⟩)
/-- a <= b <= c -/
theorem td_le3 {k : Int} (ha : ED F ρ M a (.dat (.int i))) (hb : ED F ρ M b (.dat (.int n))) (hc : ED F ρ M c (.dat (.int k))) (hm : lastMarks [.LtE, .LtE] [b, c] = false := by with_unfolding_all rfl) : TD F ρ M (.Compare a [.LtE, .LtE] [b, c] pos) (decide (i ≤ n) && decide (n ≤ k)) := .mk fun H 𝓗 σ cc hE => by
  refine uT.by (fun j => pt_chain op_le op_le (pe_u j) (pe_u j) (pe_u j) hm) ((ha.run H 𝓗 σ cc hE).mono fun v 𝓗1 ⟨H1, M1, r1, c1, s1, q1, e1, e2⟩ => ?_)
  have e2' := e2.symm
  subst e1 e2'
  refine (hb.run H1 𝓗1 σ c1 (hE.mono s1)).mono fun u 𝓗2 ⟨H2, M2, r2, c2, s2, q2, e3, e4⟩ => ?_
  have e4' := e4.symm
  subst e3 e4'
  have qv' : v = .int i := q1
  have qu' : u = .int n := q2
  subst qv' qu'
  refine ⟨i, n, rfl, rfl, decide (i ≤ n), rfl, ?_⟩
  by_cases h : i ≤ n
  · rw [decide_eq_true h, if_pos rfl]
    refine (hc.run H2 𝓗2 σ c2 (hE.mono (s1.trans s2))).mono fun x 𝓗3 ⟨H3, M3, r3, c3, s3, q3, e5, e6⟩ => ?_
    have e6' := e6.symm
    subst e5 e6'
    have qx' : x = .int k := q3
    subst qx'
    exact ⟨n, k, rfl, rfl, _, rfl, H3, M, c3, (s1.trans s2).trans s3, rfl, rfl⟩
  · rw [decide_eq_false h, if_neg (by decide)]
    exact ⟨_, rfl, H2, M, c2, s1.trans s2, rfl, rfl⟩
/-- len(set(a)), ints -/
theorem ed_lenSet {ns : List Int} {s : Sl} {q : Pos} (ml : mg "len" = none) (ms : mg "set" = none) (ha : ED F ρ M a s) (hl : LsOf M s ((ns.map Dt.int).map .dat)) (hz : ns.length ≤ 4000) (hg : GL F "len" := by intro _; rfl) (hg2 : GL F "set" := by intro _; rfl) (hs : NS F a [] := by intro _; rfl) : ED F ρ M (.Call (.Name "len" p2) [.Call (.Name "set" p3) [a] [] q] [] pos) (.dat (.int (distinct ns : Nat))) := .mk fun H 𝓗 σ c hE => by
  refine uE.by (t := tLenSetG K (uE F a)) (fun j => by have z := pe_lenSetG (p := p2) (p2 := p3) (q := q) (pos := pos) (hg j) (hmg ml j) (hg2 j) (hmg ms j) (pe_u (e := a) j) (F.hc j) (hs j); rw [F.eK j] at z; exact z) ((ha.run H 𝓗 σ c hE).mono fun v 𝓗1 ⟨H1, M1, r1, c1, s1, q1, e1, e2⟩ => ?_)
  have e2' := e2.symm
  subst e1 e2'
  obtain ⟨p, ws, rfl, h2, h3⟩ := hl.seq c1 q1
  rw [vInts (SlsOk.das.mp h3)] at h2
  exact ⟨p, ns, rfl, h2, hz, H1, M, _, c1, s1, (by show DA K H1 (.int _) _; unfold DA; rfl), rfl, rfl⟩
/-- x not in WORDS: a tuple of the module -/
structure TupW (K : PySem.W.Frag) (mg : Str → Option Value) (x : Str) (vs : List V) : Prop where
  ex : ∃ (t : Addr) (o : Obj) (its : Array Value) (n : Nat), mg x = some (.ref t) ∧ K.lookup t = some o ∧ o.cls = .type "tuple" ∧ o.data = .seq its n ∧ its.size ≤ sizeLine ∧ Vals vs its.toList
theorem td_ninW {x : Str} {vs : List V} {d : Dt} (T : TupW K mg x vs) (ha : ED F ρ M a (.dat d)) (hf : flatD d = true) (hfs : vs.all flatV = true) (hg : GL F x := by intro _; rfl) (hd : (x == ("__debug__" : Str)) = false := by decide) (hm2 : behindInMarks .NotIn (.Name x p2) = false := by rfl) : TD F ρ M (.Compare a [.NotIn] [.Name x p2] pos) (!inV (vD d) vs) := .mk fun H 𝓗 σ c hE => by
  obtain ⟨t, o, its, n, hm, hT⟩ := T.ex
  refine uT.by (fun j => pt_cmpR (fNotIn j) (pe_u j) (pe_glob (v := .ref t) (hg j) (hmg hm j) rfl hd) hm2) ((ha.run H 𝓗 σ c hE).mono fun v 𝓗1 ⟨H1, M1, r1, c1, s1, q1, e1, e2⟩ => ?_)
  have e2' := e2.symm
  subst e1 e2'
  obtain ⟨a1, a2⟩ := vD_ok q1 hf
  subst a1
  exact ⟨t, vs, rfl, .inr (.inr ⟨o, its, n, hT⟩), a2, hfs, _, rfl, H1, M, c1, s1, rfl, rfl⟩
/-- raise X(e), with no owned list left -/
theorem s_raise0 {x : Str} {C : Addr} {p : Pos} (o : OwnE K mg x C) (h : EW F ρ M e fun _ _ => F.ex C ρ OH0) (hg : GL F x := by intro _; rfl) (hs : NS F e [] := by intro _; rfl) (hdb : (x == ("__debug__" : Str)) = false := by decide) : S1 F ρ M (.Raise (some (.Call (.Name x p) [e] [] p2)) none pos) D := .mk fun H 𝓗 σ c hE => by
  obtain ⟨B, nw, ini, bmB, f1, f2⟩ := o.facts
  refine uS.by (t := fun _ σ H => uE F e σ H fun _ H1 => mkW K F.B0 F.H0 F.ex (.ref C) none σ H1) (fun j => ?_) ((h.run H 𝓗 σ c hE).mono fun v 𝓗' ⟨H', M', r, c', s', q, n⟩ => ?_)
  · exact ps_raise (F.hc j) (F.tk j) (SkE.pmk_own1 f1 (by rw [F.eK j]; exact f2) (by rw [F.eg j]; exact o.here) (by rw [F.eK j]; exact o.kp) (raises_own (by rw [F.eK j]; exact o.sub) (by rw [F.eK j]; exact o.ty)) (hg j) (pe_u j) (hs j) hdb)
  · exact ⟨C, ρ, OH0, H', rfl, rfl, c'.less (fun _ _ z => by cases z), hE.mono s', n⟩
/-- plain data in, plain data out, or an own error -/
def prX (pre : List Dt → Prop) (post : List Dt → Dt → Prop) (err : List Dt → Addr → Prop) : Pr := { pre := fun rs M => M = OH0 ∧ ∃ ds, rs = ds.map .dat ∧ pre ds, post := fun rs _ r M' => M' = OH0 ∧ ∃ ds d, rs = ds.map .dat ∧ r = .dat d ∧ post ds d, err := fun rs _ C M' => M' = OH0 ∧ ∃ ds, rs = ds.map .dat ∧ err ds C }
theorem ew_callE {k : Nat} {x : Str} {ps : List Str} {pre : List Dt → Prop} {post : List Dt → Dt → Prop} {err : List Dt → Addr → Prop} {es : List Expr} {ds : List Dt} (G : Def P w K mg base (L2.CX P w) k x ps (prX pre post err))
    (ha : AD F ρ M (a :: es) (ds.map .dat)) (hp : pre ds) (q : ∀ d, post ds d → Q (.dat d) M) (qe : ∀ C, err ds C → F.ex C ρ M) (hg : GL F x := by intro _; rfl) (hs : NS F a es := by intro _; rfl) (hpl : NP F pos es := by intro _; rfl) (hdb : (x == ("__debug__" : Str)) = false := by decide) (hk : k ≤ F.lv := by exact Nat.le_of_ble_eq_true rfl) :
    EW F ρ M (.Call (.Name x p2) (a :: es) [] pos) Q :=
  ew_callX G (ha.aw ⟨OH0, fun _ _ z => (by cases z), ⟨rfl, ds, rfl, hp⟩, fun r M' hh _ => prD_out (pre := pre) hh q, fun C M' ⟨e1, ds', e2, h⟩ => by
    subst e1
    rw [omerge00]
    exact qe C (map_dat_inj e2 ▸ h)⟩) hg hs hpl hdb hk
end
theorem defX {P : Program} {w : World} {K : PySem.W.Frag} {mg : Str → Option Value} {base : Heap} {x : Str} {st : Stmt} {N ps : List Str} (k : Nat) {p : Pr} (a : At K mg x st ps) (S : FnScope N ps (defScope st)) (len : ∀ rs M, p.pre rs M → rs.length = ps.length)
    (body : ∀ f cd A outer s H E hr B0 H0 rs M he, p.pre rs M → SX (fmX P w K mg base S x f cd A outer s H E k hr B0 H0 (p.err rs M) he) (startR N rs) M (defBody st) { nx := fun _ M' => p.post rs M (.dat .non) M', rt := fun r M' => p.post rs M r M' }) :
    Def P w K mg base (L2.CX P w) (k + 1) x ps p := by
  obtain ⟨f, fd, F, hm, hb⟩ := a
  exact ⟨f, fd, fnX F S len fun cd A outer s H E hr B0 H0 rs M he => body f cd A outer s H E hr B0 H0 rs M he, hm, F.kp, hb⟩
end DL
/-! A small language of our own beside the text's: what it asks (wp) is computed, no memory in it. -/
namespace DD
open PySem DL
/-- what a name holds: nothing, data, a list of its own -/
inductive Tr where
  | un | dat (d : Dt) | own (ts : List Tr)
abbrev Env := List Tr
/-- what a def promises -/
structure Sg where
  nm : Str
  lv : Nat
  pre : List Tr → Prop
  post : List Tr → Tr → List Tr → Prop
  err : List Tr → Str → Prop
inductive F1 | len | sum | max | any | all | int | tuple | tupleN | lenSet
inductive Bo | add | sub | mul | mod | div | pow | shl | shr | band
inductive Co | lt | le | gt | ge | eq | ne
mutual
inductive Pt | v (i : Nat) | t (ps : Pts)
inductive Pts | nil | cons (p : Pt) (ps : Pts)
end
mutual
inductive E : Type
  | var (i : Nat) | int (i : Int) | str (s : Str) | bl (b : Bool) | non
  | con (x : Str) (d : Dt)
  | bin (o : Bo) (a b : E) | neg (a : E)
  | cmp (o : Co) (a b : E) | le3 (a b c : E)
  | isN (pos : Bool) (a : E) | mem (pos : Bool) (a b : E) | memR (pos : Bool) (a n : E)
  | not (a : E) | and (a b : E) | or (a b : E) | ite (c a b : E)
  | tup (es : Es) | new (n : Nw)
  | ix (a b : E) | slT (a : E) (lo hi : Op)
  | f1 (f : F1) (a : E) | max2 (a b : E)
  | cnt (a b : E) | idx (a b : E)
  | isi (a : E) (T : String) | isiC (a : E) (x : Str) (C : Addr)
  | attr (a : E) (f : Str) (x : Str) (C : Addr) | mk (x : Str) (C : Addr) (es : Es)
  | fstr (es : Es)
  | call (g : Sg) (es : Es)
inductive Es : Type | nil | cons (e : E) (es : Es)
inductive Op : Type | no | so (e : E)
inductive Nw : Type
  | lst (is : Is) | rep (a b : E) | cat (a b : E) | sl (a : E) (lo hi : Op) | cp (a : E) | rng (a : E)
  | comp (p : Pt) (s : Src) (c : Op) (i : It)
inductive It : Type | v (e : E) | n (n : Nw)
inductive Is : Type | nil | cons (i : It) (is : Is)
inductive Src : Type | l (e : E) | r (e : E) | en (e : E) | zp (a b : E) | rv (e : E)
end
/-- the errors' classes: each under HallError -/
def subE (C x : Str) : Bool := decide (C = x) || decide (x = "HallError")
/-! ### parts -/
def asI (k : Int → Prop) : Tr → Prop
  | .dat (.int i) => k i
  | _ => False
def asB (k : Bool → Prop) : Tr → Prop
  | .dat (.bl i) => k i
  | _ => False
def asD (k : Dt → Prop) : Tr → Prop
  | .dat d => k d
  | _ => False
/-- a list's items -/
def asL (k : List Tr → Prop) : Tr → Prop
  | .dat (.lst ds) => k (ds.map .dat)
  | .dat (.scr ds) => k (ds.map .dat)
  | .own ts => k ts
  | _ => False
/-- a list that may be joined (not the script) -/
def asC (k : List Tr → Prop) : Tr → Prop
  | .dat (.lst ds) => k (ds.map .dat)
  | .own ts => k ts
  | _ => False
/-- a list's or a tuple's items -/
def asQ (k : List Tr → Prop) : Tr → Prop
  | .dat (.lst ds) => k (ds.map .dat)
  | .dat (.scr ds) => k (ds.map .dat)
  | .dat (.tup ds) => k (ds.map .dat)
  | .dat (.nup ds) => k (ds.map .dat)
  | .own ts => k ts
  | _ => False
/-- what has count and index -/
def asM (k : List Tr → Prop) : Tr → Prop
  | .dat (.lst ds) => k (ds.map .dat)
  | .dat (.nup ds) => k (ds.map .dat)
  | .own ts => k ts
  | _ => False
def isD : Tr → Bool
  | .dat _ => true
  | _ => false
def isO : Tr → Bool
  | .own _ => true
  | _ => false
def toD : Tr → Dt
  | .dat d => d
  | _ => .non
def isI : Tr → Bool
  | .dat (.int _) => true
  | _ => false
def toI : Tr → Int
  | .dat (.int i) => i
  | _ => 0
def isB : Tr → Bool
  | .dat (.bl _) => true
  | _ => false
def toB : Tr → Bool
  | .dat (.bl i) => i
  | _ => false
def flatT : Tr → Bool
  | .dat d => flatD d
  | _ => false
/-- all of it as data -/
def valT : Tr → Dt
  | .dat d => d
  | .own ts => .lst (ts.map toD)
  | .un => .non
def flatO : Tr → Bool
  | .dat _ => true
  | .own ts => ts.all isD
  | .un => false
def getV (v : Env) (i : Nat) (Q : Tr → Prop) : Prop :=
  match v[i]? with
  | some (.dat d) => Q (.dat d)
  | some (.own ts) => Q (.own ts)
  | _ => False
def binQ (o : Bo) (Q : Tr → Prop) : Tr → Tr → Prop
  | .dat (.int i), .dat (.int j) =>
    match o with
    | .add => Q (.dat (.int (i + j)))
    | .sub => Q (.dat (.int (i - j)))
    | .mul => L2.CMul i j ∧ Q (.dat (.int (i * j)))
    | .mod => 0 < j ∧ Q (.dat (.int (i % j)))
    | .div => L2.CDiv i j ∧ Q (.dat (.int (i / j)))
    | .pow => L2.CPow i j ∧ Q (.dat (.int (i ^ j.toNat)))
    | .shl => L2.CPow i j ∧ Q (.dat (.int (i * 2 ^ j.toNat)))
    | .shr => 0 ≤ j ∧ Q (.dat (.int (i / 2 ^ j.toNat)))
    | .band => Q (.dat (.int (Builtin.bitAnd i j)))
  | .dat (.tup as), .dat (.tup bs) =>
    match o with
    | .add => as.length + bs.length ≤ 90000 ∧ Q (.dat (.tup (as ++ bs)))
    | _ => False
  | .dat (.tup as), .dat (.int j) =>
    match o with
    | .mul => 0 ≤ j ∧ j ≤ 1000 ∧ as.length ≤ 1000 ∧ Q (.dat (.tup (List.replicate j.toNat as).flatten))
    | _ => False
  | _, _ => False
def cmpQ (o : Co) (Q : Tr → Prop) (x y : Tr) : Prop :=
  match o with
  | .lt => asI (fun i => asI (fun j => Q (.dat (.bl (decide (i < j))))) y) x
  | .le => asI (fun i => asI (fun j => Q (.dat (.bl (decide (i ≤ j))))) y) x
  | .gt => asI (fun i => asI (fun j => Q (.dat (.bl (decide (j < i))))) y) x
  | .ge => asI (fun i => asI (fun j => Q (.dat (.bl (decide (j ≤ i))))) y) x
  | .eq => flatO x = true ∧ flatO y = true ∧ DOk 8 (valT x) ∧ DOk 8 (valT y) ∧ Q (.dat (.bl (eqD (valT x) (valT y))))
  | .ne => flatO x = true ∧ flatO y = true ∧ DOk 8 (valT x) ∧ DOk 8 (valT y) ∧ Q (.dat (.bl (!eqD (valT x) (valT y))))
def fsOk (t : Tr) : Prop := (∃ i : Int, t = .dat (.int i) ∧ i.natAbs.log2 < 1920) ∨ ∃ s : Str, t = .dat (.str s) ∧ s.length ≤ 2000
def isNo : Tr → Bool
  | .dat .non => true
  | _ => false
def sgB (pos b : Bool) : Bool := if pos then b else !b
def ixQ (l : List Tr) (i : Int) (Q : Tr → Prop) : Prop := 0 ≤ i ∧ ∃ t, l[i.toNat]? = some t ∧ Q t
def f1Q (f : F1) (Q : Tr → Prop) (x : Tr) : Prop :=
  match f with
  | .len => asQ (fun l => Q (.dat (.int (l.length : Nat)))) x
  | .sum => asL (fun l => l.all isI = true ∧ Q (.dat (.int (l.map toI).sum))) x
  | .max => asL (fun l => l.all isI = true ∧ 0 < l.length ∧ ∀ m, m ∈ l.map toI → (∀ y ∈ l.map toI, y ≤ m) → Q (.dat (.int m))) x
  | .any => asL (fun l => l.all isB = true ∧ Q (.dat (.bl ((l.map toB).any id)))) x
  | .all => asL (fun l => l.all isB = true ∧ Q (.dat (.bl ((l.map toB).all id)))) x
  | .int => asB (fun b => Q (.dat (.int (if b then 1 else 0)))) x
  | .tuple => asL (fun l => l.all isD = true ∧ Q (.dat (.tup (l.map toD)))) x
  | .tupleN => asL (fun l => l.all isD = true ∧ Q (.dat (.nup (l.map toD)))) x
  | .lenSet => asL (fun l => l.all isI = true ∧ l.length ≤ 4000 ∧ Q (.dat (.int (distinct (l.map toI) : Nat)))) x
/-- the first place of an int -/
def fstIx (ns : List Int) (y : Int) (j : Nat) : Prop := ns[j]? = some y ∧ ∀ m, m < j → ns[m]? ≠ some y
def tyT : Tr → Option String
  | .dat .non => some "NoneType"
  | .dat (.bl _) => some "bool"
  | .dat (.int _) => some "int"
  | .dat (.str _) => some "str"
  | .dat (.lst _) => some "list"
  | .dat (.scr _) => some "list"
  | .dat (.tup _) => some "tuple"
  | .dat (.nup _) => some "tuple"
  | .own _ => some "list"
  | _ => none
/-- isinstance of plain things -/
def isiB (T B : String) : Option Bool := L2.kitB T B
def hallF : List Str := ["gates", "rows", "stands", "stores"]
def fieldOf : List Str → List Dt → Str → Option Dt
  | n :: ns, d :: ds, x => if n = x then some d else fieldOf ns ds x
  | _, _, _ => none
/-- root slot of a place -/
def rootE : E → Option Nat
  | .var i => some i
  | .ix a _ => rootE a
  | _ => none
def ownRoots (v : Env) : Es → List Nat
  | .nil => []
  | .cons e es => match rootE e with
    | some i => if (match v[i]? with | some (.own _) => true | _ => false) = true then i :: ownRoots v es else ownRoots v es
    | none => ownRoots v es
mutual
def asg : Pt → Dt → Env → (Env → Prop) → Prop
  | .v i, d, v, Q => Q (v.set i (.dat d))
  | .t ps, d, v, Q => match d with
    | .tup ds => asgs ps ds v Q
    | _ => False
def asgs : Pts → List Dt → Env → (Env → Prop) → Prop
  | .nil, ds, v, Q => ds = [] ∧ Q v
  | .cons p ps, ds, v, Q => match ds with
    | d :: ds => asg p d v fun v' => asgs ps ds v' Q
    | [] => False
end
mutual
def slots : Pt → List Nat
  | .v i => [i]
  | .t ps => slotss ps
def slotss : Pts → List Nat
  | .nil => []
  | .cons p ps => slots p ++ slotss ps
end
def wipeV (v : Env) : List Nat → Env
  | [] => v
  | i :: is => (wipeV v is).set i .un
def compL (f : Dt → (List Tr → Prop) → Prop) : List Dt → (List Tr → Prop) → Prop
  | [], Q => Q []
  | d :: ds, Q => f d fun o => compL f ds fun ts => Q (o ++ ts)
def rngD (n : Nat) : List Dt := (List.range n).map fun k : Nat => .int (k : Int)
def cutO (lo hi : Option Int) (l : List Tr) (Q : List Tr → Prop) : Prop :=
  (∀ i, lo = some i → 0 ≤ i) ∧ (∀ i, hi = some i → 0 ≤ i) ∧ Q (cutN l (lo.map Int.toNat) (hi.map Int.toNat))
def enumD : Nat → List Dt → List Dt
  | _, [] => []
  | i, d :: ds => .tup [.int (i : Int), d] :: enumD (i + 1) ds
def zipD (as bs : List Dt) : List Dt := List.zipWith (fun a b => .tup [a, b]) as bs
/-- a list that is walked -/
def asW (k : List Dt → Prop) : Tr → Prop
  | .dat (.lst ds) => k ds
  | .dat (.scr ds) => k ds
  | _ => False
/-- a list or a tuple that is walked -/
def asWt (k : List Dt → Prop) : Tr → Prop
  | .dat (.lst ds) => k ds
  | .dat (.scr ds) => k ds
  | .dat (.tup ds) => k ds
  | .dat (.nup ds) => k ds
  | _ => False
def noX : Str → Env → Prop := fun _ _ => False
mutual
def wpE (X : Str → Env → Prop) (v : Env) : E → (Tr → Prop) → Prop
  | .var i, Q => getV v i Q
  | .int i, Q => Q (.dat (.int i))
  | .str s, Q => Q (.dat (.str s))
  | .bl b, Q => Q (.dat (.bl b))
  | .non, Q => Q (.dat .non)
  | .con _ d, Q => Q (.dat d)
  | .bin o a b, Q => wpE X v a fun x => wpE X v b fun y => binQ o Q x y
  | .neg a, Q => wpE X v a (asI fun i => Q (.dat (.int (-i))))
  | .cmp o a b, Q => wpE X v a fun x => wpE X v b fun y => cmpQ o Q x y
  | .le3 a b c, Q => wpE X v a (asI fun i => wpE X v b (asI fun j => (i ≤ j → wpE X v c (asI fun k => Q (.dat (.bl (decide (j ≤ k)))))) ∧ (¬ i ≤ j → Q (.dat (.bl false)))))
  | .isN p a, Q => wpE X v a fun x => Q (.dat (.bl (sgB p (isNo x))))
  | .mem p a b, Q => wpE X v a (asD fun x => wpE X v b (asQ fun l => flatD x = true ∧ l.all flatT = true ∧ Q (.dat (.bl (sgB p (inD x (l.map toD)))))))
  | .memR p a n, Q => wpE X v a (asI fun i => wpE X v n (asI fun m => Q (.dat (.bl (sgB p (decide (0 ≤ i ∧ i < m)))))))
  | .not a, Q => wpE X v a (asB fun b => Q (.dat (.bl (!b))))
  | .and a b, Q => wpE X v a (asB fun k => (k = true → wpE X v b (asB fun l => Q (.dat (.bl l)))) ∧ (k = false → Q (.dat (.bl false))))
  | .or a b, Q => wpE X v a (asB fun k => (k = false → wpE X v b (asB fun l => Q (.dat (.bl l)))) ∧ (k = true → Q (.dat (.bl true))))
  | .ite c a b, Q => wpE X v c (asB fun k => (k = true → wpE X v a (asD fun d => Q (.dat d))) ∧ (k = false → wpE X v b (asD fun d => Q (.dat d))))
  | .tup es, Q => wpEs X v es fun ts => ts.all isD = true ∧ Q (.dat (.tup (ts.map toD)))
  | .new n, Q => wpN X v n fun ts => ts.all isD = true ∧ Q (.dat (.lst (ts.map toD)))
  | .ix a b, Q => wpE X v a (asQ fun l => wpE X v b (asI fun i => ixQ l i Q))
  | .slT a lo hi, Q => wpE X v a fun x => match x with
    | .dat (.tup ds) => wpO X v lo fun i => wpO X v hi fun j => cutO i j (ds.map .dat) fun l => Q (.dat (.tup (l.map toD)))
    | .dat (.nup ds) => wpO X v lo fun i => wpO X v hi fun j => cutO i j (ds.map .dat) fun l => Q (.dat (.nup (l.map toD)))
    | _ => False
  | .f1 f a, Q => wpE X v a (f1Q f Q)
  | .max2 a b, Q => wpE X v a (asI fun i => wpE X v b (asI fun j => Q (.dat (.int (if j > i then j else i)))))
  | .cnt a b, Q => wpE X v a (asM fun l => wpE X v b (asI fun k => l.all isI = true ∧ Q (.dat (.int ((l.map toI).count k : Nat)))))
  | .idx a b, Q => wpE X v a (asM fun l => wpE X v b (asI fun k => l.all isI = true ∧ ∃ j : Nat, fstIx (l.map toI) k j ∧ Q (.dat (.int j))))
  | .isi a B, Q => wpE X v a fun x => ∃ T k, tyT x = some T ∧ isiB T B = some k ∧ Q (.dat (.bl k))
  | .isiC a _ C, Q => wpE X v a (asD fun d => match d with
    | .ins C' _ _ => C' = C ∧ Q (.dat (.bl true))
    | _ => False)
  | .attr a f _ C, Q => wpE X v a (asD fun d => match d with
    | .ins C' ns ds => C' = C ∧ f ∈ hallF ∧ ∃ y, fieldOf ns ds f = some y ∧ Q (.dat y)
    | _ => False)
  | .mk _ C es, Q => wpEs X v es fun ts => ts.all isD = true ∧ match ts with
    | [.dat a, .dat b, .dat c, .dat d] => Q (.dat (.ins C hallF [a, b, c, d]))
    | _ => False
  | .fstr es, Q => wpFs X v es (∀ s : Str, Q (.dat (.str s)))
  | .call g es, Q => wpEs X v es fun as => (ownRoots v es).Nodup ∧ as.all flatO = true ∧ g.pre as ∧ (∀ r as', g.post as r as' → as' = as ∧ isD r = true ∧ Q r) ∧ ∀ C, g.err as C → as.all isD = true ∧ X C v
def wpEs (X : Str → Env → Prop) (v : Env) : Es → (List Tr → Prop) → Prop
  | .nil, Q => Q []
  | .cons e es, Q => wpE X v e fun t => wpEs X v es fun ts => Q (t :: ts)
def wpFs (X : Str → Env → Prop) (v : Env) : Es → Prop → Prop
  | .nil, Q => Q
  | .cons e es, Q => wpE X v e fun t => fsOk t ∧ wpFs X v es Q
def wpO (X : Str → Env → Prop) (v : Env) : Op → (Option Int → Prop) → Prop
  | .no, Q => Q none
  | .so e, Q => wpE X v e (asI fun i => Q (some i))
def wpN (X : Str → Env → Prop) (v : Env) : Nw → (List Tr → Prop) → Prop
  | .lst is, Q => wpIs X v is Q
  | .rep a b, Q => wpE X v a (asC fun l => wpE X v b (asI fun j => l.all isD = true ∧ 0 ≤ j ∧ j ≤ 90000 ∧ l.length * j.toNat ≤ 90000 ∧ Q (List.replicate j.toNat l).flatten))
  | .cat a b, Q => wpE X v a (asC fun l => wpE X v b (asC fun m => l.all isD = true ∧ m.all isD = true ∧ l.length + m.length ≤ 90000 ∧ Q (l ++ m)))
  | .sl a lo hi, Q => wpE X v a (asL fun l => wpO X v lo fun i => wpO X v hi fun j => l.all isD = true ∧ cutO i j l Q)
  | .cp a, Q => wpE X v a (asQ fun l => l.all isD = true ∧ Q l)
  | .rng a, Q => wpE X v a (asI fun n => 0 ≤ n ∧ n ≤ 90000 ∧ Q ((rngD n.toNat).map .dat))
  | .comp p s c i, Q => wpSr X v s fun ds => ds.length ≤ 90000 ∧ compL (fun d K => asg p d (wipeV v (slots p)) fun v' => wpC noX v' c fun b => (b = true → wpI noX v' i fun t => K [t]) ∧ (b = false → K [])) ds Q
def wpI (X : Str → Env → Prop) (v : Env) : It → (Tr → Prop) → Prop
  | .v e, Q => wpE X v e (asD fun d => Q (.dat d))
  | .n n, Q => wpN X v n fun ts => Q (.own ts)
def wpIs (X : Str → Env → Prop) (v : Env) : Is → (List Tr → Prop) → Prop
  | .nil, Q => Q []
  | .cons i is, Q => wpI X v i fun t => wpIs X v is fun ts => Q (t :: ts)
def wpSr (X : Str → Env → Prop) (v : Env) : Src → (List Dt → Prop) → Prop
  | .l e, Q => wpE X v e (asWt Q)
  | .r e, Q => wpE X v e (asI fun n => 0 ≤ n ∧ n ≤ 90000 ∧ Q (rngD n.toNat))
  | .en e, Q => wpE X v e (asW fun ds => Q (enumD 0 ds))
  | .zp a b, Q => wpE X v a (asW fun as => wpE X v b (asW fun bs => as.length = bs.length ∧ Q (zipD as bs)))
  | .rv e, Q => wpE X v e (asI fun n => 0 ≤ n ∧ n ≤ 90000 ∧ Q (rngD n.toNat).reverse)
def wpC (X : Str → Env → Prop) (v : Env) : Op → (Bool → Prop) → Prop
  | .no, Q => Q true
  | .so e, Q => wpE X v e (asB fun b => Q b)
end
end DD
namespace DD
open PySem PySem.Spec PyProof.Rows L2 DL
/-! ### names' things and places' things -/
mutual
inductive TrR (M : OH) : Tr → Sl → List Addr → Prop
  | dat {d : Dt} : TrR M (.dat d) (.dat d) []
  | own {p : Addr} {xs : List Sl} {ts : List Tr} {fp : List Addr} : M p = some xs → TrsR M ts xs fp → TrR M (.own ts) (.raw (.ref p)) (p :: fp)
inductive TrsR (M : OH) : List Tr → List Sl → List Addr → Prop
  | nil : TrsR M [] [] []
  | cons {t : Tr} {s : Sl} {ts : List Tr} {ss : List Sl} {f g : List Addr} : TrR M t s f → TrsR M ts ss g → TrsR M (t :: ts) (s :: ss) (f ++ g)
end
inductive EnvR (M : OH) : Env → Rho → List Addr → Prop
  | nil : EnvR M [] [] []
  | un {s : Sl} {v : Env} {ρ : Rho} {g : List Addr} : EnvR M v ρ g → EnvR M (.un :: v) (s :: ρ) g
  | cons {t : Tr} {s : Sl} {v : Env} {ρ : Rho} {f g : List Addr} : TrR M t s f → EnvR M v ρ g → EnvR M (t :: v) (s :: ρ) (f ++ g)
mutual
theorem TrR.frame {M M' : OH} : ∀ {t : Tr} {s : Sl} {f : List Addr}, TrR M t s f → (∀ a ∈ f, M' a = M a) → TrR M' t s f
  | _, _, _, .dat, _ => .dat
  | _, _, _, .own h hs, k => .own (by rw [k _ List.mem_cons_self]; exact h) (TrsR.frame hs fun a ha => k a (List.mem_cons_of_mem _ ha))
theorem TrsR.frame {M M' : OH} : ∀ {ts : List Tr} {ss : List Sl} {f : List Addr}, TrsR M ts ss f → (∀ a ∈ f, M' a = M a) → TrsR M' ts ss f
  | _, _, _, .nil, _ => .nil
  | _, _, _, .cons h hs, k => .cons (h.frame fun a ha => k a (List.mem_append_left _ ha)) (TrsR.frame hs fun a ha => k a (List.mem_append_right _ ha))
end
mutual
theorem TrR.dom {M : OH} : ∀ {t : Tr} {s : Sl} {f : List Addr}, TrR M t s f → ∀ a ∈ f, M a ≠ none
  | _, _, _, .dat, _, h => nomatch h
  | _, _, _, .own h hs, a, ha => by
    rcases List.mem_cons.mp ha with e | e
    · subst e; rw [h]; exact fun z => nomatch z
    · exact TrsR.dom hs a e
theorem TrsR.dom {M : OH} : ∀ {ts : List Tr} {ss : List Sl} {f : List Addr}, TrsR M ts ss f → ∀ a ∈ f, M a ≠ none
  | _, _, _, .nil, _, h => nomatch h
  | _, _, _, .cons h hs, a, ha => by
    rcases List.mem_append.mp ha with e | e
    · exact h.dom a e
    · exact TrsR.dom hs a e
end
mutual
theorem TrR.det {M M' : OH} : ∀ {t t' : Tr} {s : Sl} {f f' : List Addr}, TrR M t s f → TrR M' t' s f' → (∀ a ∈ f, M' a = M a) → t = t' ∧ f = f'
  | _, _, _, _, _, .dat, h', _ => by cases h'; exact ⟨rfl, rfl⟩
  | _, _, _, _, _, .own h hs, h', k => by
    cases h' with
    | own h2 hs2 =>
      rw [k _ List.mem_cons_self, h] at h2
      cases h2
      obtain ⟨e1, e2⟩ := TrsR.det hs hs2 fun a ha => k a (List.mem_cons_of_mem _ ha)
      subst e1 e2
      exact ⟨rfl, rfl⟩
theorem TrsR.det {M M' : OH} : ∀ {ts ts' : List Tr} {ss : List Sl} {f f' : List Addr}, TrsR M ts ss f → TrsR M' ts' ss f' → (∀ a ∈ f, M' a = M a) → ts = ts' ∧ f = f'
  | _, _, _, _, _, .nil, h', _ => by cases h'; exact ⟨rfl, rfl⟩
  | _, _, _, _, _, .cons h hs, h', k => by
    cases h' with
    | cons h2 hs2 =>
      obtain ⟨e1, e2⟩ := h.det h2 fun a ha => k a (List.mem_append_left _ ha)
      obtain ⟨e3, e4⟩ := TrsR.det hs hs2 fun a ha => k a (List.mem_append_right _ ha)
      subst e1 e2 e3 e4
      exact ⟨rfl, rfl⟩
end
section
variable {M M' : OH} {v : Env} {ρ : Rho} {fp f g : List Addr} {t : Tr} {s : Sl} {ts : List Tr} {ss : List Sl}
theorem TrsR.length (h : TrsR M ts ss f) : ss.length = ts.length := by
  induction ts generalizing ss f with
  | nil => cases h; rfl
  | cons t ts ih => cases h with | cons a b => rw [List.length_cons, List.length_cons, ih b]
theorem EnvR.frame (h : EnvR M v ρ fp) (k : ∀ a ∈ fp, M' a = M a) : EnvR M' v ρ fp := by
  induction h with
  | nil => exact .nil
  | un _ ih => exact .un (ih k)
  | cons h _ ih => exact .cons (h.frame fun a ha => k a (List.mem_append_left _ ha)) (ih fun a ha => k a (List.mem_append_right _ ha))
theorem EnvR.dom (h : EnvR M v ρ fp) : ∀ a ∈ fp, M a ≠ none := by
  induction h with
  | nil => exact fun _ z => nomatch z
  | un _ ih => exact ih
  | cons h _ ih => exact fun a ha => (List.mem_append.mp ha).elim (h.dom a) (ih a)
theorem EnvR.len (h : EnvR M v ρ fp) : ρ.length = v.length := by
  induction h with
  | nil => rfl
  | un _ ih => rw [List.length_cons, List.length_cons, ih]
  | cons _ _ ih => rw [List.length_cons, List.length_cons, ih]
theorem EnvR.get (h : EnvR M v ρ fp) {i : Nat} (e : v[i]? = some t) (hu : t ≠ .un) : ∃ s f, ρ[i]? = some s ∧ TrR M t s f ∧ ∀ a ∈ f, a ∈ fp := by
  induction h generalizing i with
  | nil => simp at e
  | un _ ih =>
    cases i with
    | zero => simp at e; exact absurd e.symm hu
    | succ i =>
      obtain ⟨s, f, e1, e2, e3⟩ := ih (by simpa using e)
      exact ⟨s, f, by simpa using e1, e2, e3⟩
  | cons h _ ih =>
    cases i with
    | zero =>
      simp at e; subst e
      exact ⟨_, _, rfl, h, fun a ha => List.mem_append_left _ ha⟩
    | succ i =>
      obtain ⟨s, f, e1, e2, e3⟩ := ih (by simpa using e)
      exact ⟨s, f, by simpa using e1, e2, fun a ha => List.mem_append_right _ (e3 a ha)⟩
/-- one name is given another thing -/
theorem EnvR.set (h : EnvR M v ρ fp) (hn : fp.Nodup) (i : Nat) (r : TrR M t s f) (hf : f.Nodup) (hd : ∀ a ∈ f, a ∉ fp) : ∃ fp', EnvR M (v.set i t) (ρ.set i s) fp' ∧ fp'.Nodup ∧ ∀ a ∈ fp', a ∈ fp ∨ a ∈ f := by
  induction h generalizing i with
  | nil => exact ⟨[], .nil, hn, fun a ha => nomatch ha⟩
  | @un s' v ρ g h' ih =>
    cases i with
    | zero => exact ⟨f ++ g, .cons r h', List.nodup_append.mpr ⟨hf, hn, fun a ha b hb e => hd a ha (e ▸ hb)⟩, fun a ha => (List.mem_append.mp ha).symm⟩
    | succ i =>
      obtain ⟨fp', a1, a2, a3⟩ := ih hn i hd
      exact ⟨fp', .un a1, a2, a3⟩
  | @cons t' s' v ρ f' g h1 h' ih =>
    obtain ⟨n1, n2, n3⟩ := List.nodup_append.mp hn
    cases i with
    | zero => exact ⟨f ++ g, .cons r h', List.nodup_append.mpr ⟨hf, n2, fun a ha b hb e => hd a ha (List.mem_append_right _ (e ▸ hb))⟩, fun a ha => (List.mem_append.mp ha).elim .inr fun z => .inl (List.mem_append_right _ z)⟩
    | succ i =>
      obtain ⟨fp', a1, a2, a3⟩ := ih n2 i fun a ha z => hd a ha (List.mem_append_right _ z)
      refine ⟨f' ++ fp', .cons h1 a1, List.nodup_append.mpr ⟨n1, a2, fun a ha b hb e => ?_⟩, fun a ha => ?_⟩
      · subst e
        rcases a3 a hb with z | z
        · exact n3 a ha a z rfl
        · exact hd a z (List.mem_append_left _ ha)
      · rcases List.mem_append.mp ha with z | z
        · exact .inl (List.mem_append_left _ z)
        · rcases a3 a z with y | y
          · exact .inl (List.mem_append_right _ y)
          · exact .inr y
theorem EnvR.unset (h : EnvR M v ρ fp) (hn : fp.Nodup) (i : Nat) : ∃ fp', EnvR M (v.set i .un) (ρ.set i s) fp' ∧ fp'.Nodup ∧ ∀ a ∈ fp', a ∈ fp := by
  induction h generalizing i with
  | nil => exact ⟨[], .nil, hn, fun a ha => nomatch ha⟩
  | @un s' v ρ g h' ih =>
    cases i with
    | zero => exact ⟨g, .un h', hn, fun a ha => ha⟩
    | succ i =>
      obtain ⟨fp', a1, a2, a3⟩ := ih hn i
      exact ⟨fp', .un a1, a2, a3⟩
  | @cons t' s' v ρ f' g h1 h' ih =>
    obtain ⟨n1, n2, n3⟩ := List.nodup_append.mp hn
    cases i with
    | zero => exact ⟨g, .un h', n2, fun a ha => List.mem_append_right _ ha⟩
    | succ i =>
      obtain ⟨fp', a1, a2, a3⟩ := ih n2 i
      refine ⟨f' ++ fp', .cons h1 a1, List.nodup_append.mpr ⟨n1, a2, fun a ha b hb e => ?_⟩, fun a ha => ?_⟩
      · subst e; exact n3 a ha a (a3 a hb) rfl
      · rcases List.mem_append.mp ha with z | z
        · exact List.mem_append_left _ z
        · exact List.mem_append_right _ (a3 a z)
end
/-- names and places, bundled -/
def EV (M : OH) (v : Env) (ρ : Rho) : Prop := ∃ fp, EnvR M v ρ fp ∧ fp.Nodup
section
variable {M M' : OH} {v : Env} {ρ : Rho} {t : Tr} {s : Sl} {ts : List Tr} {ss : List Sl} {f : List Addr}
theorem EV.setD (h : EV M v ρ) (i : Nat) (d : Dt) : EV M (v.set i (.dat d)) (ρ.set i (.dat d)) := by
  obtain ⟨fp, h1, h2⟩ := h
  obtain ⟨fp', a, b, _⟩ := h1.set h2 i .dat List.nodup_nil (fun _ z => nomatch z)
  exact ⟨fp', a, b⟩
theorem EV.wipe (h : EV M v ρ) : ∀ is : List Nat, EV M (wipeV v is) (wipeR ρ is)
  | [] => h
  | i :: is => by
    obtain ⟨fp, h1, h2⟩ := EV.wipe h is
    obtain ⟨fp', a, b, _⟩ := h1.unset (s := .un) h2 i
    exact ⟨fp', a, b⟩
/-- new lists stand elsewhere -/
theorem EV.up (h : EV M v ρ) (k : ∀ a, M a ≠ none → M' a = M a) : EV M' v ρ := by
  obtain ⟨fp, h1, h2⟩ := h
  exact ⟨fp, h1.frame fun a ha => k a (h1.dom a ha), h2⟩
theorem EV.set (h : EV M v ρ) (i : Nat) (k : ∀ a, M a ≠ none → M' a = M a) (r : TrR M' t s f) (hf : f.Nodup) (hd : ∀ a ∈ f, M a = none) : EV M' (v.set i t) (ρ.set i s) := by
  obtain ⟨fp, h1, h2⟩ := h
  obtain ⟨fp', a, b, _⟩ := (h1.frame fun a ha => k a (h1.dom a ha)).set h2 i r hf fun a ha z => h1.dom a z (hd a ha)
  exact ⟨fp', a, b⟩
theorem EV.get (h : EV M v ρ) {i : Nat} (e : v[i]? = some t) (hu : t ≠ .un) : ∃ s f, ρ[i]? = some s ∧ TrR M t s f := by
  obtain ⟨fp, h1, h2⟩ := h
  obtain ⟨s, f, a, b, _⟩ := h1.get e hu
  exact ⟨s, f, a, b⟩
theorem TrsR.dats {ds : List Dt} : TrsR M (ds.map .dat) (ds.map .dat) [] := by
  induction ds with
  | nil => exact .nil
  | cons d ds ih => exact .cons .dat ih
theorem TrsR.allD (h : TrsR M ts ss f) (hd : ts.all isD = true) : ts = (ts.map toD).map .dat ∧ ss = (ts.map toD).map .dat ∧ f = [] := by
  induction ts generalizing ss f with
  | nil => cases h; exact ⟨rfl, rfl, rfl⟩
  | cons t ts ih =>
    rw [List.all_cons, Bool.and_eq_true] at hd
    cases h with
    | cons a b =>
      obtain ⟨e1, e2, e3⟩ := ih b hd.2
      cases a with
      | own _ _ => exact nomatch hd.1
      | dat =>
        subst e2 e3
        refine ⟨?_, rfl, rfl⟩
        rw [List.map_cons, List.map_cons, ← e1]
        rfl
theorem TrsR.get (h : TrsR M ts ss f) {k : Nat} (e : ts[k]? = some t) : ∃ s g, ss[k]? = some s ∧ TrR M t s g := by
  induction ts generalizing ss f k with
  | nil => simp at e
  | cons t' ts ih =>
    cases h with
    | cons a b =>
      cases k with
      | zero => simp at e; subst e; exact ⟨_, _, rfl, a⟩
      | succ k =>
        obtain ⟨s, g, e1, e2⟩ := ih b (by simpa using e)
        exact ⟨s, g, by simpa using e1, e2⟩
/-- what reads as a list is one -/
theorem asL_of {k : List Tr → Prop} (r : TrR M t s f) (h : asL k t) : ∃ ts xs g, LsOf M s xs ∧ TrsR M ts xs g ∧ k ts := by
  cases r with
  | own e q => exact ⟨_, _, _, .raw e, q, h⟩
  | @dat d =>
    cases d with
    | lst ds => exact ⟨_, _, _, .dat ds, .dats, h⟩
    | scr ds => exact ⟨_, _, _, .scr ds, .dats, h⟩
    | _ => exact h.elim
theorem asC_of {k : List Tr → Prop} (r : TrR M t s f) (h : asC k t) : ∃ ts xs g, LtOf M s xs ∧ TrsR M ts xs g ∧ k ts := by
  cases r with
  | own e q => exact ⟨_, _, _, .raw e, q, h⟩
  | @dat d =>
    cases d with
    | lst ds => exact ⟨_, _, _, .dat ds, .dats, h⟩
    | _ => exact h.elim
theorem asQ_of {k : List Tr → Prop} (r : TrR M t s f) (h : asQ k t) : ∃ ts xs g, SqOf M s xs ∧ TrsR M ts xs g ∧ k ts := by
  cases r with
  | own e q => exact ⟨_, _, _, .l (.raw e), q, h⟩
  | @dat d =>
    cases d with
    | lst ds => exact ⟨_, _, _, .l (.dat ds), .dats, h⟩
    | scr ds => exact ⟨_, _, _, .l (.scr ds), .dats, h⟩
    | tup ds => exact ⟨_, _, _, .t ds, .dats, h⟩
    | nup ds => exact ⟨_, _, _, .n ds, .dats, h⟩
    | _ => exact h.elim
theorem asI_of {k : Int → Prop} (r : TrR M t s f) (h : asI k t) : ∃ i, s = .dat (.int i) ∧ k i := by
  cases r with
  | own e q => exact h.elim
  | @dat d =>
    cases d with
    | int i => exact ⟨i, rfl, h⟩
    | _ => exact h.elim
theorem asB_of {k : Bool → Prop} (r : TrR M t s f) (h : asB k t) : ∃ i, s = .dat (.bl i) ∧ k i := by
  cases r with
  | own e q => exact h.elim
  | @dat d =>
    cases d with
    | bl i => exact ⟨i, rfl, h⟩
    | _ => exact h.elim
theorem asD_of {k : Dt → Prop} (r : TrR M t s f) (h : asD k t) : ∃ i, t = .dat i ∧ s = .dat i ∧ k i := by
  cases r with
  | own e q => exact h.elim
  | @dat d => exact ⟨d, rfl, rfl, h⟩
end
end DD
namespace DD
open PySem PySem.Spec PyProof.Rows L2 DL
/-! ### the text's trees against ours -/
def isLoc (sc : Scope) (x : Str) : Bool := decide (sc.names.lookup x = some .local) || decide (sc.names.lookup x = some .cell)
def isLoc1 (sc : Scope) (x : Str) : Bool := decide (sc.names.lookup x = some .local)
def nset : Expr → Bool
  | .Set _ _ _ => false
  | _ => true
def isVis (sc : Scope) (x : Str) : Bool := decide (sc.names.lookup x = some .local) || decide (sc.names.lookup x = some .cell) || decide (sc.names.lookup x = some .free)
def isGl (sc : Scope) (x : Str) : Bool := decide (sc.names.lookup x = some .globalImplicit)
def nmB (x : Str) : Bool := !(x == ("__debug__" : Str)) && !(x == ("__classdict__" : Str)) && !(x == ("__name__" : Str))
def nsB : Expr → Bool
  | .Starred _ _ => false
  | _ => true
def pixB : Expr → Bool
  | .Slice _ _ _ _ => false
  | _ => true
def plT : Expr → Bool
  | .UnaryOp .Not _ _ => false
  | .BoolOp _ _ _ => false
  | .IfExp _ _ _ _ => false
  | .Compare _ _ _ _ => false
  | _ => true
def abB : Expr → Bool
  | .Call _ _ _ _ => false
  | _ => true
def bopOf : Bo → Operator
  | .add => .Add | .sub => .Sub | .mul => .Mult | .mod => .Mod | .div => .FloorDiv | .pow => .Pow | .shl => .LShift | .shr => .RShift | .band => .BitAnd
def copOf : Co → CmpOp
  | .lt => .Lt | .le => .LtE | .gt => .Gt | .ge => .GtE | .eq => .Eq | .ne => .NotEq
def f1Of : F1 → Str
  | .len => "len" | .sum => "sum" | .max => "max" | .any => "any" | .all => "all" | .int => "int" | .tuple => "tuple" | .tupleN => "tuple" | .lenSet => "len"
mutual
def mP (N : List Str) (lp : Str → Bool) : Pt → Expr → Bool
  | .v i, .Name x _ => decide (N[i]? = some x) && lp x
  | .t ps, .Tuple xs _ _ => mPs N lp ps xs
  | _, _ => false
def mPs (N : List Str) (lp : Str → Bool) : Pts → List Expr → Bool
  | .nil, [] => true
  | .cons p ps, x :: xs => mP N lp p x && mPs N lp ps xs
  | _, _ => false
end
/-- the names of a pattern, with their places -/
def ownNm (N : List Str) : List Nat → List (Str × Nat)
  | [] => []
  | i :: is => (match N[i]? with | some x => [(x, i)] | none => []) ++ ownNm N is
def mLs (sc : Scope) (k : Expr → Bool) : Expr → Bool
  | .Call (.Name h _) [y] [] _ => decide (h = "set") && isGl sc h && nsB y && k y
  | _ => false
def hE_var (N : List Str) (lv : Nat) (sc : Scope) (i : Nat) : Expr → Bool
  | .Name x _ => decide (N[i]? = some x) && isVis sc x && nmB x
  | _ => false
def hE_int (N : List Str) (lv : Nat) (sc : Scope) (i : Int) : Expr → Bool
  | .Constant (.int j) _ _ => decide (i = j)
  | _ => false
def hE_str (N : List Str) (lv : Nat) (sc : Scope) (i : Str) : Expr → Bool
  | .Constant (.str j) _ _ => decide (i = j)
  | _ => false
def hE_bl (N : List Str) (lv : Nat) (sc : Scope) (i : Bool) : Expr → Bool
  | .Constant (.bool j) _ _ => decide (i = j)
  | _ => false
def hE_non (N : List Str) (lv : Nat) (sc : Scope) : Expr → Bool
  | .Constant .none _ _ => true
  | _ => false
def hE_con (N : List Str) (lv : Nat) (sc : Scope) (x : Str) : Expr → Bool
  | .Name y _ => decide (x = y) && isGl sc y && nmB y
  | _ => false
def hE_bin (N : List Str) (lv : Nat) (sc : Scope) (o : Bo) (ka : Scope → Expr → Bool) (kb : Scope → Expr → Bool) : Expr → Bool
  | .BinOp x p y _ => decide (p = bopOf o) && ka sc x && kb sc y
  | _ => false
def hE_neg (N : List Str) (lv : Nat) (sc : Scope) (ka : Scope → Expr → Bool) : Expr → Bool
  | .UnaryOp .USub x _ => ka sc x
  | _ => false
def hE_cmp (N : List Str) (lv : Nat) (sc : Scope) (o : Co) (ka : Scope → Expr → Bool) (kb : Scope → Expr → Bool) : Expr → Bool
  | .Compare x [p] [y] _ => decide (p = copOf o) && ka sc x && kb sc y
  | _ => false
def hE_le3 (N : List Str) (lv : Nat) (sc : Scope) (ka : Scope → Expr → Bool) (kb : Scope → Expr → Bool) (kc : Scope → Expr → Bool) : Expr → Bool
  | .Compare x [.LtE, .LtE] [y, z] _ => ka sc x && kb sc y && kc sc z
  | _ => false
def hE_isN (N : List Str) (lv : Nat) (sc : Scope) (p : Bool) (ka : Scope → Expr → Bool) : Expr → Bool
  | .Compare x [o] [.Constant .none _ _] _ => decide (o = if p then .Is else .IsNot) && ka sc x
  | _ => false
def hE_mem (N : List Str) (lv : Nat) (sc : Scope) (p : Bool) (ka : Scope → Expr → Bool) (kb : Scope → Expr → Bool) : Expr → Bool
  | .Compare x [o] [y] _ => decide (o = if p then .In else .NotIn) && !behindInMarks o y && ka sc x && kb sc y
  | _ => false
def hE_memR (N : List Str) (lv : Nat) (sc : Scope) (p : Bool) (ka : Scope → Expr → Bool) (kn : Scope → Expr → Bool) : Expr → Bool
  | .Compare x [o] [.Call (.Name f _) [y] [] _] _ => decide (o = if p then .In else .NotIn) && decide (f = "range") && isGl sc f && nsB y && ka sc x && kn sc y
  | _ => false
def hE_not (N : List Str) (lv : Nat) (sc : Scope) (ka : Scope → Expr → Bool) : Expr → Bool
  | .UnaryOp .Not x _ => ka sc x
  | _ => false
def hE_and (N : List Str) (lv : Nat) (sc : Scope) (ka : Scope → Expr → Bool) (kb : Scope → Expr → Bool) : Expr → Bool
  | .BoolOp .And (x :: y :: r) q => ka sc x && (match r with | [] => kb sc y | _ => kb sc (.BoolOp .And (y :: r) q))
  | _ => false
def hE_or (N : List Str) (lv : Nat) (sc : Scope) (ka : Scope → Expr → Bool) (kb : Scope → Expr → Bool) : Expr → Bool
  | .BoolOp .Or (x :: y :: r) q => ka sc x && (match r with | [] => kb sc y | _ => kb sc (.BoolOp .Or (y :: r) q))
  | _ => false
def hE_ite (N : List Str) (lv : Nat) (sc : Scope) (kc : Scope → Expr → Bool) (ka : Scope → Expr → Bool) (kb : Scope → Expr → Bool) : Expr → Bool
  | .IfExp x y z _ => kc sc x && ka sc y && kb sc z
  | _ => false
def hE_tup (N : List Str) (lv : Nat) (sc : Scope) (kes : Scope → List Expr → Bool) : Expr → Bool
  | .Tuple xs _ _ => kes sc xs && decide (xs.length ≤ 1000)
  | _ => false
def hE_ix (N : List Str) (lv : Nat) (sc : Scope) (ka : Scope → Expr → Bool) (kb : Scope → Expr → Bool) : Expr → Bool
  | .Subscript x y _ => pixB y && ka sc x && kb sc y
  | _ => false
def hE_slT (N : List Str) (lv : Nat) (sc : Scope) (ka : Scope → Expr → Bool) (klo : Scope → Option Expr → Bool) (khi : Scope → Option Expr → Bool) : Expr → Bool
  | .Subscript x (.Slice l h none _) _ => ka sc x && klo sc l && khi sc h
  | _ => false
def hE_f1 (N : List Str) (lv : Nat) (sc : Scope) (f : F1) (ka : Scope → Expr → Bool) : Expr → Bool
  | .Call (.Name g _) [x] [] _ => decide (g = f1Of f) && isGl sc g && nsB x && (match f with | .lenSet => mLs sc (fun y => ka sc y) x | _ => ka sc x)
  | _ => false
def hE_max2 (N : List Str) (lv : Nat) (sc : Scope) (ka : Scope → Expr → Bool) (kb : Scope → Expr → Bool) : Expr → Bool
  | .Call (.Name g _) [x, y] [] _ => decide (g = "max") && isGl sc g && nsB x && nsB y && ka sc x && kb sc y
  | _ => false
def hE_cnt (N : List Str) (lv : Nat) (sc : Scope) (ka : Scope → Expr → Bool) (kb : Scope → Expr → Bool) : Expr → Bool
  | .Call (.Attribute x f p) [y] [] q => decide (f = "count") && abB x && (p.endLine == q.line) && nsB y && ka sc x && kb sc y
  | _ => false
def hE_idx (N : List Str) (lv : Nat) (sc : Scope) (ka : Scope → Expr → Bool) (kb : Scope → Expr → Bool) : Expr → Bool
  | .Call (.Attribute x f p) [y] [] q => decide (f = "index") && abB x && (p.endLine == q.line) && nsB y && ka sc x && kb sc y
  | _ => false
def hE_isi (N : List Str) (lv : Nat) (sc : Scope) (T : String) (ka : Scope → Expr → Bool) : Expr → Bool
  | .Call (.Name g _) [x, .Name h _] [] _ => decide (g = "isinstance") && isGl sc g && nsB x && decide (h = Str.ofString T) && isGl sc h && nmB h && decide (bootBuiltins h = some (.type T)) && ka sc x
  | _ => false
def hE_isiC (N : List Str) (lv : Nat) (sc : Scope) (c : Str) (ka : Scope → Expr → Bool) : Expr → Bool
  | .Call (.Name g _) [x, .Name h _] [] _ => decide (g = "isinstance") && isGl sc g && nsB x && decide (h = c) && isGl sc h && nmB h && ka sc x
  | _ => false
def hE_attr (N : List Str) (lv : Nat) (sc : Scope) (f : Str) (ka : Scope → Expr → Bool) : Expr → Bool
  | .Attribute x g _ => decide (f = g) && abB x && ka sc x
  | _ => false
def hE_mk (N : List Str) (lv : Nat) (sc : Scope) (c : Str) (kes : Scope → List Expr → Bool) : Expr → Bool
  | .Call (.Name g _) (x :: xs) [] _ => decide (g = c) && isGl sc g && nmB g && (x :: xs).all nsB && decide (2 ≤ lv) && kes sc (x :: xs)
  | _ => false
def hE_fstr (N : List Str) (lv : Nat) (sc : Scope) (kes : Scope → List Expr → Bool) : Expr → Bool
  | .JoinedStr (x :: y :: xs) _ => kes sc (x :: y :: xs) && decide (xs.length ≤ 50)
  | _ => false
def hE_call (N : List Str) (lv : Nat) (sc : Scope) (s : Sg) (kes : Scope → List Expr → Bool) : Expr → Bool
  | .Call (.Name g _) (x :: xs) [] _ => decide (g = s.nm) && isGl sc g && nmB g && (x :: xs).all nsB && decide (s.lv ≤ lv) && kes sc (x :: xs)
  | _ => false
def hEs_nil (N : List Str) (lv : Nat) (sc : Scope) : List Expr → Bool
  | [] => true
  | _ => false
def hEs_cons (N : List Str) (lv : Nat) (sc : Scope) (ke : Scope → Expr → Bool) (kes : Scope → List Expr → Bool) : List Expr → Bool
  | x :: xs => nsB x && ke sc x && kes sc xs
  | _ => false
def hFs_nil (N : List Str) (lv : Nat) (sc : Scope) : List Expr → Bool
  | [] => true
  | _ => false
def hFs_cons (N : List Str) (lv : Nat) (sc : Scope) (e : E) (ke : Scope → Expr → Bool) (kes : Scope → List Expr → Bool) : List Expr → Bool
  | x :: xs => (match x with
  | .FormattedValue y k none _ => decide (k = -1) && ke sc y
  | .Constant (.str s) k p => (match e with | .str t => decide (s = t) | _ => false)
  | _ => false) && kes sc xs
  | _ => false
def hO_no (N : List Str) (lv : Nat) (sc : Scope) : Option Expr → Bool
  | none => true
  | _ => false
def hO_so (N : List Str) (lv : Nat) (sc : Scope) (ke : Scope → Expr → Bool) : Option Expr → Bool
  | some x => ke sc x
  | _ => false
def hN_lst (N : List Str) (lv : Nat) (sc : Scope) (kis : Scope → List Expr → Bool) : Expr → Bool
  | .List xs _ => kis sc xs && decide (xs.length ≤ 1000)
  | _ => false
def hN_rep (N : List Str) (lv : Nat) (sc : Scope) (ka : Scope → Expr → Bool) (kb : Scope → Expr → Bool) : Expr → Bool
  | .BinOp x .Mult y _ => ka sc x && kb sc y
  | _ => false
def hN_cat (N : List Str) (lv : Nat) (sc : Scope) (ka : Scope → Expr → Bool) (kb : Scope → Expr → Bool) : Expr → Bool
  | .BinOp x .Add y _ => ka sc x && kb sc y
  | _ => false
def hN_sl (N : List Str) (lv : Nat) (sc : Scope) (ka : Scope → Expr → Bool) (klo : Scope → Option Expr → Bool) (khi : Scope → Option Expr → Bool) : Expr → Bool
  | .Subscript x (.Slice l h none _) _ => ka sc x && klo sc l && khi sc h
  | _ => false
def hN_cp (N : List Str) (lv : Nat) (sc : Scope) (ka : Scope → Expr → Bool) : Expr → Bool
  | .Call (.Name g _) [x] [] _ => decide (g = "list") && isGl sc g && nsB x && ka sc x
  | _ => false
def hN_rng (N : List Str) (lv : Nat) (sc : Scope) (ka : Scope → Expr → Bool) : Expr → Bool
  | .Call (.Name g _) [.Call (.Name h _) [x] [] _] [] _ => decide (g = "list") && isGl sc g && decide (h = "range") && isGl sc h && nsB x && ka sc x
  | _ => false
def hN_comp (N : List Str) (lv : Nat) (sc : Scope) (p : Pt) (ks : Scope → Expr → Expr → Bool) (kc : Scope → List Expr → Bool) (ki : Scope → Expr → Bool) : Expr → Bool
  | .ListComp elt [⟨tg, it, ifs, k⟩] scope _ => decide (k = 0) && ks sc tg it && nset it && mP N (isLoc1 (relS scope sc)) p tg && blkC N sc scope (ownNm N (slots p)) && kc (relS scope sc) ifs && ki (relS scope sc) elt
  | _ => false
def hIs_nil (N : List Str) (lv : Nat) (sc : Scope) : List Expr → Bool
  | [] => true
  | _ => false
def hIs_cons (N : List Str) (lv : Nat) (sc : Scope) (ki : Scope → Expr → Bool) (kis : Scope → List Expr → Bool) : List Expr → Bool
  | x :: xs => nsB x && ki sc x && kis sc xs
  | _ => false
def isTp : Expr → Bool
  | .Tuple _ _ _ => true
  | _ => false
def hSr_r (N : List Str) (lv : Nat) (sc : Scope) (f : Str) (ke : Scope → Expr → Bool) : Expr → Bool
  | .Call (.Name g _) [x] [] _ => decide (g = f) && isGl sc g && nsB x && ke sc x
  | _ => false
def hSr_zp (N : List Str) (lv : Nat) (sc : Scope) (ka kb : Scope → Expr → Bool) : Expr → Bool
  | .Call (.Name g _) [x, y] [] _ => decide (g = "zip") && isGl sc g && nsB x && nsB y && ka sc x && kb sc y
  | _ => false
def hSr_rv (N : List Str) (lv : Nat) (sc : Scope) (ke : Scope → Expr → Bool) : Expr → Bool
  | .Call (.Name g _) [.Call (.Name h _) [x] [] _] [] _ => decide (g = "reversed") && isGl sc g && decide (h = "range") && isGl sc h && nsB x && ke sc x
  | _ => false
def hC_no (N : List Str) (lv : Nat) (sc : Scope) : List Expr → Bool
  | [] => true
  | _ => false
def hC_so (N : List Str) (lv : Nat) (sc : Scope) (ke : Scope → Expr → Bool) : List Expr → Bool
  | [x] => ke sc x
  | _ => false
mutual
def mE (N : List Str) (lv : Nat) (sc : Scope) : E → Expr → Bool
  | .var i, x0 => hE_var N lv sc i x0
  | .int i, x0 => hE_int N lv sc i x0
  | .str i, x0 => hE_str N lv sc i x0
  | .bl i, x0 => hE_bl N lv sc i x0
  | .non, x0 => hE_non N lv sc x0
  | .con x _, x0 => hE_con N lv sc x x0
  | .bin o a b, x0 => hE_bin N lv sc o (fun z0 y0 => mE N lv z0 a y0) (fun z0 y0 => mE N lv z0 b y0) x0
  | .neg a, x0 => hE_neg N lv sc (fun z0 y0 => mE N lv z0 a y0) x0
  | .cmp o a b, x0 => hE_cmp N lv sc o (fun z0 y0 => mE N lv z0 a y0) (fun z0 y0 => mE N lv z0 b y0) x0
  | .le3 a b c, x0 => hE_le3 N lv sc (fun z0 y0 => mE N lv z0 a y0) (fun z0 y0 => mE N lv z0 b y0) (fun z0 y0 => mE N lv z0 c y0) x0
  | .isN p a, x0 => hE_isN N lv sc p (fun z0 y0 => mE N lv z0 a y0) x0
  | .mem p a b, x0 => hE_mem N lv sc p (fun z0 y0 => mE N lv z0 a y0) (fun z0 y0 => mE N lv z0 b y0) x0
  | .memR p a n, x0 => hE_memR N lv sc p (fun z0 y0 => mE N lv z0 a y0) (fun z0 y0 => mE N lv z0 n y0) x0
  | .not a, x0 => hE_not N lv sc (fun z0 y0 => mE N lv z0 a y0) x0
  | .and a b, x0 => hE_and N lv sc (fun z0 y0 => mE N lv z0 a y0) (fun z0 y0 => mE N lv z0 b y0) x0
  | .or a b, x0 => hE_or N lv sc (fun z0 y0 => mE N lv z0 a y0) (fun z0 y0 => mE N lv z0 b y0) x0
  | .ite c a b, x0 => hE_ite N lv sc (fun z0 y0 => mE N lv z0 c y0) (fun z0 y0 => mE N lv z0 a y0) (fun z0 y0 => mE N lv z0 b y0) x0
  | .tup es, x0 => hE_tup N lv sc (fun z0 y0 => mEs N lv z0 es y0) x0
  | .new n, x => mN N lv sc n x
  | .ix a b, x0 => hE_ix N lv sc (fun z0 y0 => mE N lv z0 a y0) (fun z0 y0 => mE N lv z0 b y0) x0
  | .slT a lo hi, x0 => hE_slT N lv sc (fun z0 y0 => mE N lv z0 a y0) (fun z0 y0 => mO N lv z0 lo y0) (fun z0 y0 => mO N lv z0 hi y0) x0
  | .f1 f a, x0 => hE_f1 N lv sc f (fun z0 y0 => mE N lv z0 a y0) x0
  | .max2 a b, x0 => hE_max2 N lv sc (fun z0 y0 => mE N lv z0 a y0) (fun z0 y0 => mE N lv z0 b y0) x0
  | .cnt a b, x0 => hE_cnt N lv sc (fun z0 y0 => mE N lv z0 a y0) (fun z0 y0 => mE N lv z0 b y0) x0
  | .idx a b, x0 => hE_idx N lv sc (fun z0 y0 => mE N lv z0 a y0) (fun z0 y0 => mE N lv z0 b y0) x0
  | .isi a T, x0 => hE_isi N lv sc T (fun z0 y0 => mE N lv z0 a y0) x0
  | .isiC a c _, x0 => hE_isiC N lv sc c (fun z0 y0 => mE N lv z0 a y0) x0
  | .attr a f _ _, x0 => hE_attr N lv sc f (fun z0 y0 => mE N lv z0 a y0) x0
  | .mk c _ es, x0 => hE_mk N lv sc c (fun z0 y0 => mEs N lv z0 es y0) x0
  | .fstr es, x0 => hE_fstr N lv sc (fun z0 y0 => mFs N lv z0 es y0) x0
  | .call s es, x0 => hE_call N lv sc s (fun z0 y0 => mEs N lv z0 es y0) x0
def mEs (N : List Str) (lv : Nat) (sc : Scope) : Es → List Expr → Bool
  | .nil, x0 => hEs_nil N lv sc x0
  | .cons e es, x0 => hEs_cons N lv sc (fun z0 y0 => mE N lv z0 e y0) (fun z0 y0 => mEs N lv z0 es y0) x0
def mFs (N : List Str) (lv : Nat) (sc : Scope) : Es → List Expr → Bool
  | .nil, x0 => hFs_nil N lv sc x0
  | .cons e es, x0 => hFs_cons N lv sc e (fun z0 y0 => mE N lv z0 e y0) (fun z0 y0 => mFs N lv z0 es y0) x0
def mO (N : List Str) (lv : Nat) (sc : Scope) : Op → Option Expr → Bool
  | .no, x0 => hO_no N lv sc x0
  | .so e, x0 => hO_so N lv sc (fun z0 y0 => mE N lv z0 e y0) x0
def mN (N : List Str) (lv : Nat) (sc : Scope) : Nw → Expr → Bool
  | .lst is, x0 => hN_lst N lv sc (fun z0 y0 => mIs N lv z0 is y0) x0
  | .rep a b, x0 => hN_rep N lv sc (fun z0 y0 => mE N lv z0 a y0) (fun z0 y0 => mE N lv z0 b y0) x0
  | .cat a b, x0 => hN_cat N lv sc (fun z0 y0 => mE N lv z0 a y0) (fun z0 y0 => mE N lv z0 b y0) x0
  | .sl a lo hi, x0 => hN_sl N lv sc (fun z0 y0 => mE N lv z0 a y0) (fun z0 y0 => mO N lv z0 lo y0) (fun z0 y0 => mO N lv z0 hi y0) x0
  | .cp a, x0 => hN_cp N lv sc (fun z0 y0 => mE N lv z0 a y0) x0
  | .rng a, x0 => hN_rng N lv sc (fun z0 y0 => mE N lv z0 a y0) x0
  | .comp p s c i, x0 => hN_comp N lv sc p (fun z0 g0 y0 => mSr N lv z0 s g0 y0) (fun z0 y0 => mC N lv z0 c y0) (fun z0 y0 => mI N lv z0 i y0) x0
def mI (N : List Str) (lv : Nat) (sc : Scope) : It → Expr → Bool
  | .v e, x => mE N lv sc e x
  | .n n, x => mN N lv sc n x
def mIs (N : List Str) (lv : Nat) (sc : Scope) : Is → List Expr → Bool
  | .nil, x0 => hIs_nil N lv sc x0
  | .cons i is, x0 => hIs_cons N lv sc (fun z0 y0 => mI N lv z0 i y0) (fun z0 y0 => mIs N lv z0 is y0) x0
def mSr (N : List Str) (lv : Nat) (sc : Scope) : Src → Expr → Expr → Bool
  | .l e, _, x => mE N lv sc e x
  | .r e, _, x => hSr_r N lv sc "range" (fun z0 y0 => mE N lv z0 e y0) x
  | .en e, tg, x => isTp tg && hSr_r N lv sc "enumerate" (fun z0 y0 => mE N lv z0 e y0) x
  | .zp a b, tg, x => isTp tg && hSr_zp N lv sc (fun z0 y0 => mE N lv z0 a y0) (fun z0 y0 => mE N lv z0 b y0) x
  | .rv e, _, x => hSr_rv N lv sc (fun z0 y0 => mE N lv z0 e y0) x
def mC (N : List Str) (lv : Nat) (sc : Scope) : Op → List Expr → Bool
  | .no, x0 => hC_no N lv sc x0
  | .so e, x0 => hC_so N lv sc (fun z0 y0 => mE N lv z0 e y0) x0
end

/-! ### what a tree wants of the top -/
inductive Rq where
  | b (x : Str) | c (x : Str) (d : Dt) | g (s : Sg) | k (x : Str) (C : Addr) | x (x : Str) | t (C x : Str) | e (C : Str) | i (C x : Str)
def f1Rq (W : Rq → Prop) : F1 → Prop
  | .lenSet => W (.b "len") ∧ W (.b "set")
  | f => W (.b (f1Of f))
mutual
def rqE (W : Rq → Prop) : E → Prop
  | .con x d => W (.c x d)
  | .bin _ a b => rqE W a ∧ rqE W b
  | .neg a => rqE W a
  | .cmp _ a b => rqE W a ∧ rqE W b
  | .le3 a b c => rqE W a ∧ rqE W b ∧ rqE W c
  | .isN _ a => rqE W a
  | .mem _ a b => rqE W a ∧ rqE W b
  | .memR _ a b => W (.b "range") ∧ rqE W a ∧ rqE W b
  | .not a => rqE W a
  | .and a b => rqE W a ∧ rqE W b
  | .or a b => rqE W a ∧ rqE W b
  | .ite a b c => rqE W a ∧ rqE W b ∧ rqE W c
  | .tup es => rqEs W es
  | .new n => rqN W n
  | .ix a b => rqE W a ∧ rqE W b
  | .slT a l h => rqE W a ∧ rqO W l ∧ rqO W h
  | .f1 f a => f1Rq W f ∧ rqE W a
  | .max2 a b => W (.b "max") ∧ rqE W a ∧ rqE W b
  | .cnt a b => rqE W a ∧ rqE W b
  | .idx a b => rqE W a ∧ rqE W b
  | .isi a T => W (.b "isinstance") ∧ W (.b (Str.ofString T)) ∧ rqE W a
  | .isiC a x C => W (.b "isinstance") ∧ W (.k x C) ∧ rqE W a
  | .attr a _ x C => W (.k x C) ∧ rqE W a
  | .mk x C es => W (.k x C) ∧ rqEs W es
  | .fstr es => rqEs W es
  | .call s es => W (.g s) ∧ rqEs W es
  | _ => True
def rqEs (W : Rq → Prop) : Es → Prop
  | .nil => True
  | .cons e es => rqE W e ∧ rqEs W es
def rqO (W : Rq → Prop) : Op → Prop
  | .no => True
  | .so e => rqE W e
def rqN (W : Rq → Prop) : Nw → Prop
  | .lst is => rqIs W is
  | .rep a b => rqE W a ∧ rqE W b
  | .cat a b => rqE W a ∧ rqE W b
  | .sl a l h => rqE W a ∧ rqO W l ∧ rqO W h
  | .cp a => W (.b "list") ∧ rqE W a
  | .rng a => W (.b "list") ∧ W (.b "range") ∧ rqE W a
  | .comp _ s c i => rqSr W s ∧ rqO W c ∧ rqI W i
def rqI (W : Rq → Prop) : It → Prop
  | .v e => rqE W e
  | .n n => rqN W n
def rqIs (W : Rq → Prop) : Is → Prop
  | .nil => True
  | .cons i is => rqI W i ∧ rqIs W is
def rqSr (W : Rq → Prop) : Src → Prop
  | .l e => rqE W e
  | .r e => W (.b "range") ∧ rqE W e
  | .en e => W (.b "enumerate") ∧ rqE W e
  | .zp a b => W (.b "zip") ∧ rqE W a ∧ rqE W b
  | .rv e => W (.b "reversed") ∧ W (.b "range") ∧ rqE W e
end
/-- what a promise is in memory -/
def toPr (ca : Str → Addr) (g : Sg) : Pr where
  pre := fun rs M => ∃ as fp, TrsR M as rs fp ∧ fp.Nodup ∧ g.pre as
  post := fun rs M r M' => ∃ as fp res as' f' fp', TrsR M as rs fp ∧ g.pre as ∧ g.post as res as' ∧ TrR M' res r f' ∧ TrsR M' as' rs fp' ∧ (f' ++ fp').Nodup ∧ ∀ a, M' a ≠ none → a ∈ f' ++ fp'
  err := fun rs M C M' => M' = OH0 ∧ ∃ as fp nm, TrsR M as rs fp ∧ g.pre as ∧ g.err as nm ∧ C = ca nm
/-! ### small facts of trees -/
section
variable {P : Program} {w : World} {K : PySem.W.Frag} {mg : Str → Option Value} {base : Heap} {N : List Str} {sc : Scope} {F : Fm P w K mg base N sc} {x y : Expr} {pos : Pos} {xs : List Expr}
theorem ns_of (h : nsB x = true) : NS F x xs := fun j => by cases x <;> first | rfl | cases h
theorem np_of : ∀ {xs : List Expr}, xs.all nsB = true → NP F pos xs
  | [], _ => fun _ => rfl
  | x :: xs, h => fun j => by
    rw [List.all_cons, Bool.and_eq_true] at h
    rw [ns_of h.1 j]
    show (false || (backTo pos (starEach xs (F.X j).env)).any (·.1)) = false
    rw [np_of h.2 j]
    rfl
theorem gl_of {f : Str} (h : isGl sc f = true) : GL F f := fun j => by
  show (F.X j).env.scope.names.lookup f = _
  rw [F.es j]
  exact of_decide_eq_true h
theorem vis_of {f : Str} (h : isVis sc f = true) : ∀ j, Vis (F.X j).env.scope f := fun j => by
  rw [F.es j]
  unfold isVis at h
  rw [Bool.or_eq_true, Bool.or_eq_true] at h
  rcases h with (h | h) | h
  · exact .inl (of_decide_eq_true h)
  · exact .inr (.inl (of_decide_eq_true h))
  · exact .inr (.inr (of_decide_eq_true h))
/-- names that may be given things -/
def LpOk (F : Fm P w K mg base N sc) (lp : Str → Bool) : Prop := ∀ x, lp x = true → ∀ j, Loc (F.X j).env.scope x ∧ ((F.X j).fn x = true ∨ (F.X j).env.scope.names.lookup x = some .local)
def CellOk (F : Fm P w K mg base N sc) : Prop := ∀ j x, sc.names.lookup x = some .cell → (F.X j).fn x = true
theorem lp_1 : LpOk F (isLoc1 sc) := fun x h j => by
  rw [F.es j]
  exact ⟨.inl (of_decide_eq_true h), .inr (of_decide_eq_true h)⟩
theorem lp_c (hc : CellOk F) : LpOk F (isLoc sc) := fun x h j => by
  unfold isLoc at h
  rw [Bool.or_eq_true] at h
  rw [F.es j]
  exact h.elim (fun z => ⟨.inl (of_decide_eq_true z), .inr (of_decide_eq_true z)⟩) fun z => ⟨.inr (of_decide_eq_true z), .inl (hc j x (of_decide_eq_true z))⟩
theorem pix_of (h : pixB x = true) : PlainIx x := by intro o i; cases x <;> first | rfl | cases h
theorem ab_of {f : Str} (h : abB x = true) : AB F x f := fun j => by cases x <;> first | rfl | cases h
theorem plT_of (h : plT x = true) : ∀ j whole, isTrue x (F.X j).env whole = (do let v ← whole; standAt x.pos; holding [v] (truthy v)) := fun j whole => by
  cases x with
  | UnaryOp op e p => cases op <;> first | rfl | cases h
  | _ => first | rfl | cases h
theorem fw1_of (h : nsB x = true) : FW F pos [x] := fun j => by
  rw [ns_of h j]
  rfl
theorem nm_of {f : Str} (h : nmB f = true) : (f == ("__debug__" : Str)) = false ∧ (f == ("__classdict__" : Str)) = false ∧ f ≠ "__name__" := by
  unfold nmB at h
  rw [Bool.and_eq_true, Bool.and_eq_true] at h
  refine ⟨by simpa using h.1.1, by simpa using h.1.2, fun e => ?_⟩
  rw [e] at h
  simp at h
end
end DD
namespace L2
open PySem PySem.Spec PyProof.Rows
theorem tuple_mul1 (l : Addr) (items : Array Value) (n : Nat) (dd : Option Addr) (sl : Array (Option Value)) (x : Int) (u : Tok) (c0 : (decide (x < -(2 ^ 63)) || decide (x ≥ 2 ^ 63)) = false) (c1 : (items.isEmpty || x == 1) = true) :
    Meets (Builtin.«tuple.__mul__» ⟨[.ref l, .int x u], []⟩) (fun _ R s => s.heap.get? l = some { cls := .type "tuple", dict := dd, data := .seq items n, slots := sl } ∧
      R (.ok (.ret (Value.ref l))) s) :=
  .of_wp fun prog w A R s h => by
    obtain ⟨hp, g, d, tk, os⟩ := s
    obtain ⟨hl, h⟩ := h
    have f1 := AutoSeq1.idx_int
    wp_walk using wpAny_loadPart' hl
    repeat (first
      | (refine wpAny_ite_false (decide_eq_false (by rw [c0]; exact Bool.false_ne_true)) ?_; wp_walk using wpAny_loadPart' hl)
      | (refine wpAny_ite_true (decide_eq_true (by rw [c1])) ?_; wp_walk using wpAny_loadPart' hl))
    exact ⟨_, rfl, h⟩
theorem tuple_mul0 (l : Addr) (items : Array Value) (n : Nat) (dd : Option Addr) (sl : Array (Option Value)) (x : Int) (u : Tok) (c0 : (decide (x < -(2 ^ 63)) || decide (x ≥ 2 ^ 63)) = false) (c1 : (items.isEmpty || x == 1) = false) (c2 : (decide (x ≤ 0) || items.isEmpty) = true) :
    Meets (Builtin.«tuple.__mul__» ⟨[.ref l, .int x u], []⟩) (fun _ R s => s.heap.get? l = some { cls := .type "tuple", dict := dd, data := .seq items n, slots := sl } ∧
      R (.ok (.ret (Value.ref s.heap.objs.size))) { s with heap := s.heap.push { cls := Value.type "tuple", data := Data.seq #[] }, toks := s.toks }) :=
  .of_wp fun prog w A R s h => by
    obtain ⟨hp, g, d, tk, os⟩ := s
    obtain ⟨hl, h⟩ := h
    have f1 := AutoSeq1.idx_int
    wp_walk using wpAny_loadPart' hl
    repeat (first
      | (refine wpAny_ite_false (decide_eq_false (by rw [c0]; exact Bool.false_ne_true)) ?_; wp_walk using wpAny_loadPart' hl)
      | (refine wpAny_ite_false (decide_eq_false (by rw [c1]; exact Bool.false_ne_true)) ?_; wp_walk using wpAny_loadPart' hl)
      | (refine wpAny_ite_true (decide_eq_true (by rw [c2])) ?_; wp_walk using wpAny_loadPart' hl))
    exact ⟨_, rfl, h⟩
def rRepTA (K : PySem.W.Frag) : R2 := fun x y H Q => ∃ l k xs, x = .ref l ∧ y = .int k ∧ SqT K H l xs ∧ 0 ≤ k ∧ k ≤ 1000 ∧ xs.length ≤ 1000 ∧ (xs = [] ∨ k = 1 → Q (.ref l) H) ∧ (xs ≠ [] → k ≠ 1 → ∀ p, H p = none → Q (.ref p) (upd H p (.tup (List.replicate k.toNat xs).flatten)))
section
variable {X : Cx}
theorem op_repTA : OpR X (binaryOp .Mult) (rRepTA X.K) := by
  intro pins s σ H x y v u Q I rx ry h
  obtain ⟨l, k, xs, rfl, rfl, hT, h1, h2, hz, qs, q⟩ := h
  by_cases hbig : xs ≠ [] ∧ 2 ≤ k
  · exact op_repT pins s σ H _ _ v u Q I rx ry ⟨l, k, xs, rfl, rfl, hT, hbig.1, hbig.2, h2, hz, q hbig.1 (by omega)⟩
  cases rx
  obtain ⟨t, rfl⟩ := ry
  obtain ⟨its, r, ⟨⟨cls, dd, data, sl⟩, ho, hc, n, hd⟩, hs⟩ := I.tuple hT
  simp only at hc hd
  subst hc hd
  have hle : its.length = xs.length := r.length.symm
  have c0 : (decide (k < -(2 ^ 63)) || decide (k ≥ 2 ^ 63)) = false := by
    rw [decide_eq_false (by omega), decide_eq_false (by omega)] <;> rfl
  by_cases hone : xs = [] ∨ k = 1
  · have c1 : (its.toArray.isEmpty || k == 1) = true := by
      rcases hone with e | e
      · subst e
        have : its = [] := List.eq_nil_of_length_eq_zero hle
        subst this
        rfl
      · subst e
        rw [Bool.or_eq_true]
        exact .inr rfl
    refine wpAny_binaryOp_repeat_ref (T := "tuple") (U := "int") (by decide) ⟨_, ho, rfl⟩ (fun s' => typeIs_int s' k t) noFill_tuple_mul F.fills_int_mul F.slot_int_rmul repeat_tuple F.slot_int_index.lookup
      (call_meets F.slot_int_rmul (typeIs_int s k t) F.entry_int_rmul (F.args_int_rmul_2 _ _) (int_rmul_tuple k t l its.toArray n dd sl)
        ⟨ho, rfl, ⟨_, ho, rfl⟩, call_meets F.slot_tuple_mul ⟨_, ho, rfl⟩ F.entry_tuple_mul (F.args_tuple_mul_2 _ _) (tuple_mul1 l its.toArray n dd sl k t c0 c1) ⟨ho, ?_⟩⟩)
    exact ⟨.ref l, H, I, rfl, qs hone⟩
  · have hx : xs ≠ [] := fun z => hone (.inl z)
    have hk1 : k ≠ 1 := fun z => hone (.inr z)
    have hk : k = 0 := by
      have : ¬ 2 ≤ k := fun z => hbig ⟨hx, z⟩
      omega
    subst hk
    have hn : its ≠ [] := fun e => hx (by
      rw [e] at hle
      exact List.eq_nil_of_length_eq_zero hle.symm)
    have hi : its.toArray.isEmpty = false := by
      cases its with
      | nil => exact absurd rfl hn
      | cons a b => rfl
    have c1 : (its.toArray.isEmpty || (0 : Int) == 1) = false := by rw [hi]; rfl
    have c2 : (decide ((0 : Int) ≤ 0) || its.toArray.isEmpty) = true := rfl
    refine wpAny_binaryOp_repeat_ref (T := "tuple") (U := "int") (by decide) ⟨_, ho, rfl⟩ (fun s' => typeIs_int s' 0 t) noFill_tuple_mul F.fills_int_mul F.slot_int_rmul repeat_tuple F.slot_int_index.lookup
      (call_meets F.slot_int_rmul (typeIs_int s 0 t) F.entry_int_rmul (F.args_int_rmul_2 _ _) (int_rmul_tuple 0 t l its.toArray n dd sl)
        ⟨ho, rfl, ⟨_, ho, rfl⟩, call_meets F.slot_tuple_mul ⟨_, ho, rfl⟩ F.entry_tuple_mul (F.args_tuple_mul_2 _ _) (tuple_mul0 l its.toArray n dd sl 0 t c0 c1 c2) ⟨ho, ?_⟩⟩)
    have q' := q hx (by decide) s.heap.objs.size (I.hok.fresh (Nat.le_refl _))
    refine ⟨.ref s.heap.objs.size, _, I.laid (t' := s.toks) (o := .tup []) (fun b ob q => Heap.get?_push_of_some _ q) (Nat.le_refl _) ?_, rfl, q'⟩
    exact ⟨Nat.zero_le _, _, .nil, IsTup.new _ _⟩
end
end L2
namespace DD
open PySem PySem.Spec PyProof.Rows L2 DL
/-- the class whose objects carry four fields: what the top knows of it -/
structure Kls (P : Program) (w : World) (K : PySem.W.Frag) (mg : Str → Option Value) (base : Heap) (x : Str) (C : Addr) : Prop where
  here : mg x = some (.ref C)
  cls : Cls K C
  na : ∀ f, f ∈ hallF → NoAttr K C f
  mak : C8.Mak P w K mg base 1 x C (fun vs H Q _ => ∃ o a b c d dx, vs = [.ref o, a, b, c, d] ∧ H o = some (.ins C dx []) ∧ ∀ H', H' = upd H o (.ins C dx [("gates", a), ("rows", b), ("stands", c), ("stores", d)]) → Q .non H') []
  is1 : PySem.W.findIn K (.ref C) "__class__" = some (some (.builtin "object.__class__"))
  is2 : PySem.W.specialIn K (.builtin "object.__class__") "__get__" = some (some (.builtin "getset_descriptor.__get__"))
  is3 : PySem.W.takesIn K (.builtin "object.__class__") = some true
  is4 : PySem.W.mroIn K C (.type "object") = some true
/-- what the caught error's class is known by -/
structure Ec (K : PySem.W.Frag) (D : Addr) : Prop where
  e : ExcC K D
  i : (PySem.W.clsIn K D).isSome = true
  v : PySem.W.kitOne K (.ref D) (.type "ValueError") = some true
/-- what the top owes to a tree -/
def Wd (P : Program) (w : World) (K : PySem.W.Frag) (mg : Str → Option Value) (base : Heap) (ca : Str → Addr) : Rq → Prop
  | .b x => mg x = none
  | .c x d => ∃ v u, mg x = some u ∧ RelV v u ∧ ∀ H, DA K H d v
  | .g s => ∃ ps, Def P w K mg base (L2.CX P w) s.lv s.nm ps (toPr ca s)
  | .k x C => Kls P w K mg base x C
  | .x x => OwnE K mg x (ca x)
  | .t C x => PySem.W.exmOne K (.ref (ca C)) (.ref (ca x)) = some (subE C x)
  | .e C => Ec K (ca C)
  | .i C x => PySem.W.kitOne K (.ref (ca C)) (.ref (ca x)) = some (subE C x)
section
variable {P : Program} {w : World} {K : PySem.W.Frag} {mg : Str → Option Value} {base : Heap} {N : List Str} {sc : Scope} {F : Fm P w K mg base N sc} {ca : Str → Addr}
variable {ρ : Rho} {M : OH} {v : Env} {x y z : Expr} {pos : Pos} {r r1 r2 : Sl} {e a b c : E}
/-- where an owned thing stands among the names' -/
def Rt (M : OH) (v : Env) (ρ : Rho) (e : E) (t : Tr) (f : List Addr) : Prop := isO t = true → ∃ i ti si g, rootE e = some i ∧ v[i]? = some ti ∧ isO ti = true ∧ ρ[i]? = some si ∧ TrR M ti si g ∧ f.Sublist g
def RV (M : OH) (v : Env) (ρ : Rho) (e : E) (Q : Tr → Prop) : Sl → OH → Prop := fun r M' => M' = M ∧ ∃ t f, TrR M t r f ∧ Rt M v ρ e t f ∧ Q t
/-- data as it comes -/
theorem rvD {Q : Tr → Prop} {d : Dt} (q : Q (.dat d)) : RV M v ρ e Q (.dat d) M := ⟨rfl, .dat d, [], .dat, (fun z => nomatch z), q⟩
def Sub (M' M : OH) : Prop := ∀ p xs, M' p = some xs → M p = some xs
theorem Sub.refl (M : OH) : Sub M M := fun _ _ z => z
def ExOk (F : Fm P w K mg base N sc) (ca : Str → Addr) (X : Str → Env → Prop) : Prop := ∀ C v ρ M, X C v → EV M v ρ → ∃ M', Sub M' M ∧ F.ex (ca C) ρ M'
theorem exNo : ExOk F ca noX := fun _ _ _ _ h => h.elim
/-- fewer owned lists behind an expression -/
theorem EW.shr {e : Expr} {Q : Sl → OH → Prop} (h : EW F ρ M e fun r M' => ∃ M'', Sub M'' M' ∧ Q r M'') : EW F ρ M e Q := .mk fun H 𝓗 σ c hE => (h.run H 𝓗 σ c hE).mono fun v 𝓗' ⟨H', M', r, c', s', q, M'', hs, hq⟩ => ⟨H', M'', r, c'.less hs, s', q, hq⟩
theorem AW.mono' {es : List Expr} {Q Q' : List Sl → OH → Prop} (h : AW F ρ M es Q) (m : ∀ r M', Q r M' → Q' r M') : AW F ρ M es Q' := AW.mono h m
/-- what a tree of ours says of the text's -/
structure SE (P : Program) (w : World) (K : PySem.W.Frag) (mg : Str → Option Value) (base : Heap) (ca : Str → Addr) (e : E) : Prop where
  ew : ∀ {N : List Str} {sc : Scope} (F : Fm P w K mg base N sc) (x : Expr) (ρ : Rho) (M : OH) (v : Env) (X : Str → Env → Prop) (Q : Tr → Prop), mE N F.lv sc e x = true → rqE (Wd P w K mg base ca) e → EV M v ρ → ExOk F ca X → wpE X v e Q → EW F ρ M x (RV M v ρ e Q)
  tw : ∀ {N : List Str} {sc : Scope} (F : Fm P w K mg base N sc) (x : Expr) (ρ : Rho) (M : OH) (v : Env) (X : Str → Env → Prop) (Q : Bool → Prop), mE N F.lv sc e x = true → rqE (Wd P w K mg base ca) e → EV M v ρ → ExOk F ca X → wpE X v e (asB fun b => Q b) → TW F ρ M x fun b M' => M' = M ∧ Q b
  ww : ∀ {N : List Str} {sc : Scope} (F : Fm P w K mg base N sc) (o : BoolOp) (xs : List Expr) (p : Pos) (ρ : Rho) (M : OH) (v : Env) (X : Str → Env → Prop) (Q : Bool → Prop), mE N F.lv sc e (.BoolOp o xs p) = true → rqE (Wd P w K mg base ca) e → EV M v ρ → ExOk F ca X → wpE X v e (asB fun b => Q b) → WW F ρ M (.BoolOp o xs p) fun b M' => M' = M ∧ Q b
theorem rv_tw {Q : Bool → Prop} (h : EW F ρ M x (RV M v ρ e (asB fun b => Q b))) (hp : plT x = true) : TW F ρ M x fun b M' => M' = M ∧ Q b := TW.ofB (h.mono fun r M' ⟨e1, t, f, q1, _, q2⟩ => by
  obtain ⟨i, e2, q3⟩ := asB_of q1 q2
  exact ⟨i, e2, e1, q3⟩) (plT_of hp)
/-- a tree that is no test's -/
theorem SE.plain (h : ∀ {N : List Str} {sc : Scope} (F : Fm P w K mg base N sc) (x : Expr) (ρ : Rho) (M : OH) (v : Env) (X : Str → Env → Prop) (Q : Tr → Prop), mE N F.lv sc e x = true → rqE (Wd P w K mg base ca) e → EV M v ρ → ExOk F ca X → wpE X v e Q → EW F ρ M x (RV M v ρ e Q))
    (hp : ∀ N lv sc x, mE N lv sc e x = true → plT x = true) : SE P w K mg base ca e where
  ew := h
  tw := fun F x ρ M v X Q h1 h2 h3 h4 h5 => rv_tw (h F x ρ M v X _ h1 h2 h3 h4 h5) (hp _ _ _ _ h1)
  ww := fun F o xs p ρ M v X Q h1 h2 h3 h4 h5 => by cases hp _ _ _ _ h1
theorem rv0 {Q : Tr → Prop} {d : Dt} (q : Q (.dat d)) (h : ED F ρ M x (.dat d)) : EW F ρ M x (RV M v ρ e Q) := h.ew (rvD q)
/-! names and constants -/
theorem s_var {i : Nat} : SE P w K mg base ca (.var i) := .plain (fun F x ρ M v X Q h _ he _ hw => by
    rw [mE] at h; unfold hE_var at h
    split at h
    rotate_left
    · cases h
    rename_i id pos
    simp only [Bool.and_eq_true] at h
    have hw : getV v i Q := hw
    unfold getV at hw
    obtain ⟨n1, n2, _⟩ := nm_of h.2
    cases ev : v[i]? with
    | none => rw [ev] at hw; exact hw.elim
    | some t =>
      rw [ev] at hw
      have hu : t ≠ .un := fun z => by rw [z] at hw; exact hw
      obtain ⟨s, f, e1, e2⟩ := he.get ev hu
      have hk : known s := by cases e2 <;> trivial
      refine (ed_var (i := i) e1 hk (of_decide_eq_true h.1.1) (vis_of h.1.2) n1 n2).ew ⟨rfl, t, f, e2, fun z => ⟨i, t, s, f, rfl, ev, z, e1, e2, List.Sublist.refl _⟩, ?_⟩
      cases t with
      | un => exact absurd rfl hu
      | dat d => exact hw
      | own ts => exact hw) (fun N lv sc x h => by rw [mE] at h; unfold hE_var at h; split at h <;> first | rfl | cases h)
theorem s_int {i : Int} : SE P w K mg base ca (.int i) := .plain (fun F x ρ M v X Q h _ _ _ hw => by
    rw [mE] at h; unfold hE_int at h
    split at h
    rotate_left
    · cases h
    simp only [decide_eq_true_eq] at h
    subst h
    exact rv0 hw ed_int) (fun N lv sc x h => by rw [mE] at h; unfold hE_int at h; split at h <;> first | rfl | cases h)
theorem s_str {i : Str} : SE P w K mg base ca (.str i) := .plain (fun F x ρ M v X Q h _ _ _ hw => by
    rw [mE] at h; unfold hE_str at h
    split at h
    rotate_left
    · cases h
    simp only [decide_eq_true_eq] at h
    subst h
    exact rv0 hw ed_str) (fun N lv sc x h => by rw [mE] at h; unfold hE_str at h; split at h <;> first | rfl | cases h)
theorem s_bl {i : Bool} : SE P w K mg base ca (.bl i) := .plain (fun F x ρ M v X Q h _ _ _ hw => by
    rw [mE] at h; unfold hE_bl at h
    split at h
    rotate_left
    · cases h
    simp only [decide_eq_true_eq] at h
    subst h
    exact rv0 hw ed_bl) (fun N lv sc x h => by rw [mE] at h; unfold hE_bl at h; split at h <;> first | rfl | cases h)
theorem s_non : SE P w K mg base ca .non := .plain (fun F x ρ M v X Q h _ _ _ hw => by
    rw [mE] at h; unfold hE_non at h
    split at h
    rotate_left
    · cases h
    exact rv0 hw ed_non) (fun N lv sc x h => by rw [mE] at h; unfold hE_non at h; split at h <;> first | rfl | cases h)
theorem s_con {n : Str} {d : Dt} : SE P w K mg base ca (.con n d) := .plain (fun F x ρ M v X Q h hr _ _ hw => by
    rw [mE] at h; unfold hE_con at h
    split at h
    rotate_left
    · cases h
    simp only [Bool.and_eq_true, decide_eq_true_eq] at h
    obtain ⟨⟨rfl, h2⟩, h3⟩ := h
    obtain ⟨u, z, e1, e2, e3⟩ := hr
    exact rv0 hw (ed_glob e1 e2 (fun H => e3 H) (gl_of h2) (nm_of h3).1)) (fun N lv sc x h => by rw [mE] at h; unfold hE_con at h; split at h <;> first | rfl | cases h)
/-! operations -/
theorem tw_op2 {t : R2} {e a b : Expr} {Q : Bool → OH → Prop} (hp : ∀ i, PT (F.X i) e (tTest (tOp t (uE F a) (uE F b)))) (ha : EW F ρ M a fun x M1 => EW F ρ M1 b fun y M2 => Op2 F t x y M2 fun r' M' => ∃ k, r' = .dat (.bl k) ∧ Q k M') : TW F ρ M e Q := .mk fun H 𝓗 σ c hE => by
  refine uT.by hp ((ha.run H 𝓗 σ c hE).mono fun u 𝓗1 ⟨H1, M1, x, c1, s1, q1, hb⟩ => ?_)
  refine (hb.run H1 𝓗1 σ c1 (hE.mono s1)).mono fun v 𝓗2 ⟨H2, M2, y, c2, s2, q2, ho⟩ => ?_
  refine ho H2 𝓗2 u v _ c2 (q1.mono s2) q2 fun v' 𝓗' ⟨H3, M3, z, c3, s3, q3, k, e1, q⟩ => ?_
  subst e1
  exact ⟨k, q3, H3, M3, c3, (s1.trans s2).trans s3, q⟩
theorem Op2.mono {t : R2} {Q Q' : Sl → OH → Prop} (h : Op2 F t r1 r2 M Q) (m : ∀ r M', Q r M' → Q' r M') : Op2 F t r1 r2 M Q' := fun H 𝓗 u v R c q1 q2 k => h H 𝓗 u v R c q1 q2 fun v' 𝓗' ⟨H', M', r, a, b, d, q⟩ => k v' 𝓗' ⟨H', M', r, a, b, d, m _ _ q⟩
def orR (r s : R2) : R2 := fun x y H Q => r x y H Q ∨ s x y H Q
theorem opOr {X : Cx} {f : Value → Value → Sem Value} {r s : R2} (h1 : OpR X f r) (h2 : OpR X f s) : OpR X f (orR r s) := fun pins st σ H x y v u Q I rx ry h => h.elim (h1 pins st σ H x y v u Q I rx ry) (h2 pins st σ H x y v u Q I rx ry)
theorem Op2.l {t s : R2} {Q : Sl → OH → Prop} (h : Op2 F t r1 r2 M Q) : Op2 F (orR t s) r1 r2 M Q := fun H 𝓗 u v R c q1 q2 k => .inl (h H 𝓗 u v R c q1 q2 k)
theorem Op2.rr {t s : R2} {Q : Sl → OH → Prop} (h : Op2 F s r1 r2 M Q) : Op2 F (orR t s) r1 r2 M Q := fun H 𝓗 u v R c q1 q2 k => .inr (h H 𝓗 u v R c q1 q2 k)
theorem fCatA (i : F.ι) : OpR (F.X i) (binaryOp .Add) (rCatA K) := by have h := op_catA (X := F.X i); rw [F.eK i] at h; exact h
theorem op2_catT {as bs : List Dt} (hz : as.length + bs.length ≤ 90000) : Op2 F (rCatA K) (.dat (.tup as)) (.dat (.tup bs)) M fun r' M' => r' = .dat (.tup (as ++ bs)) ∧ M' = M := fun H 𝓗 u v Q' c q1 q2 k => by
  obtain ⟨p, vs, rfl, e2, e3⟩ := tup_seq c q1
  obtain ⟨p', ws, rfl, f2, f3⟩ := tup_seq c q2
  have g1 := SlsOk.das.mp e3
  have g2 := SlsOk.das.mp f3
  have l1 := g1.len
  have l2 := g2.len
  refine ⟨p, p', vs, ws, rfl, rfl, e2, f2, sz5 (by omega), fun z => ?_, fun _ z => ?_, fun _ _ p2 hp => ?_⟩
  · subst z
    have : as = [] := List.length_eq_zero_iff.mp (by simpa using l1.symm)
    subst this
    exact here c k q2
  · subst z
    have : bs = [] := List.length_eq_zero_iff.mp (by simpa using l2.symm)
    subst this
    simp only [List.append_nil] at k
    exact here c k q1
  · obtain ⟨c2, s2⟩ := c.newF (o := .tup (vs ++ ws)) hp
    refine k _ _ ⟨_, M, _, c2, s2, ?_, rfl, rfl⟩
    show DA K _ (.tup (as ++ bs)) _
    unfold DA
    refine ⟨p2, vs ++ ws, rfl, SqT.of upd_same, ?_⟩
    exact DAs.of (paired_append (g1.mono s2).paired (g2.mono s2).paired)
theorem fRepT (i : F.ι) : OpR (F.X i) (binaryOp .Mult) (rRepTA K) := by have h := op_repTA (X := F.X i); rw [F.eK i] at h; exact h
theorem op2_repT {as : List Dt} {j : Int} (h1 : 0 ≤ j) (h2 : j ≤ 1000) (hz : as.length ≤ 1000) : Op2 F (rRepTA K) (.dat (.tup as)) (.dat (.int j)) M fun r' M' => r' = .dat (.tup (List.replicate j.toNat as).flatten) ∧ M' = M := fun H 𝓗 u v Q' c q1 q2 k => by
  obtain ⟨p, vs, rfl, e2, e3⟩ := tup_seq c q1
  have hv : v = .int j := q2
  subst hv
  have g1 := SlsOk.das.mp e3
  have l1 := g1.len
  refine ⟨p, j, vs, rfl, rfl, e2, h1, h2, by omega, fun z => ?_, fun _ _ p2 hp => ?_⟩
  · have e : (List.replicate j.toNat as).flatten = as := by
      rcases z with z | z
      · subst z
        have : as = [] := List.length_eq_zero_iff.mp (by simpa using l1.symm)
        subst this
        simp
      · subst z
        simp
    simp only [e] at k
    exact here c k q1
  · obtain ⟨c2, s2⟩ := c.newF (o := .tup (List.replicate j.toNat vs).flatten) hp
    refine k _ _ ⟨_, M, _, c2, s2, ?_, rfl, rfl⟩
    show DA K _ (.tup _) _
    unfold DA
    refine ⟨p2, _, rfl, SqT.of upd_same, ?_⟩
    exact DAs.of (paired_rep (g1.mono s2).paired j.toNat)
def r2b (K : PySem.W.Frag) : Bo → R2
  | .add => orR (rI0 fun i j => .int (i + j)) (rCatA K)
  | .sub => rI0 fun i j => .int (i - j)
  | .mul => orR (rI CMul fun i j => .int (i * j)) (rRepTA K)
  | .mod => rI (fun _ j => 0 < j) fun i j => .int (i % j)
  | .div => rI CDiv fun i j => .int (i / j)
  | .pow => rI CPow fun i j => .int (i ^ j.toNat)
  | .shl => rI CPow fun i j => .int (i * 2 ^ j.toNat)
  | .shr => rI (fun _ j => 0 ≤ j) fun i j => .int (i / 2 ^ j.toNat)
  | .band => rI0 fun i j => .int (Builtin.bitAnd i j)
end
end DD
namespace DD
open PySem PySem.Spec PyProof.Rows L2 DL
section
variable {P : Program} {w : World} {K : PySem.W.Frag} {mg : Str → Option Value} {base : Heap} {N : List Str} {sc : Scope} {F : Fm P w K mg base N sc} {ca : Str → Addr}
variable {ρ : Rho} {M : OH} {v : Env} {x y z : Expr} {pos : Pos} {r r1 r2 : Sl} {e a b c : E}
theorem TrR.dat_of {t : Tr} {d : Dt} {f : List Addr} (h : TrR M t (.dat d) f) : t = .dat d ∧ f = [] := by cases h; exact ⟨rfl, rfl⟩
/-! ### slots apart -/
theorem EnvR.sub {fp : List Addr} (h : EnvR M v ρ fp) {i : Nat} {t : Tr} {s : Sl} {g : List Addr} (e1 : v[i]? = some t) (e2 : ρ[i]? = some s) (r : TrR M t s g) : g.Sublist fp := by
  induction h generalizing i with
  | nil => simp at e1
  | un _ ih =>
    cases i with
    | zero => cases (show some Tr.un = some t from e1); cases r
    | succ i => exact ih (by simpa using e1) (by simpa using e2)
  | cons h _ ih =>
    cases i with
    | zero =>
      obtain rfl := Option.some.inj (show some _ = some t from e1)
      obtain rfl := Option.some.inj (show some _ = some s from e2)
      obtain ⟨_, q⟩ := h.det r fun _ _ => rfl
      subst q
      exact List.sublist_append_left _ _
    | succ i => exact (ih (by simpa using e1) (by simpa using e2)).trans (List.sublist_append_right _ _)
theorem EnvR.apart {fp : List Addr} (h : EnvR M v ρ fp) (hn : fp.Nodup) {i j : Nat} {t t' : Tr} {s s' : Sl} {g g' : List Addr} (hij : i ≠ j) (e1 : v[i]? = some t) (e2 : ρ[i]? = some s) (r : TrR M t s g) (e1' : v[j]? = some t') (e2' : ρ[j]? = some s') (r' : TrR M t' s' g') : ∀ a ∈ g, a ∉ g' := by
  induction h generalizing i j with
  | nil => simp at e1
  | un _ ih =>
    cases i with
    | zero => cases (show some Tr.un = some t from e1); cases r
    | succ i =>
      cases j with
      | zero => cases (show some Tr.un = some t' from e1'); cases r'
      | succ j => exact ih hn (fun z => hij (congrArg (· + 1) z)) (by simpa using e1) (by simpa using e2) (by simpa using e1') (by simpa using e2')
  | cons h h' ih =>
    obtain ⟨n1, n2, n3⟩ := List.nodup_append.mp hn
    cases i with
    | zero =>
      cases j with
      | zero => exact absurd rfl hij
      | succ j =>
        obtain rfl := Option.some.inj (show some _ = some t from e1)
        obtain rfl := Option.some.inj (show some _ = some s from e2)
        obtain ⟨_, q⟩ := h.det r fun _ _ => rfl
        subst q
        exact fun a ha hb => n3 a ha a ((h'.sub (by simpa using e1') (by simpa using e2') r').mem hb) rfl
    | succ i =>
      cases j with
      | zero =>
        obtain rfl := Option.some.inj (show some _ = some t' from e1')
        obtain rfl := Option.some.inj (show some _ = some s' from e2')
        obtain ⟨_, q⟩ := h.det r' fun _ _ => rfl
        subst q
        exact fun a ha hb => n3 a hb a ((h'.sub (by simpa using e1) (by simpa using e2) r).mem ha) rfl
      | succ j => exact ih n2 (fun z => hij (congrArg (· + 1) z)) (by simpa using e1) (by simpa using e2) (by simpa using e1') (by simpa using e2')
/-! ### operations -/
theorem hOp (o : Bo) (i : F.ι) : OpR (F.X i) (binaryOp (bopOf o)) (r2b K o) := by
  cases o with
  | add => exact opOr op_add (fCatA i)
  | sub => exact op_sub
  | mul => exact opOr op_mul (fRepT i)
  | mod => exact op_mod
  | div => exact op_fdiv
  | pow => exact op_pow
  | shl => exact op_shl
  | shr => exact op_shr
  | band => exact op_and
theorem o2d {t : R2} {d : Dt} {Q : Tr → Prop} (h : Op2 F t r1 r2 M fun r' M' => r' = .dat d ∧ M' = M) (q : Q (.dat d)) : Op2 F t r1 r2 M (RV M v ρ e Q) := Op2.mono h fun r M' ⟨a, b⟩ => by subst a b; exact rvD q
theorem o2b {t : R2} {k : Bool} {Q : Tr → Prop} (h : Op2 F t r1 r2 M fun r' M' => r' = .dat (.bl k) ∧ M' = M) (q : Q (.dat (.bl k))) : Op2 F t r1 r2 M (fun r' M' => M' = M ∧ ∃ k, r' = .dat (.bl k) ∧ Q (.dat (.bl k))) := Op2.mono h fun r M' ⟨a, b⟩ => ⟨b, k, a, q⟩
theorem binQ_ok {o : Bo} {Q : Tr → Prop} {t u : Tr} {f g : List Addr} (h : binQ o Q t u) (q1 : TrR M t r1 f) (q2 : TrR M u r2 g) : Op2 F (r2b K o) r1 r2 M (RV M v ρ e Q) := by
  unfold binQ at h
  split at h
  · cases q1; cases q2
    cases o <;> simp only at h
    · exact Op2.l (o2d (op2_I0 fun _ => by unfold DA; rfl) h)
    · exact o2d (op2_I0 fun _ => by unfold DA; rfl) h
    · exact Op2.l (o2d (op2_I h.1 fun _ => by unfold DA; rfl) h.2)
    · exact o2d (op2_I h.1 fun _ => by unfold DA; rfl) h.2
    · exact o2d (op2_I h.1 fun _ => by unfold DA; rfl) h.2
    · exact o2d (op2_I h.1 fun _ => by unfold DA; rfl) h.2
    · exact o2d (op2_I h.1 fun _ => by unfold DA; rfl) h.2
    · exact o2d (op2_I h.1 fun _ => by unfold DA; rfl) h.2
    · exact o2d (op2_I0 fun _ => by unfold DA; rfl) h
  · cases q1; cases q2
    cases o <;> simp only at h
    exact Op2.rr (o2d (op2_catT h.1) h.2)
  · cases q1; cases q2
    cases o <;> simp only at h
    exact Op2.rr (o2d (op2_repT h.1 h.2.1 h.2.2.1) h.2.2.2)
  · exact h.elim
theorem s_bin {o : Bo} (ha : SE P w K mg base ca a) (hb : SE P w K mg base ca b) : SE P w K mg base ca (.bin o a b) := .plain (fun F x ρ M v X Q h hr he hx hw => by
    rw [mE] at h; unfold hE_bin at h
    split at h
    rotate_left
    · cases h
    simp only [Bool.and_eq_true, decide_eq_true_eq] at h
    obtain ⟨⟨rfl, h1⟩, h2⟩ := h
    refine ew_op2 (t := r2b K o) (fun i => pe_op (hOp o i) (pe_u i) (pe_u i)) ((ha.ew F _ ρ M v X _ h1 hr.1 he hx hw).mono fun r1 M1 ⟨e1, t, f, q1, _, hw1⟩ => ?_)
    subst e1
    refine (hb.ew F _ ρ M1 v X _ h2 hr.2 he hx hw1).mono fun r2 M2 ⟨e2, u, g, q2, _, hw2⟩ => ?_
    subst e2
    exact binQ_ok hw2 q1 q2) (fun N lv sc x h => by rw [mE] at h; unfold hE_bin at h; split at h <;> first | rfl | cases h)
theorem s_neg (ha : SE P w K mg base ca a) : SE P w K mg base ca (.neg a) := .plain (fun F x ρ M v X Q h hr he hx hw => by
    rw [mE] at h; unfold hE_neg at h
    split at h
    rotate_left
    · cases h
    refine .mk fun H 𝓗 σ c hE => ?_
    refine uE.by (fun j => pe_un un_neg (pe_u j)) (((ha.ew F _ ρ M v X _ h hr he hx hw).run H 𝓗 σ c hE).mono fun u 𝓗1 ⟨H1, M1, r1, c1, s1, q1, e1, t, f, q2, _, hw1⟩ => ?_)
    subst e1
    obtain ⟨i, e2, hw2⟩ := asI_of q2 hw1
    subst e2
    exact ⟨i, q1, H1, _, _, c1, s1, (by show DA K H1 _ _; unfold DA; rfl), rvD hw2⟩) (fun N lv sc x h => by rw [mE] at h; unfold hE_neg at h; split at h <;> first | rfl | cases h)
/-! ### comparisons -/
def r2c (K : PySem.W.Frag) : Co → R2
  | .lt => rI0 fun i j => .bl (decide (i < j))
  | .le => rI0 fun i j => .bl (decide (i ≤ j))
  | .gt => rI0 fun i j => .bl (decide (j < i))
  | .ge => rI0 fun i j => .bl (decide (j ≤ i))
  | .eq => rEqD K
  | .ne => rNeD K
theorem hCo (o : Co) (i : F.ι) : OpR (F.X i) (compareOp (copOf o)) (r2c K o) := by
  cases o with
  | lt => exact op_lt
  | le => exact op_le
  | gt => exact op_gt
  | ge => exact op_ge
  | eq => exact fEqD i
  | ne => exact fNeD i
theorem dps_toD {H : Hp} {ts : List Tr} {vs : List V} {n : Nat} (h : DAs K H (ts.map toD) vs) (ok : ∀ d ∈ ts.map toD, DOk n d) : DpAll K H vs (toPs (ts.map toD)) := dok_all (n := n) dok_dp ok h
/-- a flat thing as data -/
theorem valT_dp {t : Tr} {f : List Addr} {H 𝓗 : Hp} {u : V} (c : St3 F M H 𝓗) (q : TrR M t r f) (s : SlOk K H u r) (hf : flatO t = true) (ok : DOk 8 (valT t)) : Dp K 𝓗 u (toP (valT t)) := by
  cases q with
  | dat => exact Dp.mono c.u ok s
  | @own p xs ts fp e hs =>
    obtain ⟨e1, e2, _⟩ := hs.allD hf
    obtain ⟨_, _, vs, e3, e4⟩ := c.o p xs e
    have hu : u = .ref p := s
    subst hu
    rw [e2] at e4
    have h4 := (SlsOk.das.mp e4).mono c.u
    have ok' : ∀ d ∈ ts.map toD, DOk 7 d := by
      have ok2 : DOk (7 + 1) (.lst (ts.map toD)) := ok
      rcases ok2 with ok2 | ⟨ds, e5 | e5 | e5, ok2⟩
      · exact ok2.elim
      · cases e5; exact ok2
      · cases e5
      · cases e5
    exact .lst (SqL.of e3) (dps_toD h4 ok')
theorem cmpQ_ok {o : Co} {Q : Tr → Prop} {t u : Tr} {f g : List Addr} (h : cmpQ o Q t u) (q1 : TrR M t r1 f) (q2 : TrR M u r2 g) : Op2 F (r2c K o) r1 r2 M fun r' M' => M' = M ∧ ∃ k, r' = .dat (.bl k) ∧ Q (.dat (.bl k)) := by
  cases o with
  | lt =>
    obtain ⟨i, rfl, h⟩ := asI_of q1 h
    obtain ⟨j, rfl, h⟩ := asI_of q2 h
    exact o2b (op2_I0 fun _ => by unfold DA; rfl) h
  | le =>
    obtain ⟨i, rfl, h⟩ := asI_of q1 h
    obtain ⟨j, rfl, h⟩ := asI_of q2 h
    exact o2b (op2_I0 fun _ => by unfold DA; rfl) h
  | gt =>
    obtain ⟨i, rfl, h⟩ := asI_of q1 h
    obtain ⟨j, rfl, h⟩ := asI_of q2 h
    exact o2b (op2_I0 fun _ => by unfold DA; rfl) h
  | ge =>
    obtain ⟨i, rfl, h⟩ := asI_of q1 h
    obtain ⟨j, rfl, h⟩ := asI_of q2 h
    exact o2b (op2_I0 fun _ => by unfold DA; rfl) h
  | eq =>
    obtain ⟨f1, f2, o1, o2, h⟩ := h
    exact fun H 𝓗 u' v' Q' c s1 s2 k => ⟨_, _, valT_dp c q1 s1 f1 o1, valT_dp c q2 s2 f2 o2, dok_shaped o1 (by decide), dok_shaped o2 (by decide), k _ _ ⟨H, M, .dat (.bl _), c, Same.refl H, (by show DA K H (.bl _) _; unfold DA; rfl), rfl, _, rfl, h⟩⟩
  | ne =>
    obtain ⟨f1, f2, o1, o2, h⟩ := h
    exact fun H 𝓗 u' v' Q' c s1 s2 k => ⟨_, _, valT_dp c q1 s1 f1 o1, valT_dp c q2 s2 f2 o2, dok_shaped o1 (by decide), dok_shaped o2 (by decide), k _ _ ⟨H, M, .dat (.bl _), c, Same.refl H, (by show DA K H (.bl _) _; unfold DA; rfl), rfl, _, rfl, h⟩⟩
theorem copNo (o : Co) (y : Expr) : behindInMarks (copOf o) y = false := by cases o <;> exact nomark _
theorem s_cmp {o : Co} (ha : SE P w K mg base ca a) (hb : SE P w K mg base ca b) : SE P w K mg base ca (.cmp o a b) where
  ew := fun F x ρ M v X Q h hr he hx hw => by
    rw [mE] at h; unfold hE_cmp at h
    split at h
    rotate_left
    · cases h
    simp only [Bool.and_eq_true, decide_eq_true_eq] at h
    obtain ⟨⟨rfl, h1⟩, h2⟩ := h
    refine ew_op2 (t := r2c K o) (fun i => pe_cmpR (hCo o i) (pe_u i) (pe_u i) (copNo o _)) ((ha.ew F _ ρ M v X _ h1 hr.1 he hx hw).mono fun r1 M1 ⟨e1, t, f, q1, _, hw1⟩ => ?_)
    subst e1
    refine (hb.ew F _ ρ M1 v X _ h2 hr.2 he hx hw1).mono fun r2 M2 ⟨e2, u, g, q2, _, hw2⟩ => ?_
    subst e2
    exact Op2.mono (cmpQ_ok hw2 q1 q2) fun r M' ⟨a, k, b, q⟩ => by subst a b; exact rvD q
  tw := fun F x ρ M v X Q h hr he hx hw => by
    rw [mE] at h; unfold hE_cmp at h
    split at h
    rotate_left
    · cases h
    simp only [Bool.and_eq_true, decide_eq_true_eq] at h
    obtain ⟨⟨rfl, h1⟩, h2⟩ := h
    refine tw_op2 (t := r2c K o) (fun i => pt_cmpR (hCo o i) (pe_u i) (pe_u i) (copNo o _)) ((ha.ew F _ ρ M v X _ h1 hr.1 he hx hw).mono fun r1 M1 ⟨e1, t, f, q1, _, hw1⟩ => ?_)
    subst e1
    refine (hb.ew F _ ρ M1 v X _ h2 hr.2 he hx hw1).mono fun r2 M2 ⟨e2, u, g, q2, _, hw2⟩ => ?_
    subst e2
    exact Op2.mono (cmpQ_ok hw2 q1 q2) fun r M' ⟨a, k, b, q⟩ => ⟨k, b, a, q⟩
  ww := fun F o' xs p ρ M v X Q h hr he hx hw => by rw [mE] at h; cases h
end
end DD
namespace L2
open PySem PySem.Spec PyProof.Rows
section
variable {X : Cx}
/-- tuple(xs): a tuple without a dict -/
theorem call_tupleN : CallR X (.type "tuple") (fun xs H Q => ∃ p ys, xs = [.ref p] ∧ SqL X.K H p ys ∧ ∀ l o, H l = none → o.cls = .type "tuple" → o.dict = none → Q (.ref l) (upd H l (.frz o (.tup ys)))) := by
  intro pins s σ H xs us Q I r ⟨p, ys, e, hq, q⟩
  subst e
  obtain ⟨u, rfl, rx⟩ := vals1 r
  cases rx
  obtain ⟨its, rv, pl, hz⟩ := I.list hq
  have hl := rv.length
  refine call_tuple_list pl.isList (fun h' kp => ?_) (by rw [List.size_toArray]; omega)
  have J : Inv X pins σ H { s with heap := h' } := I.kept (t' := s.toks) kp
  refine ⟨.ref h'.objs.size, upd H h'.objs.size (.frz { cls := .type "tuple", data := .seq its.toArray } (.tup ys)), ?_, rfl, q _ _ (J.hok.fresh (Nat.le_refl _)) rfl rfl⟩
  refine J.laid (t' := s.toks) (fun b o e => Heap.get?_push_of_some _ e) (Nat.le_refl _) ⟨Heap.get?_push_size h' rfl, hz, its, rv, IsTup.new _ _⟩
def rSlN (K : PySem.W.Frag) : V → Option Int → Option Int → Hp → VK → Prop := fun x lo hi H Q => ∃ a o xs, x = .ref a ∧ H a = some (.frz o (.tup xs)) ∧
  (HT.sIx xs.length 0 lo = 0 ∧ HT.sIx xs.length xs.length hi = xs.length → Q (.ref a) H) ∧
  (¬ (HT.sIx xs.length 0 lo = 0 ∧ HT.sIx xs.length xs.length hi = xs.length) → ∀ p o, H p = none → o.cls = .type "tuple" → o.dict = none → Q (.ref p) (upd H p (.frz o (.tup (cutV xs lo hi)))))
theorem sl_tupN : SlR X (rSlN X.K) := by
  intro pins s σ H x v vl vu lo hi sl Q I rx hs pl pu ⟨a, o, xs, e, hx, q1, q2⟩
  have hT : SqT X.K H a xs := .inl (.inr ⟨o, hx⟩)
  subst e
  by_cases hw : HT.sIx xs.length 0 lo = 0 ∧ HT.sIx xs.length xs.length hi = xs.length
  · exact sl_tupA pins s σ H _ v vl vu lo hi sl Q I rx hs pl pu ⟨a, xs, rfl, hT, q1, fun z => absurd hw z⟩
  · cases rx
    obtain ⟨its, r, ht, hz⟩ := I.tuple hT
    have hlen : its.toArray.size = xs.length := by rw [List.size_toArray]; exact r.length.symm
    refine ⟨"tuple", _, PyProof.Rows.slot_tuple_getitem.lookup, ht.typeIs, HT.getItem_tuple_cut ht hs pl pu (by rw [hlen]; exact hw) ?_ (by rw [hlen]; exact hz)⟩
    rw [hlen]
    have hrel := (r.drop (HT.sIx xs.length 0 lo)).take (HT.sIx xs.length xs.length hi - HT.sIx xs.length 0 lo)
    refine ⟨.ref s.heap.objs.size, _, I.laid (t' := s.toks) (o := .frz _ (.tup (cutV xs lo hi))) (fun b ob q => Heap.get?_push_of_some _ q) (Nat.le_refl _) ⟨Heap.get?_push_size s.heap rfl, Nat.le_trans (cutV_length xs lo hi) hz, _, hrel, IsTup.new _ _⟩, rfl, q2 hw _ _ (I.hok.fresh (Nat.le_refl _)) rfl rfl⟩
/-- t.count(k), ints -/
def rCntT (K : PySem.W.Frag) : V → List V → Hp → VK → Prop := fun x xs H Q => ∃ (p : Addr) (ns : List Int) (k : Int), x = .ref p ∧ xs = [.int k] ∧ SqT K H p (ns.map V.int) ∧ Q (.int (ns.count k : Nat)) H
theorem mt_tcount : MtR X "tuple.count" (rCntT X.K) := by
  intro pins s σ H x xs v us Q I rx rxs ⟨p, ns, k, e1, e2, hs, q⟩
  subst e1 e2
  cases rx
  obtain ⟨u, rfl, ⟨t, rfl⟩⟩ := rxs.one
  obtain ⟨its, rv, ⟨⟨cls, dd, data, sl⟩, ho, hc, n, hd⟩, hlen⟩ := I.tuple hs
  simp only at hc hd
  subst hc hd
  have hi := ints_of_vals rv
  refine call_meets PySem.F.slot_tuple_count ⟨_, ho, rfl⟩ PySem.F.entry_tuple_count (PySem.F.args_tuple_count_2 _ _) (SeqAt.tuple_countAt p its.toArray n dd sl (.int k t) (eqk k)) ⟨ho, fun y hy => (eqk_gives hi y (by simpa using hy)).at _ _, ?_⟩
  have ec : its.toArray.toList.countP (eqk k) = ns.count k := eqk_count hi
  refine ⟨.int (ns.count k : Nat), H, I.tok _, ⟨s.toks, ?_⟩, q⟩
  rw [← ec]
/-- t.index(k), the first place, ints -/
def rIdxT (K : PySem.W.Frag) : V → List V → Hp → VK → Prop := fun x xs H Q => ∃ (p : Addr) (ns : List Int) (k : Int) (j : Nat), x = .ref p ∧ xs = [.int k] ∧ SqT K H p (ns.map V.int) ∧ ns[j]? = some k ∧ (∀ m, m < j → ns[m]? ≠ some k) ∧ Q (.int (j : Nat)) H
theorem mt_tindex : MtR X "tuple.index" (rIdxT X.K) := by
  intro pins s σ H x xs v us Q I rx rxs ⟨p, ns, k, j, e1, e2, hs, hj0, hno, q⟩
  subst e1 e2
  cases rx
  obtain ⟨u, rfl, ⟨t, rfl⟩⟩ := rxs.one
  obtain ⟨its, rv, ⟨⟨cls, dd, data, sl⟩, ho, hc, n, hd⟩, hlen⟩ := I.tuple hs
  simp only at hc hd
  subst hc hd
  have hl : its.length = ns.length := by rw [← rv.length, List.length_map]
  have spot : ∀ (m : Nat) (hm : m < its.toArray.size), ∃ i t', ns[m]? = some i ∧ its.toArray[m] = Value.int i t' := fun m hm => by
    have hm' : m < ns.length := by rw [← hl]; simpa using hm
    obtain ⟨w, hw, t', hw'⟩ := rv.get (i := m) (x := .int ns[m]) (by simp [hm'])
    refine ⟨ns[m], t', List.getElem?_eq_getElem hm', ?_⟩
    have e := (List.getElem?_eq_some_iff.mp hw).2
    rw [← hw', ← e]
    simp
  have hj : j < its.toArray.size := by rw [List.size_toArray, hl]; exact (List.getElem?_eq_some_iff.mp hj0).1
  have hflat : (ns.map V.int).all flatV = true := by
    rw [List.all_map]
    exact List.all_eq_true.mpr fun _ _ => rfl
  refine call_meets PySem.F.slot_tuple_index ⟨_, ho, rfl⟩ PySem.F.entry_tuple_index (PySem.F.args_tuple_index_2 _ _) (TI.tuple_indexAt p its.toArray n dd sl (.int k t) (eqU (.int k)) j hj ?_ ?_)
    ⟨ho, fun w hw => mem_eqAt (x := .int k) ⟨t, rfl⟩ rfl rv hflat w (by simpa using hw), ⟨.int (j : Nat), H, I.tok _, ⟨_, rfl⟩, q⟩⟩
  · obtain ⟨i, t', h1, h2⟩ := spot j hj
    rw [hj0] at h1
    cases h1
    rw [h2]
    show (k == k) = true
    exact beq_self_eq_true k
  · intro m hm hmj
    obtain ⟨i, t', h1, h2⟩ := spot m hm
    rw [h2]
    show (i == k) = false
    exact beq_eq_false_iff_ne.mpr fun e => hno m hmj (e ▸ h1)
/-- a method of what is a list or a tuple without a dict -/
def tBM2 (K : PySem.W.Frag) (r1 r2 : V → List V → Hp → VK → Prop) (to : TE) (t : TA) : TE := fun σ H Q => to σ H fun x H1 =>
  (tyV K "list" x H1 ∧ t σ H1 fun xs H2 => r1 x xs H2 Q) ∨ ((∃ p o xs, x = .ref p ∧ H1 p = some (.frz o (.tup xs)) ∧ o.cls = .type "tuple" ∧ o.dict = none) ∧ t σ H1 fun xs H2 => r2 x xs H2 Q)
theorem pe_bm2 {o e : Expr} {to : TE} {t : TA} {name : Str} {apos cpos : Pos} {id1 id2 : String} {r1 r2 : V → List V → Hp → VK → Prop} (slot1 : Slot "list" name id1) (hty1 : typeOf (.builtin id1) = pure (.type "method_descriptor")) (hm1 : MtR X id1 r1)
    (slot2 : Slot "tuple" name id2) (hty2 : typeOf (.builtin id2) = pure (.type "method_descriptor")) (hm2 : MtR X id2 r2) (ho : PE X o to) (ha : PA X [e] t) (hb : attributeBase o name X.env (eval o X.env) = eval o X.env)
    (hfew : ((backTo cpos (starEach [e] X.env)).all (fun x => !x.1) && (backToKw cpos (keywordEach [] X.env)).all (fun x => x.1.isSome)
      && decide ([e].length + ([] : List Keyword).length + (if ([] : List Keyword).isEmpty then 0 else 1) < 30)) = true)
    (hline : (apos.endLine == cpos.line) = true) (hs : starEach [e] X.env = (false, eval e X.env) :: starEach [] X.env) : PE X (.Call (.Attribute o name apos) [e] [] cpos) (tBM2 X.K r1 r2 to t) := by
  refine ⟨fun pins s σ H Q I h => wpAny_Call_method_late hb hfew hline rfl (thn (ho.run pins s σ H _ I h) fun v s1 ⟨x, H1, I1, rx, q1⟩ => ?_)⟩
  have fin : ∀ {id : String} {r : V → List V → Hp → VK → Prop}, MtR X id r → (t σ H1 fun xs H2 => r x xs H2 Q) → wpAny (model X.prog X.w) X.A (callWith cpos (.builtin id) [v] (backTo cpos (starEach [e] X.env)) []) (EP X pins σ Q) X.xe s1 := fun {id r} hm q => by
    have hA := ha.run cpos pins s1 σ H1 _ I1 q
    rw [hs] at hA ⊢
    exact Calls.callWith_builtin rfl (Calls.evalArgs_plain (thn hA fun us s2 ⟨vs, H2, I2, r2, q2⟩ => hm pins s2 σ H2 x vs v us Q I2 rx r2 q2))
  rcases q1 with ⟨ty, q⟩ | ⟨⟨p, ob, xs, e1, e2, e3, e4⟩, q⟩
  · obtain ⟨h1, h2⟩ := tyV_is I1 rx ty
    exact ⟨"list", id1, PySem.F.plainAttrs_list, slot1, hty1, h1, h2, fin hm1 q⟩
  · subst e1
    cases rx
    obtain ⟨g1, _⟩ := (show ObjOk X.prog X.w H1 s1.heap p (.frz ob (.tup xs)) from I1.hok p _ e2)
    exact ⟨"tuple", id2, PySem.F.plainAttrs_tuple, slot2, hty2, ⟨ob, g1, e3⟩, fun a z => by cases z; exact ⟨ob, g1, e4⟩, fin hm2 q⟩
end
end L2
namespace DD
open PySem PySem.Spec PyProof.Rows L2 DL
section
variable {P : Program} {w : World} {K : PySem.W.Frag} {mg : Str → Option Value} {base : Heap} {N : List Str} {sc : Scope} {F : Fm P w K mg base N sc} {ca : Str → Addr}
variable {ρ : Rho} {M : OH} {v : Env} {x y z : Expr} {pos : Pos} {r r1 r2 : Sl} {e a b c : E}
/-- value and test by one reading -/
theorem SE.both (h : ∀ {N : List Str} {sc : Scope} (F : Fm P w K mg base N sc) (x : Expr) (ρ : Rho) (M : OH) (v : Env) (X : Str → Env → Prop) (Q : Tr → Prop), mE N F.lv sc e x = true → rqE (Wd P w K mg base ca) e → EV M v ρ → ExOk F ca X → wpE X v e Q →
      ∃ t : TE, (∀ i, PE (F.X i) x t) ∧ (∀ i, PT (F.X i) x (tTest t)) ∧ ∀ H 𝓗 σ, St3 F M H 𝓗 → EnvOk K H σ ρ → ∀ Q' : VK, (∀ v' 𝓗', QV F H (RV M v ρ e Q) v' 𝓗' → Q' v' 𝓗') → t σ 𝓗 Q')
    (hb : ∀ N lv sc o xs p, mE N lv sc e (.BoolOp o xs p) = true → False) : SE P w K mg base ca e where
  ew := fun F x ρ M v X Q h1 h2 h3 h4 h5 => .mk fun H 𝓗 σ c hE => by
    obtain ⟨t, p1, _, p3⟩ := h F x ρ M v X Q h1 h2 h3 h4 h5
    exact uE.by p1 (p3 H 𝓗 σ c hE _ fun _ _ z => z)
  tw := fun F x ρ M v X Q h1 h2 h3 h4 h5 => .mk fun H 𝓗 σ c hE => by
    obtain ⟨t, _, p2, p3⟩ := h F x ρ M v X _ h1 h2 h3 h4 h5
    refine uT.by p2 (p3 H 𝓗 σ c hE _ fun v' 𝓗' ⟨H', M', r, c', s', q, e1, t, f, q1, _, q2⟩ => ?_)
    obtain ⟨i, rfl, q3⟩ := asB_of q1 q2
    exact ⟨i, q, H', M', c', s', e1, q3⟩
  ww := fun F o xs p ρ M v X Q h1 h2 h3 h4 h5 => (hb _ _ _ _ _ _ h1).elim
/-- data at once -/
theorem qvD {H H' 𝓗 : Hp} {Q : Tr → Prop} {d : Dt} {u : V} (c : St3 F M H' 𝓗) (s : Same H H') (q : DA K H' d u) (h : Q (.dat d)) : QV F H (RV M v ρ e Q) u 𝓗 := ⟨H', M, .dat d, c, s, q, rvD h⟩
theorem daB {H : Hp} {k : Bool} : DA K H (.bl k) (.bl k) := by unfold DA; rfl
theorem daI {H : Hp} {k : Int} : DA K H (.int k) (.int k) := by unfold DA; rfl
theorem s_le3 (ha : SE P w K mg base ca a) (hb : SE P w K mg base ca b) (hc : SE P w K mg base ca c) : SE P w K mg base ca (.le3 a b c) := .both (fun F x ρ M v X Q h hr he hx hw => by
    rw [mE] at h; unfold hE_le3 at h
    split at h
    rotate_left
    · cases h
    rename_i x y z p
    simp only [Bool.and_eq_true] at h
    obtain ⟨⟨h1, h2⟩, h3⟩ := h
    have hm : lastMarks [.LtE, .LtE] [y, z] = false := nomark z
    refine ⟨_, fun j => pe_chain op_le op_le (pe_u j) (pe_u j) (pe_u j) hm, fun j => pt_chain op_le op_le (pe_u j) (pe_u j) (pe_u j) hm, fun H 𝓗 σ cc hE Q' kk => ((ha.ew F _ ρ M v X _ h1 hr.1 he hx hw).run H 𝓗 σ cc hE).mono fun u 𝓗1 ⟨H1, M1, r1, c1, s1, q1, e1, t1, f1, g1, _, w1⟩ => ?_⟩
    subst e1
    obtain ⟨i, rfl, w1⟩ := asI_of g1 w1
    refine ((hb.ew F _ ρ M1 v X _ h2 hr.2.1 he hx w1).run H1 𝓗1 σ c1 (hE.mono s1)).mono fun u2 𝓗2 ⟨H2, M2, r2, c2, s2, q2, e2, t2, f2, g2, _, w2⟩ => ?_
    subst e2
    obtain ⟨j, rfl, w2⟩ := asI_of g2 w2
    have qv : u = .int i := q1
    have qu : u2 = .int j := q2
    subst qv qu
    refine ⟨i, j, rfl, rfl, decide (i ≤ j), rfl, ?_⟩
    by_cases h : i ≤ j
    · rw [decide_eq_true h, if_pos rfl]
      refine ((hc.ew F _ ρ M2 v X _ h3 hr.2.2 he hx (w2.1 h)).run H2 𝓗2 σ c2 (hE.mono (s1.trans s2))).mono fun u3 𝓗3 ⟨H3, M3, r3, c3, s3, q3, e3, t3, f3, g3, _, w3⟩ => ?_
      subst e3
      obtain ⟨k, rfl, w3⟩ := asI_of g3 w3
      have qx : u3 = .int k := q3
      subst qx
      exact ⟨j, k, rfl, rfl, kk _ _ (qvD c3 ((s1.trans s2).trans s3) daB w3)⟩
    · rw [decide_eq_false h, if_neg (by decide)]
      exact kk _ _ (qvD c2 (s1.trans s2) daB (w2.2 h))) (fun N lv sc o xs p h => by rw [mE] at h; cases h)
theorem isNo_ok {t : Tr} {f : List Addr} {H : Hp} {u : V} (q : TrR M t r f) (s : SlOk K H u r) : decide (u = V.non) = isNo t := by
  cases q with
  | @dat d =>
    refine (isNon_ok (s := .dat d) trivial (fun _ z => nomatch z) s).trans ?_
    cases d <;> rfl
  | own e hs =>
    have h : u = _ := s
    subst h
    rfl
theorem s_isN {p : Bool} (ha : SE P w K mg base ca a) : SE P w K mg base ca (.isN p a) := .both (fun F x ρ M v X Q h hr he hx hw => by
    rw [mE] at h; unfold hE_isN at h
    split at h
    rotate_left
    · cases h
    simp only [Bool.and_eq_true, decide_eq_true_eq] at h
    obtain ⟨h1, h2⟩ := h
    subst h1
    cases p with
    | true =>
      refine ⟨_, fun j => pe_cmp (pc_isN (pe_u j)) rfl, fun j => pt_cmp (pc_isN (pe_u j)) rfl, fun H 𝓗 σ cc hE Q' kk => ((ha.ew F _ ρ M v X _ h2 hr he hx hw).run H 𝓗 σ cc hE).mono fun u 𝓗1 ⟨H1, M1, r1, c1, s1, q1, e1, t1, f1, g1, _, w1⟩ => ?_⟩
      subst e1
      refine kk _ _ (qvD (d := .bl (isNo t1)) c1 s1 ?_ w1)
      rw [isNo_ok g1 q1]; exact daB
    | false =>
      refine ⟨_, fun j => pe_cmp (pc_notN (pe_u j)) rfl, fun j => pt_cmp (pc_notN (pe_u j)) rfl, fun H 𝓗 σ cc hE Q' kk => ((ha.ew F _ ρ M v X _ h2 hr he hx hw).run H 𝓗 σ cc hE).mono fun u 𝓗1 ⟨H1, M1, r1, c1, s1, q1, e1, t1, f1, g1, _, w1⟩ => ?_⟩
      subst e1
      refine kk _ _ (qvD (d := .bl (!isNo t1)) c1 s1 ?_ w1)
      rw [isNo_ok g1 q1]; exact daB) (fun N lv sc o xs p h => by rw [mE] at h; cases h)
theorem flats {ts : List Tr} (h : ts.all flatT = true) : ts.all isD = true ∧ ∀ d ∈ ts.map toD, flatD d = true := by
  induction ts with
  | nil => exact ⟨rfl, fun _ z => nomatch z⟩
  | cons t ts ih =>
    rw [List.all_cons, Bool.and_eq_true] at h
    obtain ⟨i1, i2⟩ := ih h.2
    cases t with
    | dat d =>
      refine ⟨by rw [List.all_cons, i1]; rfl, fun e he => ?_⟩
      rcases List.mem_cons.mp he with z | z
      · subst z; exact h.1
      · exact i2 e z
    | un => exact nomatch h.1
    | own _ => exact nomatch h.1
theorem s_mem {p : Bool} (ha : SE P w K mg base ca a) (hb : SE P w K mg base ca b) : SE P w K mg base ca (.mem p a b) := .both (fun F x ρ M v X Q h hr he hx hw => by
    rw [mE] at h; unfold hE_mem at h
    split at h
    rotate_left
    · cases h
    simp only [Bool.and_eq_true, decide_eq_true_eq, Bool.not_eq_true'] at h
    obtain ⟨⟨⟨h0, hm⟩, h1⟩, h2⟩ := h
    have main : ∀ H 𝓗 σ, St3 F M H 𝓗 → EnvOk K H σ ρ → ∀ Q' : VK, (∀ v' 𝓗', QV F H (RV M v ρ (.mem p a b) Q) v' 𝓗' → Q' v' 𝓗') → tOp (rIn K (!p)) (uE F _) (uE F _) σ 𝓗 Q' := fun H 𝓗 σ cc hE Q' kk => ((ha.ew F _ ρ M v X _ h1 hr.1 he hx hw).run H 𝓗 σ cc hE).mono fun u 𝓗1 ⟨H1, M1, r1, c1, s1, q1, e1, t1, f1, g1, _, w1⟩ => by
      subst e1
      obtain ⟨d, _, rfl, w1⟩ := asD_of g1 w1
      refine ((hb.ew F _ ρ M1 v X _ h2 hr.2 he hx w1).run H1 𝓗1 σ c1 (hE.mono s1)).mono fun u2 𝓗2 ⟨H2, M2, r2, c2, s2, q2, e2, t2, f2, g2, _, w2⟩ => ?_
      subst e2
      obtain ⟨ts, xs, g, l1, l2, wd, wf, w2⟩ := asQ_of g2 w2
      obtain ⟨i1, i2⟩ := flats wf
      obtain ⟨_, exs, _⟩ := l2.allD i1
      subst exs
      refine op2_in (F := F) (neg := !p) (x := d) wd l1 i2 H2 𝓗2 u u2 Q' c2 (SlOk.mono s2 q1) q2 fun v' 𝓗' ⟨H3, M3, r3, c3, s3, q3, e3, e4⟩ => ?_
      subst e3 e4
      refine kk _ _ (qvD c3 ((s1.trans s2).trans s3) q3 ?_)
      cases p <;> exact w2
    cases p with
    | true =>
      subst h0
      exact ⟨_, fun i => pe_cmpR (fIn i) (pe_u i) (pe_u i) hm, fun i => pt_cmpR (fIn i) (pe_u i) (pe_u i) hm, main⟩
    | false =>
      subst h0
      exact ⟨_, fun i => pe_cmpR (fNotIn i) (pe_u i) (pe_u i) hm, fun i => pt_cmpR (fNotIn i) (pe_u i) (pe_u i) hm, main⟩) (fun N lv sc o xs p h => by rw [mE] at h; cases h)
theorem s_memR {p : Bool} (ha : SE P w K mg base ca a) (hb : SE P w K mg base ca b) : SE P w K mg base ca (.memR p a b) := .both (fun F x ρ M v X Q h hr he hx hw => by
    rw [mE] at h; unfold hE_memR at h
    split at h
    rotate_left
    · cases h
    rename_i x o f _ y _ _
    simp only [Bool.and_eq_true, decide_eq_true_eq] at h
    obtain ⟨⟨⟨⟨⟨h0, rfl⟩, hg⟩, hn⟩, h1⟩, h2⟩ := h
    obtain ⟨hb1, ha1, hb2⟩ := hr
    have hb1 : mg "range" = none := hb1
    have main : ∀ H 𝓗 σ, St3 F M H 𝓗 → EnvOk K H σ ρ → ∀ Q' : VK, (∀ v' 𝓗', QV F H (RV M v ρ (.memR p a b) Q) v' 𝓗' → Q' v' 𝓗') → tOp (rRng (!p)) (uE F x) (tCB (fun vs H Q => ∃ n, vs = [V.int n] ∧ ∀ p, H p = none → Q (.ref p) (upd H p (.rng 0 n))) (uA F [y])) σ 𝓗 Q' := fun H 𝓗 σ cc hE Q' kk => ((ha.ew F _ ρ M v X _ h1 ha1 he hx hw).run H 𝓗 σ cc hE).mono fun u 𝓗1 ⟨H1, M1, r1, c1, s1, q1, e1, t1, f1, g1, _, w1⟩ => by
      subst e1
      obtain ⟨i, rfl, w1⟩ := asI_of g1 w1
      have qv : u = .int i := q1
      subst qv
      refine ((aw_cons (Q := fun rs M2 => M2 = M1 ∧ ∃ n, rs = [.dat (.int n)] ∧ Q (.dat (.bl (sgB p (decide (0 ≤ i ∧ i < n)))))) ((hb.ew F _ ρ M1 v X _ h2 hb2 he hx w1).mono fun r M' ⟨e2, t2, f2, g2, _, w2⟩ => by
        obtain ⟨n, rfl, w2⟩ := asI_of g2 w2
        exact aw_nil ⟨e2, n, rfl, w2⟩) (ns_of hn)).run H1 𝓗1 σ c1 (hE.mono s1)).mono fun vs 𝓗2 ⟨H2, M2, rs, c2, s2, q2, e2, n, e3, w2⟩ => ?_
      subst e2 e3
      obtain ⟨v2, rfl, q3⟩ := sl1 q2
      have qn : v2 = .int n := q3
      subst qn
      refine ⟨n, rfl, fun pp hp => ?_⟩
      obtain ⟨c3, s3⟩ := c2.newF (o := .rng 0 n) hp
      refine ⟨i, pp, 0, n, rfl, rfl, upd_same, kk _ _ (qvD c3 ((s1.trans s2).trans s3) ?_ w2)⟩
      cases p <;> exact daB
    have hr0 := hmg hb1 (F := F)
    cases p with
    | true =>
      subst h0
      exact ⟨_, fun j => pe_cmpR op_inRng (pe_u j) (pe_callTy (fRng j) (gl_of hg j) (hr0 j) (by decide +kernel) (pa_u j) (he := ns_of hn j) (hpl := np_of rfl j)) rfl, fun j => pt_cmpR op_inRng (pe_u j) (pe_callTy (fRng j) (gl_of hg j) (hr0 j) (by decide +kernel) (pa_u j) (he := ns_of hn j) (hpl := np_of rfl j)) rfl, main⟩
    | false =>
      subst h0
      exact ⟨_, fun j => pe_cmpR op_ninRng (pe_u j) (pe_callTy (fRng j) (gl_of hg j) (hr0 j) (by decide +kernel) (pa_u j) (he := ns_of hn j) (hpl := np_of rfl j)) rfl, fun j => pt_cmpR op_ninRng (pe_u j) (pe_callTy (fRng j) (gl_of hg j) (hr0 j) (by decide +kernel) (pa_u j) (he := ns_of hn j) (hpl := np_of rfl j)) rfl, main⟩) (fun N lv sc o xs p h => by rw [mE] at h; cases h)
end
end DD
namespace DD
open PySem PySem.Spec PyProof.Rows L2 DL
section
variable {P : Program} {w : World} {K : PySem.W.Frag} {mg : Str → Option Value} {base : Heap} {N : List Str} {sc : Scope} {F : Fm P w K mg base N sc} {ca : Str → Addr}
variable {ρ : Rho} {M : OH} {v : Env} {x y z : Expr} {pos : Pos} {r r1 r2 : Sl} {e a b c : E}
theorem s_not (ha : SE P w K mg base ca a) : SE P w K mg base ca (.not a) where
  ew := fun F x ρ M v X Q h hr he hx hw => by
    rw [mE] at h; unfold hE_not at h
    split at h
    rotate_left
    · cases h
    exact ew_not ((ha.ew F _ ρ M v X _ h hr he hx hw).mono fun r M' ⟨e1, t, f, q1, _, q2⟩ => by
      obtain ⟨k, rfl, q3⟩ := asB_of q1 q2
      exact ⟨k, rfl, by subst e1; exact rvD q3⟩)
  tw := fun F x ρ M v X Q h hr he hx hw => by
    rw [mE] at h; unfold hE_not at h
    split at h
    rotate_left
    · cases h
    exact tw_not (ha.tw F _ ρ M v X (fun b => Q (!b)) h hr he hx hw)
  ww := fun F o' xs p ρ M v X Q h hr he hx hw => by rw [mE] at h; cases h
theorem s_and (ha : SE P w K mg base ca a) (hb : SE P w K mg base ca b) : SE P w K mg base ca (.and a b) := by
  have ww : ∀ {N : List Str} {sc : Scope} (F : Fm P w K mg base N sc) (o : BoolOp) (xs : List Expr) (p : Pos) (ρ : Rho) (M : OH) (v : Env) (X : Str → Env → Prop) (Q : Bool → Prop), mE N F.lv sc (.and a b) (.BoolOp o xs p) = true → rqE (Wd P w K mg base ca) (.and a b) → EV M v ρ → ExOk F ca X → wpE X v (.and a b) (asB fun b => Q b) → WW F ρ M (.BoolOp o xs p) fun b M' => M' = M ∧ Q b := fun F o xs p ρ M v X Q h hr he hx hw => by
    rw [mE] at h; unfold hE_and at h
    split at h
    rotate_left
    · cases h
    rename_i x y r q heq
    cases heq
    simp only [Bool.and_eq_true] at h
    obtain ⟨h1, h2⟩ := h
    refine ww_and ((ha.tw F _ ρ M v X _ h1 hr.1 he hx hw).mono fun k M' ⟨e1, w1⟩ => ?_)
    subst e1
    cases k with
    | false => exact ⟨rfl, w1.2 rfl⟩
    | true =>
      rw [if_pos rfl]
      cases r with
      | nil => exact ww_and1 (hb.tw F _ ρ M' v X _ h2 hr.2 he hx (w1.1 rfl))
      | cons r0 r => exact hb.ww F _ _ _ ρ M' v X _ h2 hr.2 he hx (w1.1 rfl)
  refine ⟨fun F x ρ M v X Q h hr he hx hw => ?_, fun F x ρ M v X Q h hr he hx hw => ?_, ww⟩
  · rw [mE] at h; unfold hE_and at h
    split at h
    rotate_left
    · cases h
    rename_i x y r q
    simp only [Bool.and_eq_true] at h
    obtain ⟨h1, h2⟩ := h
    refine ew_and ((ha.ew F _ ρ M v X _ h1 hr.1 he hx hw).mono fun r1 M' ⟨e1, t, f, q1, _, q2⟩ => ?_)
    subst e1
    obtain ⟨k, rfl, w1⟩ := asB_of q1 q2
    refine ⟨k, rfl, ?_⟩
    have fin : ∀ {x : Expr}, EW F ρ M' x (RV M' v ρ b (asB fun l => Q (.dat (.bl l)))) → EW F ρ M' x (RV M' v ρ (.and a b) Q) := fun hh => hh.mono fun r2 M2 ⟨e2, t2, f2, g2, _, w2⟩ => by
      subst e2
      obtain ⟨l, rfl, w2⟩ := asB_of g2 w2
      exact rvD w2
    cases k with
    | false => exact rvD (w1.2 rfl)
    | true =>
      rw [if_pos rfl]
      cases r with
      | nil => exact ew_one (fin (hb.ew F _ ρ M' v X _ h2 hr.2 he hx (w1.1 rfl)))
      | cons r0 r => exact fin (hb.ew F _ ρ M' v X _ h2 hr.2 he hx (w1.1 rfl))
  · have h0 := h
    rw [mE] at h; unfold hE_and at h
    split at h
    rotate_left
    · cases h
    exact WW.tw (ww F _ _ _ ρ M v X Q h0 hr he hx hw)
theorem s_or (ha : SE P w K mg base ca a) (hb : SE P w K mg base ca b) : SE P w K mg base ca (.or a b) := by
  have ww : ∀ {N : List Str} {sc : Scope} (F : Fm P w K mg base N sc) (o : BoolOp) (xs : List Expr) (p : Pos) (ρ : Rho) (M : OH) (v : Env) (X : Str → Env → Prop) (Q : Bool → Prop), mE N F.lv sc (.or a b) (.BoolOp o xs p) = true → rqE (Wd P w K mg base ca) (.or a b) → EV M v ρ → ExOk F ca X → wpE X v (.or a b) (asB fun b => Q b) → WW F ρ M (.BoolOp o xs p) fun b M' => M' = M ∧ Q b := fun F o xs p ρ M v X Q h hr he hx hw => by
    rw [mE] at h; unfold hE_or at h
    split at h
    rotate_left
    · cases h
    rename_i x y r q heq
    cases heq
    simp only [Bool.and_eq_true] at h
    obtain ⟨h1, h2⟩ := h
    refine ww_or ((ha.tw F _ ρ M v X _ h1 hr.1 he hx hw).mono fun k M' ⟨e1, w1⟩ => ?_)
    subst e1
    cases k with
    | true => exact ⟨rfl, w1.2 rfl⟩
    | false =>
      rw [if_neg (by decide)]
      cases r with
      | nil => exact ww_or1 (hb.tw F _ ρ M' v X _ h2 hr.2 he hx (w1.1 rfl))
      | cons r0 r => exact hb.ww F _ _ _ ρ M' v X _ h2 hr.2 he hx (w1.1 rfl)
  refine ⟨fun F x ρ M v X Q h hr he hx hw => ?_, fun F x ρ M v X Q h hr he hx hw => ?_, ww⟩
  · rw [mE] at h; unfold hE_or at h
    split at h
    rotate_left
    · cases h
    rename_i x y r q
    simp only [Bool.and_eq_true] at h
    obtain ⟨h1, h2⟩ := h
    refine ew_or ((ha.ew F _ ρ M v X _ h1 hr.1 he hx hw).mono fun r1 M' ⟨e1, t, f, q1, _, q2⟩ => ?_)
    subst e1
    obtain ⟨k, rfl, w1⟩ := asB_of q1 q2
    refine ⟨k, rfl, ?_⟩
    have fin : ∀ {x : Expr}, EW F ρ M' x (RV M' v ρ b (asB fun l => Q (.dat (.bl l)))) → EW F ρ M' x (RV M' v ρ (.or a b) Q) := fun hh => hh.mono fun r2 M2 ⟨e2, t2, f2, g2, _, w2⟩ => by
      subst e2
      obtain ⟨l, rfl, w2⟩ := asB_of g2 w2
      exact rvD w2
    cases k with
    | true => exact rvD (w1.2 rfl)
    | false =>
      rw [if_neg (by decide)]
      cases r with
      | nil => exact ew_one (fin (hb.ew F _ ρ M' v X _ h2 hr.2 he hx (w1.1 rfl)))
      | cons r0 r => exact fin (hb.ew F _ ρ M' v X _ h2 hr.2 he hx (w1.1 rfl))
  · have h0 := h
    rw [mE] at h; unfold hE_or at h
    split at h
    rotate_left
    · cases h
    exact WW.tw (ww F _ _ _ ρ M v X Q h0 hr he hx hw)
theorem rv_asD {Q : Tr → Prop} (h : EW F ρ M x (RV M v ρ a (asD fun d => Q (.dat d)))) : EW F ρ M x (RV M v ρ e Q) := h.mono fun r M' ⟨e1, t, f, q1, _, q2⟩ => by
  subst e1
  obtain ⟨d, _, rfl, q3⟩ := asD_of q1 q2
  exact rvD q3
theorem pt_ifE {X : Cx} {c a b : Expr} {tc ta tb : TT} {pos : Pos} (hc : PT X c tc) (ha : PT X a ta) (hb : PT X b tb) : PT X (.IfExp c a b pos) (fun σ H Q => tc σ H fun k H1 => if k = true then ta σ H1 Q else tb σ H1 Q) := by
  refine ⟨fun pins s σ H Q I h => ?_⟩
  show wpAny _ _ (isTrue c X.env (eval c X.env) >>= fun k => if k = true then isTrue a X.env (eval a X.env) else isTrue b X.env (eval b X.env)) _ _ s
  refine wpAny_bind (thn (hc.run pins s σ H _ I h) fun k s1 ⟨H1, I1, q1⟩ => ?_)
  cases k with
  | true =>
    rw [if_pos rfl] at q1 ⊢
    exact ha.run pins s1 σ H1 Q I1 q1
  | false =>
    rw [if_neg (by decide)] at q1 ⊢
    exact hb.run pins s1 σ H1 Q I1 q1
theorem tw_ifE {c a b : Expr} {Q : Bool → OH → Prop} (h : TW F ρ M c fun k M1 => if k = true then TW F ρ M1 a Q else TW F ρ M1 b Q) : TW F ρ M (.IfExp c a b pos) Q := .mk fun H 𝓗 σ cc hE => by
  refine uT.by (fun j => pt_ifE (pt_u j) (pt_u j) (pt_u j)) ((h.run H 𝓗 σ cc hE).mono fun k 𝓗1 ⟨H1, M1, c1, s1, q⟩ => ?_)
  cases k with
  | true => exact (q.run H1 𝓗1 σ c1 (hE.mono s1)).mono fun _ _ ⟨H2, M2, c2, s2, q2⟩ => ⟨H2, M2, c2, s1.trans s2, q2⟩
  | false => exact (q.run H1 𝓗1 σ c1 (hE.mono s1)).mono fun _ _ ⟨H2, M2, c2, s2, q2⟩ => ⟨H2, M2, c2, s1.trans s2, q2⟩
theorem asD_asB {Q : Bool → Prop} : (asD fun d => asB (fun b => Q b) (.dat d)) = asB fun b => Q b := by
  funext t
  cases t with
  | un => rfl
  | own ts => rfl
  | dat d => rfl
theorem s_ite (hc : SE P w K mg base ca c) (ha : SE P w K mg base ca a) (hb : SE P w K mg base ca b) : SE P w K mg base ca (.ite c a b) where
  ew := fun F x ρ M v X Q h hr he hx hw => by
    rw [mE] at h; unfold hE_ite at h
    split at h
    rotate_left
    · cases h
    simp only [Bool.and_eq_true] at h
    obtain ⟨⟨h1, h2⟩, h3⟩ := h
    refine ew_ifE ((hc.tw F _ ρ M v X _ h1 hr.1 he hx hw).mono fun k M' ⟨e1, w1⟩ => ?_)
    subst e1
    cases k with
    | true => exact rv_asD (ha.ew F _ ρ M' v X _ h2 hr.2.1 he hx (w1.1 rfl))
    | false => exact rv_asD (hb.ew F _ ρ M' v X _ h3 hr.2.2 he hx (w1.2 rfl))
  tw := fun F x ρ M v X Q h hr he hx hw => by
    rw [mE] at h; unfold hE_ite at h
    split at h
    rotate_left
    · cases h
    simp only [Bool.and_eq_true] at h
    obtain ⟨⟨h1, h2⟩, h3⟩ := h
    refine tw_ifE ((hc.tw F _ ρ M v X _ h1 hr.1 he hx hw).mono fun k M' ⟨e1, w1⟩ => ?_)
    subst e1
    have fin : ∀ {e : E}, SE P w K mg base ca e → ∀ x, mE _ F.lv _ e x = true → rqE (Wd P w K mg base ca) e → wpE X v e (asD fun d => asB (fun b => Q b) (.dat d)) → TW F ρ M' x fun b M2 => M2 = M' ∧ Q b := fun {e} s x m r w => s.tw F x ρ M' v X _ m r he hx (by rw [asD_asB] at w; exact w)
    cases k with
    | true => exact fin ha _ h2 hr.2.1 (w1.1 rfl)
    | false => exact fin hb _ h3 hr.2.2 (w1.2 rfl)
  ww := fun F o' xs p ρ M v X Q h hr he hx hw => by rw [mE] at h; cases h
/-! ### several -/
structure SEs (P : Program) (w : World) (K : PySem.W.Frag) (mg : Str → Option Value) (base : Heap) (ca : Str → Addr) (es : Es) : Prop where
  aw : ∀ {N : List Str} {sc : Scope} (F : Fm P w K mg base N sc) (xs : List Expr) (ρ : Rho) (M : OH) (v : Env) (X : Str → Env → Prop) (Q : List Tr → Prop), mEs N F.lv sc es xs = true → rqEs (Wd P w K mg base ca) es → EV M v ρ → ExOk F ca X → wpEs X v es Q →
    AW F ρ M xs fun rs M' => M' = M ∧ rs.length = xs.length ∧ ∃ ts fp, TrsR M ts rs fp ∧ (∀ a ∈ fp, ∃ i ∈ ownRoots v es, ∃ ti si g, v[i]? = some ti ∧ ρ[i]? = some si ∧ TrR M ti si g ∧ a ∈ g) ∧ ((ownRoots v es).Nodup → fp.Nodup) ∧ Q ts
theorem ss_nil : SEs P w K mg base ca .nil where
  aw := fun F xs ρ M v X Q h hr he hx hw => by
    rw [mEs] at h; unfold hEs_nil at h
    split at h
    rotate_left
    · cases h
    exact aw_nil ⟨rfl, rfl, [], [], .nil, fun _ z => (nomatch z), fun _ => List.nodup_nil, hw⟩
theorem ownRoots_cons {es : Es} {i : Nat} {ti : Tr} (h : rootE e = some i) (h1 : v[i]? = some ti) (h2 : isO ti = true) : ownRoots v (.cons e es) = i :: ownRoots v es := by
  rw [ownRoots, h]
  simp only [h1]
  cases ti with
  | own ts => rfl
  | dat d => cases h2
  | un => cases h2
theorem ownRoots_sub {es : Es} : ∀ i ∈ ownRoots v es, i ∈ ownRoots v (.cons e es) := fun i hi => by
  rw [ownRoots]
  split
  · split
    · exact List.mem_cons_of_mem _ hi
    · exact hi
  · exact hi
theorem ownRoots_nd {es : Es} (h : (ownRoots v (.cons e es)).Nodup) : (ownRoots v es).Nodup := by
  rw [ownRoots] at h
  split at h
  · split at h
    · exact (List.nodup_cons.mp h).2
    · exact h
  · exact h
theorem ss_cons {es : Es} (ha : SE P w K mg base ca e) (hs : SEs P w K mg base ca es) : SEs P w K mg base ca (.cons e es) where
  aw := fun F xs ρ M v X Q h hr he hx hw => by
    rw [mEs] at h; unfold hEs_cons at h
    split at h
    rotate_left
    · cases h
    simp only [Bool.and_eq_true] at h
    obtain ⟨⟨h0, h1⟩, h2⟩ := h
    refine aw_cons ((ha.ew F _ ρ M v X _ h1 hr.1 he hx hw).mono fun r M1 ⟨e1, t, f, q1, rt, w1⟩ => ?_) (ns_of h0)
    subst e1
    refine (hs.aw F _ ρ M1 v X _ h2 hr.2 he hx w1).mono fun rs M2 ⟨e2, el, ts, fp, q2, q3, q4, w2⟩ => ?_
    subst e2
    obtain ⟨fpE, hE1, hE2⟩ := he
    cases ht : isO t with
    | false =>
      have hf : f = [] := by cases q1 <;> first | rfl | cases ht
      subst hf
      refine ⟨rfl, by rw [List.length_cons, List.length_cons, el], t :: ts, [] ++ fp, .cons q1 q2, fun a ha => ?_, fun hn => q4 (ownRoots_nd hn), w2⟩
      obtain ⟨i, hi, z⟩ := q3 a ha
      exact ⟨i, ownRoots_sub i hi, z⟩
    | true =>
      obtain ⟨i, ti, si, g, a1, a2, a3, a4, a5, a6⟩ := rt ht
      have hroots := ownRoots_cons (es := es) a1 a2 a3
      refine ⟨rfl, by rw [List.length_cons, List.length_cons, el], t :: ts, f ++ fp, .cons q1 q2, fun a ha => ?_, fun hn => ?_, w2⟩
      · rcases List.mem_append.mp ha with ha | ha
        · exact ⟨i, by rw [hroots]; exact List.mem_cons_self, ti, si, g, a2, a4, a5, a6.mem ha⟩
        · obtain ⟨j, hj, z⟩ := q3 a ha
          exact ⟨j, ownRoots_sub j hj, z⟩
      · rw [hroots, List.nodup_cons] at hn
        refine List.nodup_append.mpr ⟨(a6.trans (hE1.sub a2 a4 a5)).nodup hE2, q4 hn.2, fun y hy z hz eyz => ?_⟩
        subst eyz
        obtain ⟨j, hj, tj, sj, gj, b1, b2, b3, b4⟩ := q3 y hz
        exact hE1.apart hE2 (fun z => hn.1 (by rw [z]; exact hj)) a2 a4 a5 b1 b2 b3 y (a6.mem hy) b4
theorem s_tup {es : Es} (hs : SEs P w K mg base ca es) : SE P w K mg base ca (.tup es) := .plain (fun F x ρ M v X Q h hr he hx hw => by
    rw [mE] at h; unfold hE_tup at h
    split at h
    rotate_left
    · cases h
    simp only [Bool.and_eq_true, decide_eq_true_eq] at h
    obtain ⟨h1, h2⟩ := h
    refine ew_tup ((hs.aw F _ ρ M v X _ h1 hr he hx hw).mono fun rs M1 ⟨e1, el, ts, fp, q1, _, _, wd, w2⟩ => ?_)
    subst e1
    obtain ⟨_, z2, _⟩ := q1.allD wd
    exact ⟨_, z2, by rw [z2, List.length_map] at el; omega, rvD w2⟩) (fun N lv sc x h => by rw [mE] at h; unfold hE_tup at h; split at h <;> first | rfl | cases h)
end
end DD
namespace DD
open PySem PySem.Spec PyProof.Rows L2 DL
section
variable {P : Program} {w : World} {K : PySem.W.Frag} {mg : Str → Option Value} {base : Heap} {N : List Str} {sc : Scope} {F : Fm P w K mg base N sc} {ca : Str → Addr}
variable {ρ : Rho} {M : OH} {v : Env} {x y z : Expr} {pos : Pos} {r r1 r2 : Sl} {e a b c : E}
/-! ### xs[i] -/
theorem fIxQ (i : F.ι) : IxR (F.X i) (fun x y H Q => rIxL K x y H Q ∨ rIxT K x y H Q) := (fIxL i).or (fIxT i)
theorem sublist_part {t : Tr} {s : Sl} : ∀ {ts : List Tr} {ss : List Sl} {f : List Addr} {k : Nat}, TrsR M ts ss f → ts[k]? = some t → ss[k]? = some s → ∃ g, TrR M t s g ∧ g.Sublist f
  | [], _, _, _, _, e, _ => by simp at e
  | u :: ts, _, _, 0, .cons (f := f1) (g := g1) a b, e1, e2 => by
    have e1 : u = t := Option.some.inj e1
    have e2 := Option.some.inj e2
    subst e1 e2
    exact ⟨_, a, List.sublist_append_left _ _⟩
  | u :: ts, _, _, k + 1, .cons a b, e1, e2 => by
    obtain ⟨g, h1, h2⟩ := sublist_part (k := k) b (by simpa using e1) (by simpa using e2)
    exact ⟨g, h1, h2.trans (List.sublist_append_right _ _)⟩
theorem asQ_of' {k : List Tr → Prop} {t : Tr} {s : Sl} {f : List Addr} (r : TrR M t s f) (h : asQ k t) : ∃ ts xs g, SqOf M s xs ∧ TrsR M ts xs g ∧ k ts ∧ (isO t = true → g.Sublist f) ∧ (isO t = false → ∀ u ∈ ts, isD u = true) := by
  have dd : ∀ ds : List Dt, ∀ u ∈ ds.map Tr.dat, isD u = true := fun ds u hu => by
    obtain ⟨d, _, rfl⟩ := List.mem_map.mp hu
    rfl
  cases r with
  | own e q => exact ⟨_, _, _, .l (.raw e), q, h, fun _ => List.sublist_cons_self _ _, fun z => nomatch z⟩
  | @dat d =>
    cases d with
    | lst ds => exact ⟨_, _, _, .l (.dat ds), .dats, h, (fun z => nomatch z), fun _ => dd ds⟩
    | scr ds => exact ⟨_, _, _, .l (.scr ds), .dats, h, (fun z => nomatch z), fun _ => dd ds⟩
    | tup ds => exact ⟨_, _, _, .t ds, .dats, h, (fun z => nomatch z), fun _ => dd ds⟩
    | nup ds => exact ⟨_, _, _, .n ds, .dats, h, (fun z => nomatch z), fun _ => dd ds⟩
    | _ => exact h.elim
theorem s_ix (ha : SE P w K mg base ca a) (hb : SE P w K mg base ca b) : SE P w K mg base ca (.ix a b) := .plain (fun F x ρ M v X Q h hr he hx hw => by
    rw [mE] at h; unfold hE_ix at h
    split at h
    rotate_left
    · cases h
    simp only [Bool.and_eq_true] at h
    obtain ⟨⟨h0, h1⟩, h2⟩ := h
    refine ew_op2 (t := fun x y H Q => rIxL K x y H Q ∨ rIxT K x y H Q) (fun i => pe_ix (fIxQ i) (pe_u i) (pe_u i) (pix_of h0)) ((ha.ew F _ ρ M v X _ h1 hr.1 he hx hw).mono fun s1 M1 ⟨e1, t1, f1, q1, rt, w1⟩ => ?_)
    subst e1
    obtain ⟨ts, xs, g, l1, l2, w1, so, sd⟩ := asQ_of' q1 w1
    refine (hb.ew F _ ρ M1 v X _ h2 hr.2 he hx w1).mono fun s2 M2 ⟨e2, t2, f2, q2, _, w2⟩ => ?_
    subst e2
    obtain ⟨i, rfl, hi, t, ht, w3⟩ := asI_of q2 w2
    obtain ⟨si, _, hs1, _⟩ := l2.get ht
    obtain ⟨gi, hs2, hsub⟩ := sublist_part l2 ht hs1
    intro H 𝓗 u u2 Q' c k1 k2 kk
    obtain ⟨p, vs, rfl, hsq, hv⟩ := l1.seq c k1
    obtain ⟨z, z1, z2⟩ := slget hv hs1
    have k2' : u2 = .int i := k2
    subst k2'
    have hat : atI vs i = some z := by
      have := atI_nat z1
      rwa [Int.toNat_of_nonneg hi] at this
    have res : QV F H (RV M2 v ρ (.ix a b) Q) z 𝓗 := by
      refine ⟨H, M2, si, c, Same.refl H, z2, rfl, t, gi, hs2, fun zo => ?_, w3⟩
      cases ho : isO t1 with
      | false =>
        have z := sd ho t (List.mem_of_getElem? ht)
        cases t with
        | un => simp [isD] at z
        | own _ => simp [isD] at z
        | dat _ => simp [isO] at zo
      | true =>
        obtain ⟨j, tj, sj, gj, a1, a2, a3, a4, a5, a6⟩ := rt ho
        exact ⟨j, tj, sj, gj, a1, a2, a3, a4, a5, (hsub.trans (so ho)).trans a6⟩
    rcases hsq with hsq | hsq
    · exact .inl ⟨p, vs, i, z, rfl, rfl, hsq, hat, kk _ _ res⟩
    · exact .inr ⟨p, vs, i, z, rfl, rfl, hsq, hat, kk _ _ res⟩) (fun N lv sc x h => by rw [mE] at h; unfold hE_ix at h; split at h <;> first | rfl | cases h)
/-! ### parts of slices -/
def ooI : Option Nat → Option Int := oI
theorem toNat_oI {o : Option Int} (h : ∀ i, o = some i → 0 ≤ i) : oI (o.map Int.toNat) = o := by
  cases o with
  | none => rfl
  | some i => show some ((i.toNat : Nat) : Int) = some i; rw [Int.toNat_of_nonneg (h i rfl)]
structure SO (P : Program) (w : World) (K : PySem.W.Frag) (mg : Str → Option Value) (base : Heap) (ca : Str → Addr) (o : Op) : Prop where
  go : ∀ {N : List Str} {sc : Scope} (F : Fm P w K mg base N sc) (x : Option Expr) (ρ : Rho) (M : OH) (v : Env) (X : Str → Env → Prop) (Q : Option Int → Prop), mO N F.lv sc o x = true → rqO (Wd P w K mg base ca) o → EV M v ρ → ExOk F ca X → wpO X v o Q →
    ∀ H 𝓗 σ, St3 F M H 𝓗 → EnvOk K H σ ρ → ∀ R : Option Int → Hp → Prop, (∀ i H' 𝓗', Q i → St3 F M H' 𝓗' → Same H H' → R i 𝓗') → toOf F x σ 𝓗 R
theorem so_no : SO P w K mg base ca .no where
  go := fun F x ρ M v X Q h hr he hx hw H 𝓗 σ c hE R k => by
    rw [mO] at h; unfold hO_no at h
    split at h
    rotate_left
    · cases h
    exact k none H 𝓗 hw c (Same.refl H)
theorem so_so (ha : SE P w K mg base ca e) : SO P w K mg base ca (.so e) where
  go := fun F x ρ M v X Q h hr he hx hw H 𝓗 σ c hE R k => by
    rw [mO] at h; unfold hO_so at h
    split at h
    rotate_left
    · cases h
    refine ((ha.ew F _ ρ M v X _ h hr he hx hw).run H 𝓗 σ c hE).mono fun u 𝓗1 ⟨H1, M1, r1, c1, s1, q1, e1, t1, f1, g1, _, w1⟩ => ?_
    subst e1
    obtain ⟨i, rfl, w1⟩ := asI_of g1 w1
    exact ⟨i, q1, k (some i) H1 𝓗1 w1 c1 s1⟩
theorem fSlN (i : F.ι) : SlR (F.X i) (rSlN K) := by have h := sl_tupN (X := F.X i); rw [F.eK i] at h; exact h
def orSl (r s : V → Option Int → Option Int → Hp → VK → Prop) : V → Option Int → Option Int → Hp → VK → Prop := fun x lo hi H Q => r x lo hi H Q ∨ s x lo hi H Q
theorem slOr {X : Cx} {r s : V → Option Int → Option Int → Hp → VK → Prop} (h1 : SlR X r) (h2 : SlR X s) : SlR X (orSl r s) := fun pins st σ H x v vl vu lo hi sl Q I rx hs pl pu h => h.elim (h1 pins st σ H x v vl vu lo hi sl Q I rx hs pl pu) (h2 pins st σ H x v vl vu lo hi sl Q I rx hs pl pu)
/-- the whole of it -/
theorem whole_cut {vs : List V} {ds : List Dt} {H : Hp} {nl nh : Option Nat} (e3 : SlsOk K H vs (ds.map .dat)) (hw : HT.sIx vs.length 0 (oI nl) = 0 ∧ HT.sIx vs.length vs.length (oI nh) = vs.length) : cutN ds nl nh = ds := by
  have e4 : SlsOk K H (cutV vs (oI nl) (oI nh)) ((cutN ds nl nh).map .dat) := by rw [cutV_eq, ← cutN_map]; exact paired_cut e3 nl nh
  have ev : cutV vs (oI nl) (oI nh) = vs := by
    unfold cutV
    rw [hw.1, hw.2]
    simp
  rw [ev] at e4
  have h1 := e4.length
  rw [List.length_map] at h1
  have h2 := e3.length
  rw [List.length_map] at h2
  have : (cutN ds nl nh).length = ds.length := by omega
  unfold cutN at this ⊢
  have h5 := List.length_take_le ((match nh with | some h => min h ds.length | none => ds.length) - nl.getD 0) (ds.drop (nl.getD 0))
  rw [List.length_take, List.length_drop] at this
  by_cases hz : ds.length = 0
  · have : ds = [] := List.length_eq_zero_iff.mp hz
    subst this; simp
  · have h6 : nl.getD 0 = 0 := by omega
    rw [h6] at this ⊢
    simp only [List.drop_zero, Nat.sub_zero] at this ⊢
    exact List.take_of_length_le (by omega)
theorem map_toD (ds : List Dt) : (ds.map Tr.dat).map toD = ds := by rw [List.map_map]; exact List.map_id'' (fun _ => rfl) ds
theorem s_slT {lo hi : Op} (ha : SE P w K mg base ca a) (hl : SO P w K mg base ca lo) (hh : SO P w K mg base ca hi) : SE P w K mg base ca (.slT a lo hi) := .plain (fun F x ρ M v X Q h hr he hx hw => by
    rw [mE] at h; unfold hE_slT at h
    split at h
    rotate_left
    · cases h
    simp only [Bool.and_eq_true] at h
    obtain ⟨⟨h1, h2⟩, h3⟩ := h
    refine .mk fun H 𝓗 σ c hE => ?_
    refine uE.by (t := tSl (orSl (rSlA K) (rSlN K)) (uE F _) (toOf F _) (toOf F _)) (fun j => pe_slice (slOr (fSlT j) (fSlN j)) (pe_u j) (po_u j _) (po_u j _)) (((ha.ew F _ ρ M v X _ h1 hr.1 he hx hw).run H 𝓗 σ c hE).mono fun u 𝓗1 ⟨H1, M1, r1, c1, s1, q1, e1, t1, f1, g1, _, w1⟩ => ?_)
    subst e1
    dsimp only at w1
    split at w1
    · rename_i ds
      cases g1
      refine hl.go F _ ρ M1 v X _ h2 hr.2.1 he hx w1 H1 𝓗1 σ c1 (hE.mono s1) _ fun i H2 𝓗2 w2 c2 s2 => ?_
      refine hh.go F _ ρ M1 v X _ h3 hr.2.2 he hx w2 H2 𝓗2 σ c2 (hE.mono (s1.trans s2)) _ fun j H3 𝓗3 w3 c3 s3 => ?_
      obtain ⟨n1, n2, w3⟩ := w3
      rw [cutN_map, map_toD] at w3
      have q3 := q1.mono (s2.trans s3)
      obtain ⟨p, vs, rfl, e2, e3⟩ := tup_seq c3 q3
      have i1 := toNat_oI n1
      have j1 := toNat_oI n2
      rw [← i1, ← j1]
      refine .inl ⟨p, vs, rfl, e2, fun hw => ?_, fun hw q hq => ?_⟩
      · rw [whole_cut e3 hw] at w3
        exact qvD c3 ((s1.trans s2).trans s3) q3 w3
      · obtain ⟨c4, s4⟩ := c3.newF (o := .tup (cutV vs (oI (i.map Int.toNat)) (oI (j.map Int.toNat)))) hq
        refine qvD (d := .tup _) c4 (((s1.trans s2).trans s3).trans s4) ?_ w3
        unfold DA
        refine ⟨q, _, rfl, SqT.of upd_same, ?_⟩
        refine (SlsOk.das.mp ?_).mono s4
        rw [cutV_eq, ← cutN_map]
        exact paired_cut e3 _ _
    · rename_i ds
      cases g1
      refine hl.go F _ ρ M1 v X _ h2 hr.2.1 he hx w1 H1 𝓗1 σ c1 (hE.mono s1) _ fun i H2 𝓗2 w2 c2 s2 => ?_
      refine hh.go F _ ρ M1 v X _ h3 hr.2.2 he hx w2 H2 𝓗2 σ c2 (hE.mono (s1.trans s2)) _ fun j H3 𝓗3 w3 c3 s3 => ?_
      obtain ⟨n1, n2, w3⟩ := w3
      rw [cutN_map, map_toD] at w3
      have q3 := q1.mono (s2.trans s3)
      obtain ⟨p, vs, o, rfl, e2, _, _, e3⟩ := nup_seq c3 q3
      have i1 := toNat_oI n1
      have j1 := toNat_oI n2
      rw [← i1, ← j1]
      refine .inr ⟨p, o, vs, rfl, e2, fun hw => ?_, fun hw q o' hq ho1 ho2 => ?_⟩
      · rw [whole_cut e3 hw] at w3
        exact qvD c3 ((s1.trans s2).trans s3) q3 w3
      · obtain ⟨c4, s4⟩ := c3.newF (o := .frz o' (.tup (cutV vs (oI (i.map Int.toNat)) (oI (j.map Int.toNat))))) hq
        refine qvD (d := .nup _) c4 (((s1.trans s2).trans s3).trans s4) ?_ w3
        unfold DA
        refine ⟨q, o', _, rfl, upd_same, ho1, ho2, ?_⟩
        refine (SlsOk.das.mp ?_).mono s4
        rw [cutV_eq, ← cutN_map]
        exact paired_cut e3 _ _
    · exact w1.elim) (fun N lv sc x h => by rw [mE] at h; unfold hE_slT at h; split at h <;> first | rfl | cases h)
end
end DD
namespace DD
open PySem PySem.Spec PyProof.Rows L2 DL
section
variable {P : Program} {w : World} {K : PySem.W.Frag} {mg : Str → Option Value} {base : Heap} {N : List Str} {sc : Scope} {F : Fm P w K mg base N sc} {ca : Str → Addr}
variable {ρ : Rho} {M : OH} {v : Env} {x y z : Expr} {pos : Pos} {r r1 r2 : Sl} {e a b c : E}
theorem ints_of {ts : List Tr} (h : ts.all isI = true) : ts.all isD = true ∧ ts.map toD = (ts.map toI).map .int := by
  induction ts with
  | nil => exact ⟨rfl, rfl⟩
  | cons t ts ih =>
    rw [List.all_cons, Bool.and_eq_true] at h
    obtain ⟨i1, i2⟩ := ih h.2
    cases t with
    | dat d =>
      cases d with
      | int i => exact ⟨by rw [List.all_cons, i1]; rfl, by rw [List.map_cons, List.map_cons, List.map_cons, i2]; rfl⟩
      | _ => simp [isI] at h
    | un => simp [isI] at h
    | own _ => simp [isI] at h
theorem bools_of {ts : List Tr} (h : ts.all isB = true) : ts.all isD = true ∧ ts.map toD = (ts.map toB).map .bl := by
  induction ts with
  | nil => exact ⟨rfl, rfl⟩
  | cons t ts ih =>
    rw [List.all_cons, Bool.and_eq_true] at h
    obtain ⟨i1, i2⟩ := ih h.2
    cases t with
    | dat d =>
      cases d with
      | bl i => exact ⟨by rw [List.all_cons, i1]; rfl, by rw [List.map_cons, List.map_cons, List.map_cons, i2]; rfl⟩
      | _ => simp [isB] at h
    | un => simp [isB] at h
    | own _ => simp [isB] at h
/-- one argument -/
theorem aw1 {Q : Tr → Prop} {R : List Sl → OH → Prop} (h : EW F ρ M x (RV M v ρ a Q)) (hn : nsB x = true) (k : ∀ s t f, TrR M t s f → Rt M v ρ a t f → Q t → R [s] M) : AW F ρ M [x] R := aw_cons (h.mono fun r M' ⟨e1, t, f, q1, rt, q2⟩ => by
  subst e1
  exact aw_nil (k r t f q1 rt q2)) (ns_of hn)
theorem rvI {Q : Tr → Prop} {d : Dt} (q : Q (.dat d)) : ∀ r' M', (r' = Sl.dat d ∧ M' = M) → RV M v ρ e Q r' M' := fun r' M' ⟨a, b⟩ => by subst a b; exact rvD q
theorem CallD.mono {t : List V → Hp → VK → Prop} {rs : List Sl} {Q Q' : Sl → OH → Prop} (h : CallD F t rs M Q) (m : ∀ r M', Q r M' → Q' r M') : CallD F t rs M Q' := fun H 𝓗 vs R c q k => h H 𝓗 vs R c q fun v' 𝓗' ⟨H', M', r, a, b, d, q⟩ => k v' 𝓗' ⟨H', M', r, a, b, d, m _ _ q⟩
/-! ### built-ins of one thing -/
theorem fAll (i : F.ι) : CallR (F.X i) (.builtin "all") (rAll K) := by have h := cr_all (X := F.X i) (F.hc i); rw [F.eK i] at h; exact h
theorem fTupN (i : F.ι) : CallR (F.X i) (.type "tuple") (fun xs H Q => ∃ p ys, xs = [.ref p] ∧ SqL K H p ys ∧ ∀ l o, H l = none → o.cls = .type "tuple" → o.dict = none → Q (.ref l) (upd H l (.frz o (.tup ys)))) := by have h := call_tupleN (X := F.X i); rw [F.eK i] at h; exact h
theorem cd_len {s : Sl} {xs : List Sl} (hl : SqOf M s xs) : CallD F (fun xs H Q => ∃ p ys, xs = [.ref p] ∧ (SqL K H p ys ∨ SqT K H p ys) ∧ Q (.int ys.length) H) [s] M fun r' M' => r' = .dat (.int (xs.length : Int)) ∧ M' = M := fun H 𝓗 vs Q' c q k => by
  obtain ⟨v, rfl, qv⟩ := sl1 q
  obtain ⟨p, ws, rfl, e2, e3⟩ := hl.seq c qv
  refine ⟨p, ws, rfl, e2, here c k ?_⟩
  show DA K H _ _
  unfold DA
  rw [e3.length]
theorem cd_sum {s : Sl} {ns : List Int} (hl : LsOf M s ((ns.map Dt.int).map .dat)) : CallD F (rSum K) [s] M fun r' M' => r' = .dat (.int ns.sum) ∧ M' = M := fun H 𝓗 vs Q' c q k => by
  obtain ⟨v, rfl, qv⟩ := sl1 q
  obtain ⟨p, ws, rfl, e2, e3⟩ := hl.seq c qv
  rw [vInts (SlsOk.das.mp e3)] at e2
  exact ⟨p, ns, rfl, e2, here c k (by show DA K H _ _; unfold DA; rfl)⟩
theorem cd_max {s : Sl} {ns : List Int} {Q : Tr → Prop} (hl : LsOf M s ((ns.map Dt.int).map .dat)) (hn : 0 < ns.length) (kk : ∀ m, m ∈ ns → (∀ y ∈ ns, y ≤ m) → Q (.dat (.int m))) : CallD F (rMax K) [s] M (RV M v ρ e Q) := fun H 𝓗 vs Q' c q k => by
  obtain ⟨v, rfl, qv⟩ := sl1 q
  obtain ⟨p, ws, rfl, e2, e3⟩ := hl.seq c qv
  rw [vInts (SlsOk.das.mp e3)] at e2
  exact ⟨p, ns, rfl, e2, hn, fun m h1 h2 => k _ _ (qvD c (Same.refl H) daI (kk m h1 h2))⟩
theorem cd_any {s : Sl} {bs : List Bool} (hl : LsOf M s ((bs.map Dt.bl).map .dat)) : CallD F (rAny K) [s] M fun r' M' => r' = .dat (.bl (bs.any id)) ∧ M' = M := fun H 𝓗 vs Q' c q k => by
  obtain ⟨v, rfl, qv⟩ := sl1 q
  obtain ⟨p, ws, rfl, e2, e3⟩ := hl.seq c qv
  rw [vBls (SlsOk.das.mp e3)] at e2
  exact ⟨p, bs, rfl, e2, here c k (by show DA K H _ _; unfold DA; rfl)⟩
theorem cd_all {s : Sl} {bs : List Bool} (hl : LsOf M s ((bs.map Dt.bl).map .dat)) : CallD F (rAll K) [s] M fun r' M' => r' = .dat (.bl (bs.all id)) ∧ M' = M := fun H 𝓗 vs Q' c q k => by
  obtain ⟨v, rfl, qv⟩ := sl1 q
  obtain ⟨p, ws, rfl, e2, e3⟩ := hl.seq c qv
  rw [vBls (SlsOk.das.mp e3)] at e2
  exact ⟨p, bs, rfl, e2, here c k (by show DA K H _ _; unfold DA; rfl)⟩
theorem cd_tuple {s : Sl} {ds : List Dt} (hl : LsOf M s (ds.map .dat)) : CallD F (fun xs H Q => ∃ p ys, xs = [.ref p] ∧ ((SqL K H p ys ∧ ∀ l, H l = none → Q (.ref l) (upd H l (.tup ys))) ∨ (SqT K H p ys ∧ Q (.ref p) H))) [s] M fun r' M' => r' = .dat (.tup ds) ∧ M' = M := fun H 𝓗 vs Q' c q k => by
  obtain ⟨v, rfl, qv⟩ := sl1 q
  obtain ⟨p, ws, rfl, e2, e3⟩ := hl.seq c qv
  refine ⟨p, ws, rfl, .inl ⟨e2, fun l hl => ?_⟩⟩
  obtain ⟨c2, s2⟩ := c.newF (o := .tup ws) hl
  refine k _ _ ⟨_, _, .dat (.tup ds), c2, s2, ?_, rfl, rfl⟩
  show DA K _ (.tup ds) _
  unfold DA
  exact ⟨l, ws, rfl, SqT.of upd_same, (SlsOk.das.mp e3).mono s2⟩
theorem cd_tupleN {s : Sl} {ds : List Dt} (hl : LsOf M s (ds.map .dat)) : CallD F (fun xs H Q => ∃ p ys, xs = [.ref p] ∧ SqL K H p ys ∧ ∀ l o, H l = none → o.cls = .type "tuple" → o.dict = none → Q (.ref l) (upd H l (.frz o (.tup ys)))) [s] M fun r' M' => r' = .dat (.nup ds) ∧ M' = M := fun H 𝓗 vs Q' c q k => by
  obtain ⟨v, rfl, qv⟩ := sl1 q
  obtain ⟨p, ws, rfl, e2, e3⟩ := hl.seq c qv
  refine ⟨p, ws, rfl, e2, fun l o hl h1 h2 => ?_⟩
  obtain ⟨c2, s2⟩ := c.newF (o := .frz o (.tup ws)) hl
  refine k _ _ ⟨_, _, .dat (.nup ds), c2, s2, ?_, rfl, rfl⟩
  show DA K _ (.nup ds) _
  unfold DA
  exact ⟨l, o, ws, rfl, upd_same, h1, h2, (SlsOk.das.mp e3).mono s2⟩
theorem cd_int {k : Bool} : CallD F (fun vs H Q => (∃ n, vs = [V.int n] ∧ Q (.int n) H) ∨ ∃ b, vs = [V.bl b] ∧ Q (.int (if b = true then 1 else 0)) H) [.dat (.bl k)] M fun r' M' => r' = .dat (.int (if k then 1 else 0)) ∧ M' = M := fun H 𝓗 vs Q' c q kk => by
  obtain ⟨v, rfl, qv⟩ := sl1 q
  have q' : v = .bl k := qv
  subst q'
  exact .inr ⟨k, rfl, here c kk rfl⟩
theorem s_f1 {f : F1} (ha : SE P w K mg base ca a) : SE P w K mg base ca (.f1 f a) := .plain (fun F x ρ M v X Q h hr he hx hw => by
    rw [mE] at h; unfold hE_f1 at h
    split at h
    rotate_left
    · cases h
    rename_i g p1 x p2
    simp only [Bool.and_eq_true, decide_eq_true_eq] at h
    obtain ⟨⟨⟨rfl, hg⟩, hn⟩, h1⟩ := h
    obtain ⟨hb, hr⟩ := hr
    cases f with
    | len =>
      have hb : mg "len" = none := hb
      exact ew_cb (fun i => pe_callB (fLen i) (gl_of hg i) (hmg hb i) PySem.boot_len (pa_u i) (he := ns_of hn i) (hpl := np_of rfl i)) (aw1 (ha.ew F _ ρ M v X _ h1 hr he hx hw) hn fun s t f q1 _ q2 => by
        simp only [f1Q] at q2
        obtain ⟨ts, xs, g, l1, l2, w1⟩ := asQ_of q1 q2
        refine CallD.mono (cd_len l1) (rvI ?_)
        rw [l2.length]; exact w1)
    | sum =>
      have hb : mg "sum" = none := hb
      exact ew_cb (fun i => pe_callB (fSum i) (gl_of hg i) (hmg hb i) (by decide +kernel) (pa_u i) (he := ns_of hn i) (hpl := np_of rfl i)) (aw1 (ha.ew F _ ρ M v X _ h1 hr he hx hw) hn fun s t f q1 _ q2 => by
        simp only [f1Q] at q2
        obtain ⟨ts, xs, g, l1, l2, w0, w1⟩ := asL_of q1 q2
        obtain ⟨i1, i2⟩ := ints_of w0
        obtain ⟨_, e2, _⟩ := l2.allD i1
        rw [e2, i2] at l1
        exact CallD.mono (cd_sum l1) (rvI w1))
    | max =>
      have hb : mg "max" = none := hb
      exact ew_cb (fun i => pe_callB (fMax i) (gl_of hg i) (hmg hb i) (by decide +kernel) (pa_u i) (he := ns_of hn i) (hpl := np_of rfl i)) (aw1 (ha.ew F _ ρ M v X _ h1 hr he hx hw) hn fun s t f q1 _ q2 => by
        simp only [f1Q] at q2
        obtain ⟨ts, xs, g, l1, l2, w0, w2, w1⟩ := asL_of q1 q2
        obtain ⟨i1, i2⟩ := ints_of w0
        obtain ⟨_, e2, _⟩ := l2.allD i1
        rw [e2, i2] at l1
        exact cd_max l1 (by rw [List.length_map]; exact w2) w1)
    | any =>
      have hb : mg "any" = none := hb
      exact ew_cb (fun i => pe_callB (fAny i) (gl_of hg i) (hmg hb i) (by decide +kernel) (pa_u i) (he := ns_of hn i) (hpl := np_of rfl i)) (aw1 (ha.ew F _ ρ M v X _ h1 hr he hx hw) hn fun s t f q1 _ q2 => by
        simp only [f1Q] at q2
        obtain ⟨ts, xs, g, l1, l2, w0, w1⟩ := asL_of q1 q2
        obtain ⟨i1, i2⟩ := bools_of w0
        obtain ⟨_, e2, _⟩ := l2.allD i1
        rw [e2, i2] at l1
        exact CallD.mono (cd_any l1) (rvI w1))
    | all =>
      have hb : mg "all" = none := hb
      exact ew_cb (fun i => pe_callB (fAll i) (gl_of hg i) (hmg hb i) (by decide +kernel) (pa_u i) (he := ns_of hn i) (hpl := np_of rfl i)) (aw1 (ha.ew F _ ρ M v X _ h1 hr he hx hw) hn fun s t f q1 _ q2 => by
        simp only [f1Q] at q2
        obtain ⟨ts, xs, g, l1, l2, w0, w1⟩ := asL_of q1 q2
        obtain ⟨i1, i2⟩ := bools_of w0
        obtain ⟨_, e2, _⟩ := l2.allD i1
        rw [e2, i2] at l1
        exact CallD.mono (cd_all l1) (rvI w1))
    | int =>
      have hb : mg "int" = none := hb
      exact ew_cb (fun i => pe_callTy call_int1 (gl_of hg i) (hmg hb i) (by decide +kernel) (pa_u i) (he := ns_of hn i) (hpl := np_of rfl i)) (aw1 (ha.ew F _ ρ M v X _ h1 hr he hx hw) hn fun s t f q1 _ q2 => by
        simp only [f1Q] at q2
        obtain ⟨k, rfl, w1⟩ := asB_of q1 q2
        exact CallD.mono cd_int (rvI w1))
    | tuple =>
      have hb : mg "tuple" = none := hb
      exact ew_cb (fun i => pe_callTy (fTupleOf i) (gl_of hg i) (hmg hb i) (by decide +kernel) (pa_u i) (he := ns_of hn i) (hpl := np_of rfl i)) (aw1 (ha.ew F _ ρ M v X _ h1 hr he hx hw) hn fun s t f q1 _ q2 => by
        simp only [f1Q] at q2
        obtain ⟨ts, xs, g, l1, l2, w0, w1⟩ := asL_of q1 q2
        obtain ⟨_, e2, _⟩ := l2.allD w0
        rw [e2] at l1
        exact CallD.mono (cd_tuple l1) (rvI w1))
    | tupleN =>
      have hb : mg "tuple" = none := hb
      exact ew_cb (fun i => pe_callTy (fTupN i) (gl_of hg i) (hmg hb i) (by decide +kernel) (pa_u i) (he := ns_of hn i) (hpl := np_of rfl i)) (aw1 (ha.ew F _ ρ M v X _ h1 hr he hx hw) hn fun s t f q1 _ q2 => by
        simp only [f1Q] at q2
        obtain ⟨ts, xs, g, l1, l2, w0, w1⟩ := asL_of q1 q2
        obtain ⟨_, e2, _⟩ := l2.allD w0
        rw [e2] at l1
        exact CallD.mono (cd_tupleN l1) (rvI w1))
    | lenSet =>
      obtain ⟨hb1, hb2⟩ := hb
      have hb1 : mg "len" = none := hb1
      have hb2 : mg "set" = none := hb2
      dsimp only at h1
      unfold mLs at h1
      split at h1
      rotate_left
      · exact absurd h1 (by decide)
      rename_i hh p3 y p4
      simp only [Bool.and_eq_true, decide_eq_true_eq] at h1
      obtain ⟨⟨⟨rfl, hg2⟩, hn2⟩, h3⟩ := h1
      refine .mk fun H 𝓗 σ c hE => ?_
      refine uE.by (t := tLenSetG K (uE F _)) (fun j => by have z := pe_lenSetG (p := p1) (p2 := p3) (q := p4) (pos := p2) (gl_of hg j) (hmg hb1 j) (gl_of hg2 j) (hmg hb2 j) (pe_u j) (F.hc j) (ns_of hn2 j); rw [F.eK j] at z; exact z) (((ha.ew F _ ρ M v X _ h3 hr he hx hw).run H 𝓗 σ c hE).mono fun u 𝓗1 ⟨H1, M1, r1, c1, s1, q1, e1, t1, f1, g1, _, w1⟩ => ?_)
      subst e1
      simp only [f1Q] at w1
      obtain ⟨ts, xs, g, l1, l2, w0, wz, w1⟩ := asL_of g1 w1
      obtain ⟨i1, i2⟩ := ints_of w0
      obtain ⟨_, e2, _⟩ := l2.allD i1
      rw [e2, i2] at l1
      obtain ⟨p, ws, rfl, e5, e6⟩ := l1.seq c1 q1
      rw [vInts (SlsOk.das.mp e6)] at e5
      exact ⟨p, ts.map toI, rfl, e5, by rw [List.length_map]; exact wz, qvD c1 s1 daI w1⟩) (fun N lv sc x h => by rw [mE] at h; unfold hE_f1 at h; split at h <;> first | rfl | cases h)
end
end DD
namespace DD
open PySem PySem.Spec PyProof.Rows L2 DL
section
variable {P : Program} {w : World} {K : PySem.W.Frag} {mg : Str → Option Value} {base : Heap} {N : List Str} {sc : Scope} {F : Fm P w K mg base N sc} {ca : Str → Addr}
variable {ρ : Rho} {M : OH} {v : Env} {x y z : Expr} {pos : Pos} {r r1 r2 : Sl} {e a b c : E}
theorem s_max2 (ha : SE P w K mg base ca a) (hb : SE P w K mg base ca b) : SE P w K mg base ca (.max2 a b) := .plain (fun F x ρ M v X Q h hr he hx hw => by
    rw [mE] at h; unfold hE_max2 at h
    split at h
    rotate_left
    · cases h
    simp only [Bool.and_eq_true, decide_eq_true_eq] at h
    obtain ⟨⟨⟨⟨⟨rfl, hg⟩, hn1⟩, hn2⟩, h1⟩, h2⟩ := h
    obtain ⟨hm, ra, rb⟩ := hr
    have hm : mg "max" = none := hm
    refine ew_cb (fun i => pe_callB (call_max2 (F.hc i)) (gl_of hg i) (hmg hm i) (by decide +kernel) (pa_u i) (he := ns_of hn1 i) (hpl := np_of (by rw [List.all_cons, hn2]; rfl) i)) (aw_cons ((ha.ew F _ ρ M v X _ h1 ra he hx hw).mono fun s1 M1 ⟨e1, t1, f1, q1, _, w1⟩ => ?_) (ns_of hn1))
    subst e1
    obtain ⟨i, rfl, w1⟩ := asI_of q1 w1
    refine aw1 (hb.ew F _ ρ M1 v X _ h2 rb he hx w1) hn2 fun s2 t2 f2 q2 _ w2 => ?_
    obtain ⟨j, rfl, w2⟩ := asI_of q2 w2
    exact fun H 𝓗 vs Q' c q k => by
      obtain ⟨u, u2, rfl, g1, g2⟩ := sl2 q
      have g1' : u = .int i := g1
      have g2' : u2 = .int j := g2
      subst g1' g2'
      exact ⟨i, j, rfl, k _ _ (qvD c (Same.refl H) daI w2)⟩) (fun N lv sc x h => by rw [mE] at h; unfold hE_max2 at h; split at h <;> first | rfl | cases h)
/-! ### count, index -/
theorem asM_of {k : List Tr → Prop} {t : Tr} {s : Sl} {f : List Addr} (r : TrR M t s f) (h : asM k t) : ∃ ts xs g, TrsR M ts xs g ∧ k ts ∧ (LsOf M s xs ∨ ∃ ds, s = .dat (.nup ds) ∧ xs = ds.map .dat) := by
  cases r with
  | own e q => exact ⟨_, _, _, q, h, .inl (.raw e)⟩
  | @dat d =>
    cases d with
    | lst ds => exact ⟨_, _, _, .dats, h, .inl (.dat ds)⟩
    | nup ds => exact ⟨_, _, _, .dats, h, .inr ⟨ds, rfl, rfl⟩⟩
    | _ => exact h.elim
theorem fCntT (i : F.ι) : MtR (F.X i) "tuple.count" (rCntT K) := by have h := mt_tcount (X := F.X i); rw [F.eK i] at h; exact h
theorem fIdxT (i : F.ι) : MtR (F.X i) "tuple.index" (rIdxT K) := by have h := mt_tindex (X := F.X i); rw [F.eK i] at h; exact h
theorem s_cnt (ha : SE P w K mg base ca a) (hb : SE P w K mg base ca b) : SE P w K mg base ca (.cnt a b) := .plain (fun F x ρ M v X Q h hr he hx hw => by
    rw [mE] at h; unfold hE_cnt at h
    split at h
    rotate_left
    · cases h
    simp only [Bool.and_eq_true, decide_eq_true_eq] at h
    obtain ⟨⟨⟨⟨⟨rfl, hab⟩, hl⟩, hn⟩, h1⟩, h2⟩ := h
    refine .mk fun H 𝓗 σ c hE => ?_
    refine uE.by (t := tBM2 K (rCntI K) (rCntT K) (uE F _) (uA F [_])) (fun j => by
      have q := pe_bm2 (X := F.X j) PySem.F.slot_list_count PySem.F.type_list_count (fCnt j) PySem.F.slot_tuple_count PySem.F.type_tuple_count (fCntT j) (pe_u j) (pa_u j) (ab_of hab j) (fw1_of hn j) hl (ns_of hn j)
      rw [F.eK j] at q; exact q) (((ha.ew F _ ρ M v X _ h1 hr.1 he hx hw).run H 𝓗 σ c hE).mono fun u 𝓗1 ⟨H1, M1, r1, c1, s1, q1, e1, t1, f1, g1, _, w1⟩ => ?_)
    subst e1
    obtain ⟨ts, xs, g, l2, w1, hs⟩ := asM_of g1 w1
    have arg := (aw1 (R := fun rs M2 => M2 = M1 ∧ ∃ k, rs = [.dat (.int k)] ∧ ts.all isI = true ∧ Q (.dat (.int ((ts.map toI).count k : Nat)))) (hb.ew F _ ρ M1 v X _ h2 hr.2 he hx w1) hn fun s2 t2 f2 q2 _ w2 => by
      obtain ⟨k, rfl, w3, w4⟩ := asI_of q2 w2
      exact ⟨rfl, k, rfl, w3, w4⟩).run H1 𝓗1 σ c1 (hE.mono s1)
    rcases hs with hs | ⟨ds, rfl, rfl⟩
    · refine .inl ⟨fTy c1 hs q1, arg.mono fun vs 𝓗2 ⟨H2, M2, rs, c2, s2, q2, e2, k, e3, wi, w2⟩ => ?_⟩
      subst e2 e3
      obtain ⟨u2, rfl, z2⟩ := sl1 q2
      have z2' : u2 = .int k := z2
      subst z2'
      obtain ⟨i1, i2⟩ := ints_of wi
      obtain ⟨_, e5, _⟩ := l2.allD i1
      rw [e5, i2] at hs
      obtain ⟨p, ws, rfl, y2, y3⟩ := hs.seq c2 (q1.mono s2)
      rw [vInts (SlsOk.das.mp y3)] at y2
      exact ⟨p, _, k, rfl, rfl, y2, qvD c2 (s1.trans s2) daI w2⟩
    · obtain ⟨p, vs, o, rfl, n1, n2, n3, n4⟩ := nup_seq c1 q1
      refine .inr ⟨⟨p, o, vs, rfl, n1, n2, n3⟩, arg.mono fun vs' 𝓗2 ⟨H2, M2, rs, c2, s2, q2, e2, k, e3, wi, w2⟩ => ?_⟩
      subst e2 e3
      obtain ⟨u2, rfl, z2⟩ := sl1 q2
      have z2' : u2 = .int k := z2
      subst z2'
      obtain ⟨i1, i2⟩ := ints_of wi
      obtain ⟨p', vs2, o', y0, m1, m2, m3, m4⟩ := nup_seq c2 (SlOk.mono s2 q1)
      cases y0
      obtain ⟨_, e5, _⟩ := l2.allD i1
      rw [e5, i2] at m4
      rw [vInts (SlsOk.das.mp m4)] at m1
      exact ⟨p, _, k, rfl, rfl, .inl (.inr ⟨o', m1⟩), qvD c2 (s1.trans s2) daI w2⟩) (fun N lv sc x h => by rw [mE] at h; unfold hE_cnt at h; split at h <;> first | rfl | cases h)
theorem eqVI {i j : Int} : eqV (V.int i) (V.int j) = decide (i = j) := by
  unfold eqV
  by_cases h : i = j
  · subst h; simp
  · simp [h]
theorem s_idx (ha : SE P w K mg base ca a) (hb : SE P w K mg base ca b) : SE P w K mg base ca (.idx a b) := .plain (fun F x ρ M v X Q h hr he hx hw => by
    rw [mE] at h; unfold hE_idx at h
    split at h
    rotate_left
    · cases h
    simp only [Bool.and_eq_true, decide_eq_true_eq] at h
    obtain ⟨⟨⟨⟨⟨rfl, hab⟩, hl⟩, hn⟩, h1⟩, h2⟩ := h
    refine .mk fun H 𝓗 σ c hE => ?_
    refine uE.by (t := tBM2 K (rIndex K) (rIdxT K) (uE F _) (uA F [_])) (fun j => by
      have q := pe_bm2 (X := F.X j) PySem.F.slot_list_index PySem.F.type_list_index (fIdx j) PySem.F.slot_tuple_index PySem.F.type_tuple_index (fIdxT j) (pe_u j) (pa_u j) (ab_of hab j) (fw1_of hn j) hl (ns_of hn j)
      rw [F.eK j] at q; exact q) (((ha.ew F _ ρ M v X _ h1 hr.1 he hx hw).run H 𝓗 σ c hE).mono fun u 𝓗1 ⟨H1, M1, r1, c1, s1, q1, e1, t1, f1, g1, _, w1⟩ => ?_)
    subst e1
    obtain ⟨ts, xs, g, l2, w1, hs⟩ := asM_of g1 w1
    have arg := (aw1 (R := fun rs M2 => M2 = M1 ∧ ∃ k, rs = [.dat (.int k)] ∧ ts.all isI = true ∧ ∃ j : Nat, fstIx (ts.map toI) k j ∧ Q (.dat (.int (j : Nat)))) (hb.ew F _ ρ M1 v X _ h2 hr.2 he hx w1) hn fun s2 t2 f2 q2 _ w2 => by
      obtain ⟨k, rfl, w3, w4⟩ := asI_of q2 w2
      exact ⟨rfl, k, rfl, w3, w4⟩).run H1 𝓗1 σ c1 (hE.mono s1)
    rcases hs with hs | ⟨ds, rfl, rfl⟩
    · refine .inl ⟨fTy c1 hs q1, arg.mono fun vs 𝓗2 ⟨H2, M2, rs, c2, s2, q2, e2, k, e3, wi, jj, wj, w2⟩ => ?_⟩
      subst e2 e3
      obtain ⟨u2, rfl, z2⟩ := sl1 q2
      have z2' : u2 = .int k := z2
      subst z2'
      obtain ⟨i1, i2⟩ := ints_of wi
      obtain ⟨_, e5, _⟩ := l2.allD i1
      rw [e5, i2] at hs
      obtain ⟨p, ws, rfl, y2, y3⟩ := hs.seq c2 (q1.mono s2)
      rw [vInts (SlsOk.das.mp y3)] at y2
      refine ⟨p, _, .int k, jj, .int k, rfl, rfl, y2, rfl, ?_, by rw [List.getElem?_map, wj.1]; rfl, by rw [eqVI]; simp, fun m z' hm hz => ?_, qvD c2 (s1.trans s2) daI w2⟩
      · rw [List.all_map]; exact List.all_eq_true.mpr fun _ _ => rfl
      · rw [List.getElem?_map] at hz
        cases e : (ts.map toI)[m]? with
        | none => rw [e] at hz; cases hz
        | some i =>
          rw [e] at hz; cases hz
          rw [eqVI]
          exact decide_eq_false fun z => wj.2 m hm (by rw [e, z])
    · obtain ⟨p, vs, o, rfl, n1, n2, n3, n4⟩ := nup_seq c1 q1
      refine .inr ⟨⟨p, o, vs, rfl, n1, n2, n3⟩, arg.mono fun vs' 𝓗2 ⟨H2, M2, rs, c2, s2, q2, e2, k, e3, wi, jj, wj, w2⟩ => ?_⟩
      subst e2 e3
      obtain ⟨u2, rfl, z2⟩ := sl1 q2
      have z2' : u2 = .int k := z2
      subst z2'
      obtain ⟨i1, i2⟩ := ints_of wi
      obtain ⟨p', vs2, o', y0, m1, m2, m3, m4⟩ := nup_seq c2 (SlOk.mono s2 q1)
      cases y0
      obtain ⟨_, e5, _⟩ := l2.allD i1
      rw [e5, i2] at m4
      rw [vInts (SlsOk.das.mp m4)] at m1
      exact ⟨p, _, k, jj, rfl, rfl, .inl (.inr ⟨o', m1⟩), wj.1, wj.2, qvD c2 (s1.trans s2) daI w2⟩) (fun N lv sc x h => by rw [mE] at h; unfold hE_idx at h; split at h <;> first | rfl | cases h)
end
end DD
namespace DD
open PySem PySem.Spec PyProof.Rows L2 DL
section
variable {P : Program} {w : World} {K : PySem.W.Frag} {mg : Str → Option Value} {base : Heap} {N : List Str} {sc : Scope} {F : Fm P w K mg base N sc} {ca : Str → Addr}
variable {ρ : Rho} {M : OH} {v : Env} {x y z : Expr} {pos : Pos} {r r1 r2 : Sl} {e a b c : E}
theorem tyT_ok {t : Tr} {f : List Addr} {T : String} (q : TrR M t r f) (h : tyT t = some T) : tyS M r = some T := by
  cases q with
  | @dat d => cases d <;> exact h
  | own e hs =>
    show (if (M _).isSome = true then some "list" else none) = some T
    rw [e]
    exact h
theorem s_isi {T : String} (ha : SE P w K mg base ca a) : SE P w K mg base ca (.isi a T) := .plain (fun F x ρ M v X Q h hr he hx hw => by
    rw [mE] at h; unfold hE_isi at h
    split at h
    rotate_left
    · cases h
    simp only [Bool.and_eq_true, decide_eq_true_eq] at h
    obtain ⟨⟨⟨⟨⟨⟨⟨rfl, hg⟩, hn⟩, rfl⟩, hg2⟩, hnm⟩, hbt⟩, h1⟩ := h
    obtain ⟨hb, hb2, hr⟩ := hr
    have hb : mg "isinstance" = none := hb
    have hb2 : mg (Str.ofString T) = none := hb2
    obtain ⟨m1, m2, m3⟩ := nm_of hnm
    refine ew_cb (fun i => pe_callB (fIsi i) (gl_of hg i) (hmg hb i) (by decide +kernel) (pa_u i) (he := ns_of hn i) (hpl := np_of rfl i)) (aw_cons ((ha.ew F _ ρ M v X _ h1 hr he hx hw).mono fun s1 M1 ⟨e1, t1, f1, q1, _, T', k, w1, w2, w3⟩ => ?_) (ns_of hn))
    subst e1
    have hty : ∀ pp, ED F ρ M1 (.Name (Str.ofString T) pp) (.raw (.ty T)) := fun pp => ed_c (fun i => pe_bltn (v := .ty T) (gl_of hg2 i) (hmg hb2 i) hbt rfl m3 m1) fun _ => rfl
    refine (ad_cons (hty _) ad_nil (ns_of rfl)).aw fun H 𝓗 vs Q' c q kk => ?_
    obtain ⟨u, u2, rfl, g1, g2⟩ := sl2 q
    have g2' : u2 = .ty T := g2
    subst g2'
    exact ⟨u, .ty T, .type T', .type T, k, rfl, .ty T, tyS_ok c g1 (tyT_ok q1 w1), kit_ty w2, kk _ _ (qvD c (Same.refl H) daB w3)⟩) (fun N lv sc x h => by rw [mE] at h; unfold hE_isi at h; split at h <;> first | rfl | cases h)
theorem s_isiC {n : Str} {C : Addr} (ha : SE P w K mg base ca a) : SE P w K mg base ca (.isiC a n C) := .plain (fun F x ρ M v X Q h hr he hx hw => by
    rw [mE] at h; unfold hE_isiC at h
    split at h
    rotate_left
    · cases h
    simp only [Bool.and_eq_true, decide_eq_true_eq] at h
    obtain ⟨⟨⟨⟨⟨⟨rfl, hg⟩, hn⟩, rfl⟩, hg2⟩, hnm⟩, h1⟩ := h
    obtain ⟨hb, hk, hr⟩ := hr
    have hb : mg "isinstance" = none := hb
    have hk : Kls P w K mg base _ C := hk
    obtain ⟨m1, m2, m3⟩ := nm_of hnm
    refine ew_cb (fun i => pe_callB (fIsi i) (gl_of hg i) (hmg hb i) (by decide +kernel) (pa_u i) (he := ns_of hn i) (hpl := np_of rfl i)) (aw_cons ((ha.ew F _ ρ M v X _ h1 hr he hx hw).mono fun s1 M1 ⟨e1, t1, f1, q1, _, w1⟩ => ?_) (ns_of hn))
    subst e1
    obtain ⟨d, _, rfl, w1⟩ := asD_of q1 w1
    split at w1
    rotate_left
    · exact w1.elim
    rename_i C' nns dds _ _
    obtain ⟨ec, w9⟩ := w1
    subst ec
    have hty : ∀ pp, ED F ρ M1 (.Name _ pp) (.raw (.ref C')) := fun pp => ed_glob (v := .ref C') (u := .ref C') hk.here rfl (fun _ => rfl) (gl_of hg2) m1
    refine (ad_cons (hty _) ad_nil (ns_of rfl)).aw fun H 𝓗 vs Q' c q kk => ?_
    obtain ⟨u, u2, rfl, g1, g2⟩ := sl2 q
    have g2' : u2 = .ref C' := g2
    subst g2'
    have g1' : DA K H (.ins _ _ _) u := g1
    unfold DA at g1'
    obtain ⟨p, dx, vs, rfl, e2, _, _⟩ := g1'
    refine ⟨.ref p, .ref C', .ref C', .ref C', true, rfl, .own _, .base (.ins (c.u _ _ e2) hk.cls hk.is1 hk.is2 hk.is3 hk.is4), ?_, kk _ _ (qvD c (Same.refl H) daB w9)⟩
    unfold PySem.W.kitOne
    rw [if_pos (by simp)]) (fun N lv sc x h => by rw [mE] at h; unfold hE_isiC at h; split at h <;> first | rfl | cases h)
theorem field_at {H : Hp} {f : Str} {y : Dt} : ∀ {ns : List Str} {ds : List Dt} {vs : List V}, DAs K H ds vs → fieldOf ns ds f = some y → ∃ u, (ns.zip vs).lookup f = some u ∧ DA K H y u
  | [], _, _, _, h => by simp [fieldOf] at h
  | _ :: _, [], _, _, h => by simp [fieldOf] at h
  | n :: ns, d :: ds, vs, hd, h => by
    unfold DAs at hd
    obtain ⟨u, r, rfl, h1, h2⟩ := hd
    rw [fieldOf] at h
    by_cases e : n = f
    · rw [if_pos e] at h
      cases h
      subst e
      exact ⟨u, by simp [List.lookup], h1⟩
    · rw [if_neg e] at h
      obtain ⟨z, z1, z2⟩ := field_at h2 h
      refine ⟨z, ?_, z2⟩
      rw [List.zip_cons_cons, List.lookup_cons]
      rw [show (f == n) = false from beq_eq_false_iff_ne.mpr fun q => e q.symm]
      exact z1
theorem s_attr {n f : Str} {C : Addr} (ha : SE P w K mg base ca a) : SE P w K mg base ca (.attr a f n C) := .plain (fun F x ρ M v X Q h hr he hx hw => by
    rw [mE] at h; unfold hE_attr at h
    split at h
    rotate_left
    · cases h
    rename_i x g ppos
    simp only [Bool.and_eq_true, decide_eq_true_eq] at h
    obtain ⟨⟨rfl, hab⟩, h1⟩ := h
    obtain ⟨hk, hr⟩ := hr
    have hk : Kls P w K mg base _ C := hk
    refine .mk fun H 𝓗 σ c hE => ?_
    refine uE.by (t := tFld K (uE F _) f) (fun j => by have q := pe_fld (X := F.X j) (f := f) (pos := ppos) (pe_u j) (ab_of hab j); rw [F.eK j] at q; exact q) (((ha.ew F _ ρ M v X _ h1 hr he hx hw).run H 𝓗 σ c hE).mono fun u 𝓗1 ⟨H1, M1, r1, c1, s1, q1, e1, t1, f1, g1, _, w1⟩ => ?_)
    subst e1
    obtain ⟨d, _, rfl, w1⟩ := asD_of g1 w1
    split at w1
    rotate_left
    · exact w1.elim
    obtain ⟨rfl, w0, y, w1, w2⟩ := w1
    have q1' : DA K H1 (.ins _ _ _) u := q1
    unfold DA at q1'
    obtain ⟨p, dx, vs, rfl, e2, _, e4⟩ := q1'
    obtain ⟨u2, l1, l2⟩ := field_at e4 w1
    exact ⟨p, _, dx, _, u2, rfl, c1.u _ _ e2, hk.cls, hk.na f w0, l1, qvD c1 s1 l2 w2⟩) (fun N lv sc x h => by rw [mE] at h; unfold hE_attr at h; split at h <;> first | rfl | cases h)
theorem upd_upd {H : Hp} {a : Addr} {o o' : HO} : upd (upd H a o) a o' = upd H a o' := by
  funext b
  by_cases h : b = a
  · subst h; rw [upd_same, upd_same]
  · rw [upd_ne h, upd_ne h, upd_ne h]
theorem s_mk {n : Str} {C : Addr} {es : Es} (hs : SEs P w K mg base ca es) : SE P w K mg base ca (.mk n C es) := .plain (fun F x ρ M v X Q h hr he hx hw => by
    rw [mE] at h; unfold hE_mk at h
    split at h
    rotate_left
    · cases h
    rename_i g p1 x0 xs p2
    simp only [Bool.and_eq_true, decide_eq_true_eq] at h
    obtain ⟨⟨⟨⟨⟨rfl, hg⟩, hnm⟩, hns⟩, hlv⟩, h1⟩ := h
    obtain ⟨hk, hr⟩ := hr
    have hk : Kls P w K mg base _ C := hk
    rw [List.all_cons, Bool.and_eq_true] at hns
    refine .mk fun H 𝓗 σ c hE => ?_
    have hmk : ∀ j, C8.Mak (F.X j).prog (F.X j).w (F.X j).K (F.X j).mg (F.X j).base 1 g C _ [] := fun j => by rw [F.eP j, F.ew j, F.eK j, F.eg j, F.eb j]; exact hk.mak
    refine uE.by (fun j => C8.pe_mk (hmk j) (F.hr j) hlv (gl_of hg j) (pa_u j) (nm_of hnm).1 (ns_of hns.1 j) (np_of hns.2 j)) (((hs.aw F _ ρ M v X _ h1 hr he hx hw).run H 𝓗 σ c hE).mono fun vs 𝓗1 ⟨H1, M1, rs, c1, s1, q1, e1, _, ts, fp, t1, _, _, wd, w1⟩ => ?_)
    subst e1
    split at w1
    rotate_left
    · exact w1.elim
    rename_i da db dc dd
    obtain ⟨_, e2, _⟩ := t1.allD wd
    subst e2
    have q2 := SlsOk.das.mp q1
    show ∀ x dx, 𝓗1 x = none → 𝓗1 dx = none → dx ≠ x → _
    intro o dx ho hdx hne
    unfold DAs at q2
    obtain ⟨va, r1, rfl, qa, q2⟩ := q2
    unfold DAs at q2
    obtain ⟨vb, r2, rfl, qb, q2⟩ := q2
    unfold DAs at q2
    obtain ⟨vc, r3, rfl, qc, q2⟩ := q2
    unfold DAs at q2
    obtain ⟨vd, r4, rfl, qd, q2⟩ := q2
    unfold DAs at q2
    subst q2
    refine ⟨o, va, vb, vc, vd, dx, rfl, upd_same, fun H' eH => ⟨rfl, ?_⟩⟩
    rw [upd_upd] at eH
    subst eH
    obtain ⟨c2, s2⟩ := c1.newF (o := .own o) hdx
    obtain ⟨c3, s3⟩ := c2.newF (p := o) (o := .ins C dx [("gates", va), ("rows", vb), ("stands", vc), ("stores", vd)]) (by rw [upd_ne (fun z => hne z.symm)]; exact ho)
    refine qvD (d := .ins C hallF [da, db, dc, dd]) c3 ((s1.trans s2).trans s3) ?_ w1
    unfold DA
    refine ⟨o, dx, [va, vb, vc, vd], rfl, upd_same, rfl, ?_⟩
    have up := s2.trans s3
    unfold DAs
    refine ⟨va, _, rfl, qa.mono up, ?_⟩
    unfold DAs
    refine ⟨vb, _, rfl, qb.mono up, ?_⟩
    unfold DAs
    refine ⟨vc, _, rfl, qc.mono up, ?_⟩
    unfold DAs
    refine ⟨vd, _, rfl, qd.mono up, ?_⟩
    unfold DAs
    rfl) (fun N lv sc x h => by rw [mE] at h; unfold hE_mk at h; split at h <;> first | rfl | cases h)
end
end DD
namespace DD
open PySem PySem.Spec PyProof.Rows L2 DL
section
variable {P : Program} {w : World} {K : PySem.W.Frag} {mg : Str → Option Value} {base : Heap} {N : List Str} {sc : Scope} {F : Fm P w K mg base N sc} {ca : Str → Addr}
variable {ρ : Rho} {M : OH} {v : Env} {x y z : Expr} {pos : Pos} {r r1 r2 : Sl} {e a b c : E}
/-! ### f-strings -/
structure SF (P : Program) (w : World) (K : PySem.W.Frag) (mg : Str → Option Value) (base : Heap) (ca : Str → Addr) (es : Es) : Prop where
  go : ∀ {N : List Str} {sc : Scope} (F : Fm P w K mg base N sc) (xs : List Expr) (ρ : Rho) (M : OH) (v : Env) (X : Str → Env → Prop) (Q : Prop), mFs N F.lv sc es xs = true → rqEs (Wd P w K mg base ca) es → EV M v ρ → ExOk F ca X → wpFs X v es Q →
    ∀ H 𝓗 σ (acc : Str) (R : Str → Hp → Prop), St3 F M H 𝓗 → EnvOk K H σ ρ → acc.length + 2000 * xs.length ≤ sizeLine → (∀ y H' 𝓗', Q → St3 F M H' 𝓗' → Same H H' → R y 𝓗') → tJs (xs.map (uE F)) acc σ 𝓗 R
theorem sf_nil : SF P w K mg base ca .nil where
  go := fun F xs ρ M v X Q h hr he hx hw H 𝓗 σ acc R c hE hz k => by
    rw [mFs] at h; unfold hFs_nil at h
    split at h
    rotate_left
    · cases h
    exact k acc H 𝓗 hw c (Same.refl H)
theorem sf_cons {es : Es} (ha : SE P w K mg base ca e) (hs : SF P w K mg base ca es) : SF P w K mg base ca (.cons e es) where
  go := fun F xs ρ M v X Q h hr he hx hw H 𝓗 σ acc R c hE hz k => by
    rw [mFs] at h; unfold hFs_cons at h
    split at h
    rotate_left
    · cases h
    rename_i x xs
    simp only [Bool.and_eq_true] at h
    obtain ⟨h1, h2⟩ := h
    rw [List.length_cons] at hz
    have part : EW F ρ M x fun r M' => M' = M ∧ (∃ y : Str, r = .dat (.str y) ∧ y.length ≤ 2000) ∧ wpFs X v es Q := by
      split at h1
      · simp only [Bool.and_eq_true, decide_eq_true_eq] at h1
        obtain ⟨rfl, h1⟩ := h1
        refine .mk fun H 𝓗 σ c hE => ?_
        refine uE.by (fun j => pe_fmt (pe_u j)) (((ha.ew F _ ρ M v X _ h1 hr.1 he hx hw).run H 𝓗 σ c hE).mono fun u 𝓗' ⟨H', M', r, c', s', q, e1, t, f, g1, _, w0, w1⟩ => ?_)
        subst e1
        rcases w0 with ⟨i, rfl, hi⟩ | ⟨s, rfl, hs⟩
        · cases g1
          have q' : u = .int i := q
          exact .inr ⟨i, q', hi, H', M', _, c', s', (by show DA K H' (.str (toString i)) _; unfold DA; rfl), rfl, ⟨_, rfl, by have := int_text_len_1921 hi; omega⟩, w1⟩
        · cases g1
          have q' : u = .str s := q
          exact .inl ⟨s, q', (by rw [sizeLine_eq]; omega), H', M', _, c', s', (by show DA K H' (.str s) _; unfold DA; rfl), rfl, ⟨_, rfl, hs⟩, w1⟩
      · split at h1
        rotate_left
        · cases h1
        simp only [decide_eq_true_eq] at h1
        subst h1
        obtain ⟨w0, w1⟩ := (show fsOk _ ∧ wpFs X v es Q from hw)
        rcases w0 with ⟨i, e, hi⟩ | ⟨s, e, hs⟩
        · cases e
        · cases e
          exact ed_str.ew ⟨rfl, ⟨_, rfl, hs⟩, w1⟩
      · cases h1
    refine (part.run H 𝓗 σ c hE).mono fun u 𝓗1 ⟨H1, M1, r, c1, s1, q1, e1, ⟨y, e2, e3⟩, w1⟩ => ?_
    subst e1 e2
    have q' : u = .str y := q1
    have hl : (acc ++ y).length = acc.length + y.length := PySem.Str.length_append _ _
    exact ⟨y, q', by omega, hs.go F _ ρ M1 v X Q h2 hr.2 he hx w1 H1 𝓗1 σ _ R c1 (hE.mono s1) (by omega) fun y' H' 𝓗' qq c' s' => k y' H' 𝓗' qq c' (s1.trans s')⟩
theorem s_fstr {es : Es} (hs : SF P w K mg base ca es) : SE P w K mg base ca (.fstr es) := .plain (fun F x ρ M v X Q h hr he hx hw => by
    rw [mE] at h; unfold hE_fstr at h
    split at h
    rotate_left
    · cases h
    simp only [Bool.and_eq_true, decide_eq_true_eq] at h
    obtain ⟨h1, h2⟩ := h
    refine .mk fun H 𝓗 σ c hE => uE.by (fun j => pe_joined (pj_u j _)) (hs.go F _ ρ M v X _ h1 hr he hx hw H 𝓗 σ _ _ c hE (by rw [sizeLine_eq]; show 0 + 2000 * (_ + 1 + 1) ≤ _; omega) fun y H' 𝓗' qq c' s' => qvD c' s' (by unfold DA; rfl) (qq y))) (fun N lv sc x h => by rw [mE] at h; unfold hE_fstr at h; split at h <;> first | rfl | cases h)
/-! ### calls -/
/-- a call: what the def promises, at what it is handed -/
theorem ew_callY {k : Nat} {x : Str} {ps : List Str} {p : Pr} {a : Expr} {es : List Expr} {p2 : Pos} {Q : Sl → OH → Prop} (G : Def P w K mg base (L2.CX P w) k x ps p)
    (h : AW F ρ M (a :: es) fun rs M1 => ∃ Mp : OH, (∀ q xs, Mp q = some xs → M1 q = some xs) ∧ p.pre rs Mp ∧ (∀ r M', p.post rs Mp r M' → (∀ q xs, M' q = some xs → (Mp q).isSome = true ∨ M1 q = none) → Q r (omerge M1 Mp M')) ∧ (∀ C M', p.err rs Mp C M' → ∃ M'', Sub M'' (omerge M1 Mp M') ∧ F.ex C ρ M''))
    (hg : GL F x) (hs : NS F a es) (hpl : NP F pos es) (hdb : (x == ("__debug__" : Str)) = false) (hk : k ≤ F.lv) : EW F ρ M (.Call (.Name x p2) (a :: es) [] pos) Q := .mk fun H 𝓗 σ c hE => by
  obtain ⟨f, fd, G, gm, gk, gb⟩ := G.ex
  have G' : ∀ i, FnOk (F.X i).prog (F.X i).w (F.X i).K (F.X i).mg (F.X i).base (L2.CX P w) k f fd ps (spM K p) := fun i => by rw [F.eP i, F.ew i, F.eK i, F.eg i, F.eb i]; exact G
  have hx : ∀ i σ, PassesAt (L2.CX P w) (F.X i) σ (WE (mkW K F.B0 F.H0 F.ex) σ) := fun i σ => by have z := passesX (F := F) (i := i) (σ := σ); rw [F.eP i, F.ew i] at z; exact z
  refine uE.by (fun i => pe_callS (G' i) ((F.hr i).mono hk) (hg i) (hmg gm i) (by rw [F.eK i]; exact gk) (by rw [F.eK i]; exact gb) (hx i) (pa_u i) hdb (hs i) (hpl i)) ?_
  refine (h.run H 𝓗 σ c hE).mono fun vs 𝓗1 ⟨H1, M1, rs, c1, s1, q1, Mp, hM, hpre, hpost, herr⟩ => ?_
  refine ⟨H1, _, Mp, rs, call_in c1 hM, q1, hpre, fun v r H' 𝓗' M' c' ok po => ?_, fun C H' 𝓗' M' c' er => ?_⟩
  · refine ⟨H', _, r, call_out c1 hM c', s1.trans c'.f, ok, hpost r M' po fun q xs e => ?_⟩
    have z := (c'.o q xs e).2.1
    by_cases y : (Mp q).isSome = true
    · exact .inl y
    · rw [if_neg y] at z
      exact .inr (c1.none_of z).2.2
  · obtain ⟨M'', hs2, he2⟩ := herr C M' er
    exact ⟨C, ρ, M'', H', rfl, rfl, (call_out c1 hM c').less hs2, hE.mono (s1.trans c'.f), he2⟩
/-- the owned lists at these addresses alone -/
def at' (M : OH) (fp : List Addr) : OH := fun a => if a ∈ fp then M a else none
theorem at_sub {fp : List Addr} : ∀ q xs, at' M fp q = some xs → M q = some xs := fun q xs h => by
  unfold at' at h
  split at h
  · exact h
  · cases h
theorem at_in {fp : List Addr} : ∀ a ∈ fp, at' M fp a = M a := fun a h => by unfold at'; rw [if_pos h]
theorem flat_same {M' : OH} : ∀ {ts : List Tr} {ss : List Sl} {f f' : List Addr}, TrsR M ts ss f → TrsR M' ts ss f' → ts.all flatO = true → f' = f ∧ ∀ a ∈ f, M' a = M a
  | [], _, _, _, .nil, h', _ => by cases h'; exact ⟨rfl, fun _ z => nomatch z⟩
  | t :: ts, _, _, _, .cons h hs, h', hf => by
    rw [List.all_cons, Bool.and_eq_true] at hf
    cases h' with
    | cons h2 hs2 =>
      obtain ⟨e1, e2⟩ := flat_same hs hs2 hf.2
      subst e1
      cases h with
      | dat =>
        cases h2
        exact ⟨rfl, e2⟩
      | own a1 a2 =>
        cases h2 with
        | own b1 b2 =>
          obtain ⟨_, x1, x2⟩ := a2.allD hf.1
          obtain ⟨_, y1, y2⟩ := b2.allD hf.1
          subst x1 x2 y1 y2
          refine ⟨rfl, fun a ha => ?_⟩
          rcases List.mem_cons.mp ha with e | e
          · subst e; rw [a1, b1]
          · exact e2 a e
theorem s_call {g : Sg} {es : Es} (hs : SEs P w K mg base ca es) : SE P w K mg base ca (.call g es) := .plain (fun F x ρ M v X Q h hr he hx hw => by
    rw [mE] at h; unfold hE_call at h
    split at h
    rotate_left
    · cases h
    simp only [Bool.and_eq_true, decide_eq_true_eq] at h
    obtain ⟨⟨⟨⟨⟨rfl, hg⟩, hnm⟩, hns⟩, hlv⟩, h1⟩ := h
    obtain ⟨hk, hr⟩ := hr
    obtain ⟨ps, G⟩ : ∃ ps, Def P w K mg base (L2.CX P w) g.lv g.nm ps (toPr ca g) := hk
    rw [List.all_cons, Bool.and_eq_true] at hns
    refine ew_callY G ((hs.aw F _ ρ M v X _ h1 hr he hx hw).mono fun rs M1 ⟨e1, _, as, fp, q1, _, q3, w0, wf, w1, w2, w3⟩ => ?_) (gl_of hg) (ns_of hns.1) (np_of hns.2) (nm_of hnm).1 hlv
    subst e1
    have nd := q3 w0
    refine ⟨at' M1 fp, at_sub, ⟨as, fp, q1.frame at_in, nd, w1⟩, fun r M' ⟨as0, fp0, res, as', f', fp', z1, z2, z3, z4, z5, z6, z7⟩ hfr => ?_, fun C M' ⟨z1, as0, fp0, nm, z2, _, z3, z4⟩ => ?_⟩
    · obtain ⟨y1, y2⟩ := (q1.frame at_in).det z1 fun _ _ => rfl
      subst y1 y2
      obtain ⟨y3, y4, y5⟩ := w2 res as' z3
      subst y3
      cases z4 with
      | own _ _ => cases y4
      | @dat d =>
        obtain ⟨x1, x2⟩ := flat_same (q1.frame at_in) z5 wf
        have x1' := x1.symm
        subst x1'
        have eM : M' = at' M1 fp := by
          funext a
          by_cases ha : a ∈ fp
          · exact x2 a ha
          · unfold at'
            rw [if_neg ha]
            cases hM : M' a with
            | none => rfl
            | some xs => exact absurd (z7 a (by rw [hM]; exact fun z => nomatch z)) ha
        subst eM
        have e0 : omerge M1 (at' M1 fp) (at' M1 fp) = M1 := by
          funext a
          unfold omerge
          cases hM : at' M1 fp a with
          | some xs => exact (at_sub _ _ hM).symm
          | none => rfl
        rw [e0]
        exact rvD y5
    · obtain ⟨y1, y2⟩ := (q1.frame at_in).det z2 fun _ _ => rfl
      subst y1 y2 z4
      obtain ⟨x1, x2⟩ := w3 nm z3
      obtain ⟨M'', m1, m2⟩ := hx nm v ρ M1 x2 he
      refine ⟨M'', fun p xs hp => ?_, m2⟩
      obtain ⟨_, _, ef⟩ := q1.allD x1
      subst ef z1
      show omerge M1 (at' M1 []) OH0 p = some xs
      unfold omerge OH0 at'
      simpa using m1 p xs hp) (fun N lv sc x h => by rw [mE] at h; unfold hE_call at h; split at h <;> first | rfl | cases h)
end
end DD
namespace DD
open PySem PySem.Spec PyProof.Rows L2 DL
section
variable {P : Program} {w : World} {K : PySem.W.Frag} {mg : Str → Option Value} {base : Heap} {N : List Str} {sc : Scope} {F : Fm P w K mg base N sc} {ca : Str → Addr}
variable {ρ : Rho} {M : OH} {v : Env} {x y z : Expr} {pos : Pos} {r r1 r2 : Sl} {e a b c : E}
/-! ### targets -/
mutual
def lenP : Pts → Nat
  | .nil => 0
  | .cons _ ps => lenP ps + 1
end
mutual
def gP (K : PySem.W.Frag) : Pt → TG
  | .v i => gName i
  | .t ps => gTup K (lenP ps) (gPs K ps)
def gPs (K : PySem.W.Frag) : Pts → TGs
  | .nil => gNil
  | .cons p ps => gCons (gP K p) (gPs K ps)
end
def noStar : Expr → Bool
  | .Name _ _ => true
  | .Tuple _ _ _ => true
  | _ => false
theorem mP_ns {lp : Str → Bool} {p : Pt} {x : Expr} (h : mP N lp p x = true) : noStar x = true := by
  cases p <;> cases x <;> first | rfl | (simp [mP] at h)
theorem asgEach {x : Expr} {xs : List Expr} (h : noStar x = true) (i : F.ι) : (assignEach (x :: xs) (F.X i).env).map (·.2) = assign x (F.X i).env :: (assignEach xs (F.X i).env).map (·.2) ∧ (assignEach (x :: xs) (F.X i).env).length = (assignEach xs (F.X i).env).length + 1 ∧ ((assignEach xs (F.X i).env).findIdx? (·.1) = none → (assignEach (x :: xs) (F.X i).env).findIdx? (·.1) = none) := by
  cases x <;> first | (cases h; done) | skip
  · refine ⟨rfl, rfl, fun z => ?_⟩
    show List.findIdx? (·.1) ((false, _) :: assignEach xs (F.X i).env) = none
    rw [List.findIdx?_cons]
    simp [z]
  · refine ⟨rfl, rfl, fun z => ?_⟩
    show List.findIdx? (·.1) ((false, _) :: assignEach xs (F.X i).env) = none
    rw [List.findIdx?_cons]
    simp [z]
mutual
theorem pat_pg {lp : Str → Bool} (hl : LpOk F lp) : ∀ (p : Pt) (x : Expr), mP N lp p x = true → ∀ i, PG (F.X i) x (gP K p)
  | .v j, x, h, i => by
    cases x <;> first | (simp [mP] at h; done) | skip
    simp only [mP, Bool.and_eq_true, decide_eq_true_eq] at h
    exact pg_name (by rw [F.eN i]; exact F.nd) (by rw [F.eN i]; exact h.1) (hl _ h.2 i).1 (hl _ h.2 i).2
  | .t ps, x, h, i => by
    cases x <;> first | (simp [mP] at h; done) | skip
    rename_i xs k pos
    simp only [mP] at h
    obtain ⟨h1, h2, h3⟩ := pat_pgs hl ps xs h i
    have q := pg_tup (X := F.X i) (k := k) (pos := pos) (F.hc i) h1 h2 h3
    rw [F.eK i] at q
    exact q
theorem pat_pgs {lp : Str → Bool} (hl : LpOk F lp) : ∀ (ps : Pts) (xs : List Expr), mPs N lp ps xs = true → ∀ i, PGs (F.X i) xs (gPs K ps) ∧ (assignEach xs (F.X i).env).length = lenP ps ∧ (assignEach xs (F.X i).env).findIdx? (·.1) = none
  | .nil, xs, h, i => by
    cases xs <;> first | (simp [mPs] at h; done) | skip
    exact ⟨pgs_nil, rfl, rfl⟩
  | .cons p ps, xs, h, i => by
    cases xs <;> first | (simp [mPs] at h; done) | skip
    rename_i x xs
    simp only [mPs, Bool.and_eq_true] at h
    obtain ⟨h1, h2, h3⟩ := pat_pgs hl ps xs h.2 i
    obtain ⟨a1, a2, a3⟩ := asgEach (F := F) (xs := xs) (mP_ns h.1) i
    exact ⟨pgs_cons (pat_pg hl p x h.1 i) h1 a1, by rw [a2, h2]; rfl, a3 h3⟩
end
/-- what a store leaves alone -/
structure Apart (vs : List Nat) (σ σ' : L2.St) (ρ ρ' : Rho) : Prop where
  s : ∀ j, j ∉ vs → σ'[j]? = σ[j]?
  r : ∀ j, j ∉ vs → ρ'[j]? = ρ[j]?
  l : σ'.length = σ.length
mutual
theorem pat_go : ∀ (p : Pt) (d : Dt) (v : Env) (Q : Env → Prop) (ρ : Rho) (M : OH) (H 𝓗 : Hp) (σ : L2.St) (u : V) (R : L2.St → Hp → Prop), asg p d v Q → St3 F M H 𝓗 → EnvOk K H σ ρ → EV M v ρ → DA K H d u →
    (∀ σ' ρ' v', EnvOk K H σ' ρ' → EV M v' ρ' → Q v' → Apart (slots p) σ σ' ρ ρ' → R σ' 𝓗) → gP K p u σ 𝓗 R
  | .v i, d, v, Q, ρ, M, H, 𝓗, σ, u, R, h, c, hE, he, hd, k => by
    refine k _ _ _ (hE.set i (s := .dat d) hd) (he.setD i d) h ⟨fun j hj => ?_, fun j hj => ?_, by rw [List.length_set]⟩
    · rw [List.getElem?_set_ne (fun z => hj (by rw [z]; exact List.mem_cons_self))]
    · rw [List.getElem?_set_ne (fun z => hj (by rw [z]; exact List.mem_cons_self))]
  | .t ps, d, v, Q, ρ, M, H, 𝓗, σ, u, R, h, c, hE, he, hd, k => by
    cases d with
    | tup ds =>
      have h : asgs ps ds v Q := h
      obtain ⟨q, vs, e1, e2, e3⟩ := tup_seq c (show SlOk K H u (.dat (.tup ds)) from hd)
      have hl : vs.length = ds.length := by rw [e3.length, List.length_map]
      exact ⟨q, vs, e1, e2, by rw [hl]; exact asgs_len ps ds v Q h, pats_go ps ds v Q ρ M H 𝓗 σ vs R h c hE he (SlsOk.das.mp e3) k⟩
    | _ => exact h.elim
theorem pats_go : ∀ (ps : Pts) (ds : List Dt) (v : Env) (Q : Env → Prop) (ρ : Rho) (M : OH) (H 𝓗 : Hp) (σ : L2.St) (us : List V) (R : L2.St → Hp → Prop), asgs ps ds v Q → St3 F M H 𝓗 → EnvOk K H σ ρ → EV M v ρ → DAs K H ds us →
    (∀ σ' ρ' v', EnvOk K H σ' ρ' → EV M v' ρ' → Q v' → Apart (slotss ps) σ σ' ρ ρ' → R σ' 𝓗) → gPs K ps us σ 𝓗 R
  | .nil, ds, v, Q, ρ, M, H, 𝓗, σ, us, R, h, c, hE, he, hd, k => by
    obtain ⟨rfl, h⟩ := h
    unfold DAs at hd
    exact ⟨hd, k _ _ _ hE he h ⟨fun _ _ => rfl, fun _ _ => rfl, rfl⟩⟩
  | .cons p ps, ds, v, Q, ρ, M, H, 𝓗, σ, us, R, h, c, hE, he, hd, k => by
    cases ds with
    | nil => exact h.elim
    | cons d ds =>
      unfold DAs at hd
      obtain ⟨u, r, e1, h1, h2⟩ := hd
      refine ⟨u, r, e1, pat_go p d v _ ρ M H 𝓗 σ u _ h c hE he h1 fun σ' ρ' v' hE' he' q' ap => ?_⟩
      refine pats_go ps ds v' Q ρ' M H 𝓗 σ' r R q' c hE' he' h2 fun σ2 ρ2 v2 hE2 he2 q2 ap2 => k _ _ _ hE2 he2 q2 ⟨fun j hj => ?_, fun j hj => ?_, by rw [ap2.l, ap.l]⟩
      · rw [ap2.s j (fun z => hj (List.mem_append_right _ z)), ap.s j (fun z => hj (List.mem_append_left _ z))]
      · rw [ap2.r j (fun z => hj (List.mem_append_right _ z)), ap.r j (fun z => hj (List.mem_append_left _ z))]
theorem asgs_len : ∀ (ps : Pts) (ds : List Dt) (v : Env) (Q : Env → Prop), asgs ps ds v Q → ds.length = lenP ps
  | .nil, ds, v, Q, h => by rw [h.1]; rfl
  | .cons p ps, [], v, Q, h => h.elim
  | .cons p ps, d :: ds, v, Q, h => by
    obtain ⟨v', h'⟩ := asg_some p d v _ h
    rw [List.length_cons, asgs_len ps ds v' Q h']
    rfl
theorem asg_some : ∀ (p : Pt) (d : Dt) (v : Env) (Q : Env → Prop), asg p d v Q → ∃ v', Q v'
  | .v i, d, v, Q, h => ⟨_, h⟩
  | .t ps, d, v, Q, h => by
    cases d with
    | tup ds => exact asgs_some ps ds v Q h
    | _ => exact h.elim
theorem asgs_some : ∀ (ps : Pts) (ds : List Dt) (v : Env) (Q : Env → Prop), asgs ps ds v Q → ∃ v', Q v'
  | .nil, ds, v, Q, h => ⟨_, h.2⟩
  | .cons p ps, [], v, Q, h => h.elim
  | .cons p ps, d :: ds, v, Q, h => by
    obtain ⟨v', h'⟩ := asg_some p d v _ h
    exact asgs_some ps ds v' Q h'
end
end
end DD
namespace DD
open PySem PySem.Spec PyProof.Rows L2 DL
section
variable {P : Program} {w : World} {K : PySem.W.Frag} {mg : Str → Option Value} {base : Heap} {N : List Str} {sc : Scope} {F : Fm P w K mg base N sc} {ca : Str → Addr}
variable {ρ : Rho} {M : OH} {v : Env} {x y z : Expr} {pos : Pos} {r r1 r2 : Sl} {e a b c : E}
/-- a walk that gives these data -/
structure DWalk (K : PySem.W.Frag) (J : L2.It) (H0 : Hp) (ds : List Dt) : Prop where
  w : ∃ (G : Hp → Prop) (Y : Nat → Hp → V → Hp → Prop), Walk J ds.length G Y ∧ (∀ 𝓗, Same H0 𝓗 → G 𝓗) ∧
    ∀ B0 H1 M H 𝓗 i x 𝓗', i < ds.length → Cxt K B0 H1 M H 𝓗 → Same H0 H → Y i 𝓗 x 𝓗' → ∃ H' d, Cxt K B0 H1 M H' 𝓗' ∧ Same H H' ∧ ds[i]? = some d ∧ DA K H' d x
theorem dw_list {H0 𝓗 : Hp} {p : Addr} {vs : List V} {ds : List Dt} (h : SqL K H0 p vs) (r : DAs K H0 ds vs) : DWalk K (Itl K p) H0 ds where
  w := ⟨fun H => SqL K H p vs, YAt vs, by have q := walk_list (K := K) (a := p) (xs := vs); rw [r.len] at q; exact q, fun 𝓗 s => s.seq h, fun B0 H1 M H 𝓗 i x 𝓗' hi c s ⟨e1, e2⟩ => by
    subst e1
    obtain ⟨d, d1, d2⟩ := paired_get' r.paired e2
    exact ⟨H, d, c, Same.refl H, d1, d2.mono s⟩⟩
theorem Same.seqT {H H' : Hp} (e : Same H H') {p : Addr} {vs : List V} (h : SqT K H p vs) : SqT K H' p vs := by
  rcases h with (h | ⟨o, h⟩) | h
  · exact .inl (.inl (e _ _ h))
  · exact .inl (.inr ⟨o, e _ _ h⟩)
  · exact .inr h
theorem dw_tup {H0 𝓗 : Hp} {p : Addr} {vs : List V} {ds : List Dt} (h : SqT K H0 p vs) (r : DAs K H0 ds vs) : DWalk K (Itt K p) H0 ds where
  w := ⟨fun H => SqT K H p vs, YAt vs, by have q := walk_tup (K := K) (a := p) (xs := vs); rw [r.len] at q; exact q, fun 𝓗 s => Same.seqT s h, fun B0 H1 M H 𝓗 i x 𝓗' hi c s ⟨e1, e2⟩ => by
    subst e1
    obtain ⟨d, d1, d2⟩ := paired_get' r.paired e2
    exact ⟨H, d, c, Same.refl H, d1, d2.mono s⟩⟩
theorem rngD_len (n : Nat) : (rngD n).length = n := by unfold rngD; rw [List.length_map, List.length_range]
theorem rngD_get {n i : Nat} (h : i < n) : (rngD n)[i]? = some (.int (i : Int)) := by
  unfold rngD
  rw [List.getElem?_map, List.getElem?_range h]
  rfl
theorem dw_range {H0 : Hp} {n : Nat} : DWalk K (Itr 0 n) H0 (rngD n) where
  w := ⟨fun _ => True, YFn fun i => .int ((0 : Int) + i), by have q := walk_range (lo := 0) (n := n); rw [rngD_len]; exact q, fun 𝓗 s => trivial, fun B0 H1 M H 𝓗 i x 𝓗' hi c s ⟨e1, e2⟩ => by
    subst e1 e2
    rw [rngD_len] at hi
    exact ⟨H, _, c, Same.refl H, rngD_get hi, by show DA K H _ (V.int ((0 : Int) + (i : Int))); rw [Int.zero_add]; exact daI⟩⟩
theorem dw_rev {H0 : Hp} {n : Nat} : DWalk K (Itc ((n : Int) - 1) (-1) n) H0 (rngD n).reverse where
  w := ⟨fun _ => True, YFn fun i => .int ((n : Int) - 1 + (i : Nat) * -1), by have q := walk_rangeC (lo := (n : Int) - 1) (c := -1) (n := n); rw [List.length_reverse, rngD_len]; exact q, fun 𝓗 s => trivial, fun B0 H1 M H 𝓗 i x 𝓗' hi c s ⟨e1, e2⟩ => by
    subst e1 e2
    rw [List.length_reverse, rngD_len] at hi
    refine ⟨H, _, c, Same.refl H, by rw [List.getElem?_reverse (by rw [rngD_len]; exact hi), rngD_len]; exact rngD_get (by omega), ?_⟩
    have : (n : Int) - 1 + (i : Int) * -1 = ((n - 1 - i : Nat) : Int) := by omega
    show DA K H _ (V.int ((n : Int) - 1 + (i : Int) * -1))
    rw [this]
    exact daI⟩
theorem enumD_len : ∀ (i : Nat) (ds : List Dt), (enumD i ds).length = ds.length
  | _, [] => rfl
  | i, d :: ds => by rw [enumD, List.length_cons, List.length_cons, enumD_len (i + 1) ds]
theorem enumD_get : ∀ (i : Nat) (ds : List Dt) (k : Nat), (enumD i ds)[k]? = (ds[k]?).map fun d => .tup [.int ((i + k : Nat) : Int), d]
  | _, [], _ => rfl
  | i, d :: ds, 0 => rfl
  | i, d :: ds, k + 1 => by
    rw [enumD, List.getElem?_cons_succ, enumD_get (i + 1) ds k, List.getElem?_cons_succ]
    have : i + 1 + k = i + (k + 1) := by omega
    rw [this]
theorem pair_new {B0 H1 H 𝓗 : Hp} {T : Addr} {u v : V} {d e : Dt} (c : Cxt K B0 H1 M H 𝓗) (h : 𝓗 T = none) (a1 : DA K H d u) (a2 : DA K H e v) : ∃ H', Cxt K B0 H1 M H' (upd 𝓗 T (.tup [u, v])) ∧ Same H H' ∧ DA K H' (.tup [d, e]) (.ref T) := by
  obtain ⟨c2, s2⟩ := c.newF (o := .tup [u, v]) h
  refine ⟨_, c2, s2, ?_⟩
  unfold DA
  refine ⟨T, _, rfl, SqT.of upd_same, ?_⟩
  unfold DAs
  refine ⟨u, _, rfl, a1.mono s2, ?_⟩
  unfold DAs
  refine ⟨v, _, rfl, a2.mono s2, ?_⟩
  unfold DAs
  rfl
theorem dw_enum {H0 𝓗 : Hp} {p : Addr} {vs : List V} {ds : List Dt} (h : SqL K H0 p vs) (r : DAs K H0 ds vs) : DWalk K (Ite K p) H0 (enumD 0 ds) where
  w := ⟨fun H => SqL K H p vs, YPair (fun i => some (.int (i : Nat))) (fun i => vs[i]?), by have q := walk_enum (K := K) (a := p) (xs := vs); rw [r.len, ← enumD_len 0] at q; exact q, fun 𝓗 s => s.seq h, fun B0 H1 M H 𝓗 i x 𝓗' hi c s ⟨T, a, b, e1, e2, e3, e4, e5⟩ => by
    subst e1 e3
    cases e4
    obtain ⟨d, d1, d2⟩ := paired_get' r.paired e5
    obtain ⟨H', c', s', q⟩ := pair_new c e2 (d := .int (i : Int)) daI (d2.mono s)
    exact ⟨H', _, c', s', by rw [enumD_get, d1]; rw [Nat.zero_add]; rfl, q⟩⟩
theorem dw_zip {H0 𝓗 : Hp} {p q : Addr} {vs us : List V} {ds es : List Dt} (h : SqL K H0 p vs) (r : DAs K H0 ds vs) (h2 : SqL K H0 q us) (r2 : DAs K H0 es us) (hl : ds.length = es.length) : DWalk K (Itz K p q) H0 (zipD ds es) where
  w := ⟨fun H => SqL K H p vs ∧ SqL K H q us, YPair (fun i => vs[i]?) (fun i => us[i]?), by have z := walk_zip (K := K) (a := p) (b := q) (xs := vs) (ys := us) (n := (zipD ds es).length) (by unfold zipD; rw [List.length_zipWith, r.len, r2.len]); exact z, fun 𝓗 s => ⟨s.seq h, s.seq h2⟩, fun B0 H1 M H 𝓗 i x 𝓗' hi c s ⟨T, a, b, e1, e2, e3, e4, e5⟩ => by
    subst e1 e3
    obtain ⟨d, d1, d2⟩ := paired_get' r.paired e4
    obtain ⟨e, f1, f2⟩ := paired_get' r2.paired e5
    obtain ⟨H', c', s', z⟩ := pair_new c e2 (d2.mono s) (f2.mono s)
    refine ⟨H', _, c', s', ?_, z⟩
    unfold zipD
    rw [List.getElem?_zipWith, d1, f1]⟩
theorem asWt_of {k : List Dt → Prop} {t : Tr} {s : Sl} {f : List Addr} (q : TrR M t s f) (h : asWt k t) : ∃ ds, k ds ∧ ((s = .dat (.lst ds) ∨ s = .dat (.scr ds)) ∨ s = .dat (.tup ds) ∨ s = .dat (.nup ds)) := by
  cases q with
  | own _ _ => exact h.elim
  | @dat d =>
    cases d with
    | lst ds => exact ⟨ds, h, .inl (.inl rfl)⟩
    | scr ds => exact ⟨ds, h, .inl (.inr rfl)⟩
    | tup ds => exact ⟨ds, h, .inr (.inl rfl)⟩
    | nup ds => exact ⟨ds, h, .inr (.inr rfl)⟩
    | _ => exact h.elim
theorem asW_of {k : List Dt → Prop} {t : Tr} {s : Sl} {f : List Addr} (q : TrR M t s f) (h : asW k t) : ∃ ds, k ds ∧ (s = .dat (.lst ds) ∨ s = .dat (.scr ds)) := by
  cases q with
  | own _ _ => exact h.elim
  | @dat d =>
    cases d with
    | lst ds => exact ⟨ds, h, .inl rfl⟩
    | scr ds => exact ⟨ds, h, .inr rfl⟩
    | _ => exact h.elim
theorem lst_at {H : Hp} {s : Sl} {ds : List Dt} {u : V} (h : s = .dat (.lst ds) ∨ s = .dat (.scr ds)) (q : SlOk K H u s) : ∃ p vs, u = .ref p ∧ SqL K H p vs ∧ DAs K H ds vs := by
  rcases h with h | h
  · subst h
    have q' : DA K H (.lst ds) u := q
    unfold DA at q'
    obtain ⟨p, vs, e1, e2, e3⟩ := q'
    exact ⟨p, vs, e1, SqL.of e2, e3⟩
  · subst h
    have q' : DA K H (.scr ds) u := q
    unfold DA at q'
    exact q'
theorem tup_at {H : Hp} {s : Sl} {ds : List Dt} {u : V} (h : s = .dat (.tup ds) ∨ s = .dat (.nup ds)) (q : SlOk K H u s) : ∃ p vs, u = .ref p ∧ SqT K H p vs ∧ DAs K H ds vs := by
  rcases h with h | h
  · subst h
    have q' : DA K H (.tup ds) u := q
    unfold DA at q'
    exact q'
  · subst h
    have q' : DA K H (.nup ds) u := q
    unfold DA at q'
    obtain ⟨p, o, vs, e1, e2, _, _, e3⟩ := q'
    exact ⟨p, vs, e1, .inl (.inr ⟨o, e2⟩), e3⟩
/-- what is walked -/
structure SR (P : Program) (w : World) (K : PySem.W.Frag) (mg : Str → Option Value) (base : Heap) (ca : Str → Addr) (s : Src) : Prop where
  go : ∀ {N : List Str} {sc : Scope} (F : Fm P w K mg base N sc) (tg x : Expr) (ρ : Rho) (M : OH) (v : Env) (X : Str → Env → Prop) (Q : List Dt → Prop), mSr N F.lv sc s tg x = true → rqSr (Wd P w K mg base ca) s → EV M v ρ → ExOk F ca X → wpSr X v s Q →
    ∃ ti : TI, (∀ j, PI (F.X j) tg x ti) ∧ ∀ H 𝓗 σ, St3 F M H 𝓗 → EnvOk K H σ ρ → ∀ R : L2.It → Hp → Prop, (∀ J H' 𝓗' ds, St3 F M H' 𝓗' → Same H H' → Q ds → DWalk K J H' ds → R J 𝓗') → ti σ 𝓗 R
def iLT (K : PySem.W.Frag) (tl : TE) : TI := fun σ H R => tl σ H fun x H1 => ∃ a, x = .ref a ∧ (((∃ xs, SqL K H1 a xs) ∧ R (Itl K a) H1) ∨ ((∃ xs, SqT K H1 a xs) ∧ R (Itt K a) H1))
theorem pi_lt {X : Cx} {tg l : Expr} {tl : TE} (hl : PE X l tl) : PI X tg l (iLT X.K tl) := by
  refine ⟨fun pins s σ H R I h => thn (hl.run pins s σ H _ I h) fun v s1 ⟨x, H1, J, r1, a, ex, q1⟩ => ?_⟩
  subst ex
  have ev : v = .ref a := r1
  subst ev
  have fp : ∀ H2, Inv X pins σ H2 s1 → ∀ b, b ∈ [s1.heap.objs.size] → FpOk X pins H2 b := fun H2 I2 b hb => by
    obtain rfl : b = s1.heap.objs.size := by simpa using hb
    exact I2.fpOk (Nat.le_refl _) (I2.hok.fresh (Nat.le_refl _))
  rcases q1 with ⟨⟨xs, hq⟩, q⟩ | ⟨⟨xs, hq⟩, q⟩
  · obtain ⟨its, _, p, _⟩ := J.list hq
    exact wpAny_pyIter_list p.isList ⟨s1.heap.objs.size, [s1.heap.objs.size], _, _, H1, rfl, J.kept (t' := s1.toks) (fun _ _ e => Heap.get?_push_of_some _ e), turn_list a _, ⟨_, Heap.get?_push_size _ rfl, rfl, rfl⟩, fp H1 J, q⟩
  · obtain ⟨its, _, p, _⟩ := J.tuple hq
    exact wpAny_pyIter_tuple (show s1.heap.IsTuple a its.toArray from p) ⟨s1.heap.objs.size, [s1.heap.objs.size], _, _, H1, rfl, J.kept (t' := s1.toks) (fun _ _ e => Heap.get?_push_of_some _ e), turn_tuple a _, ⟨_, Heap.get?_push_size _ rfl, rfl, rfl⟩, fp H1 J, q⟩
theorem sr_l (ha : SE P w K mg base ca e) : SR P w K mg base ca (.l e) where
  go := fun F tg x ρ M v X Q h hr he hx hw => by
    rw [mSr] at h
    refine ⟨iLT K (uE F x), fun j => by have q := pi_lt (X := F.X j) (tg := tg) (pe_u (e := x) j); rw [F.eK j] at q; exact q, fun H 𝓗 σ c hE R k => ((ha.ew F _ ρ M v X _ h hr he hx hw).run H 𝓗 σ c hE).mono fun u 𝓗1 ⟨H1, M1, r1, c1, s1, q1, e1, t1, f1, g1, _, w1⟩ => ?_⟩
    subst e1
    obtain ⟨ds, w2, hs | hs⟩ := asWt_of g1 w1
    · obtain ⟨p, vs, rfl, l1, l2⟩ := lst_at hs q1
      exact ⟨p, rfl, .inl ⟨⟨vs, c1.u.seq l1⟩, k _ H1 𝓗1 ds c1 s1 w2 (dw_list (𝓗 := 𝓗1) l1 l2)⟩⟩
    · obtain ⟨p, vs, rfl, l1, l2⟩ := tup_at hs q1
      exact ⟨p, rfl, .inr ⟨⟨vs, Same.seqT c1.u l1⟩, k _ H1 𝓗1 ds c1 s1 w2 (dw_tup (𝓗 := 𝓗1) l1 l2)⟩⟩
theorem sr_r (ha : SE P w K mg base ca e) : SR P w K mg base ca (.r e) where
  go := fun F tg x ρ M v X Q h hr he hx hw => by
    rw [mSr] at h; unfold hSr_r at h
    split at h
    rotate_left
    · cases h
    simp only [Bool.and_eq_true, decide_eq_true_eq] at h
    obtain ⟨⟨⟨rfl, hg⟩, hn⟩, h1⟩ := h
    obtain ⟨hb, hr⟩ := hr
    have hb : mg "range" = none := hb
    refine ⟨_, fun j => pi_range1 (gl_of hg j) (hmg hb j) (pa_u j) (ns_of hn j), fun H 𝓗 σ c hE R k => ((aw1 (R := fun rs M2 => M2 = M ∧ ∃ n, rs = [.dat (.int n)] ∧ 0 ≤ n ∧ n ≤ 90000 ∧ Q (rngD n.toNat)) (ha.ew F _ ρ M v X _ h1 hr he hx hw) hn fun s t f q1 _ q2 => by
      obtain ⟨n, rfl, q3⟩ := asI_of q1 q2
      exact ⟨rfl, n, rfl, q3⟩).run H 𝓗 σ c hE).mono fun vs 𝓗1 ⟨H1, M1, rs, c1, s1, q1, e1, n, e2, n1, n2, w1⟩ => ?_⟩
    subst e1 e2
    obtain ⟨u, rfl, q2⟩ := sl1 q1
    have q2' : u = .int n := q2
    subst q2'
    exact ⟨n, rfl, by omega, by omega, k _ H1 𝓗1 _ c1 s1 w1 dw_range⟩
theorem sr_en (ha : SE P w K mg base ca e) : SR P w K mg base ca (.en e) where
  go := fun F tg x ρ M v X Q h hr he hx hw => by
    rw [mSr] at h
    rw [Bool.and_eq_true] at h
    obtain ⟨ht, h⟩ := h
    unfold hSr_r at h
    split at h
    rotate_left
    · cases h
    rename_i g p1 y p2
    simp only [Bool.and_eq_true, decide_eq_true_eq] at h
    obtain ⟨⟨⟨rfl, hg⟩, hn⟩, h1⟩ := h
    obtain ⟨hb, hr⟩ := hr
    have hb : mg "enumerate" = none := hb
    unfold isTp at ht
    split at ht
    rotate_left
    · cases ht
    rename_i elts kk tpos
    refine ⟨iEnum K (uA F [_]), fun j => by have q := pi_enum (X := F.X j) (p := p1) (pos := p2) (tpos := tpos) (elts := elts) (kk := kk) (gl_of hg j) (hmg hb j) (pa_u j) (ns_of hn j); rw [F.eK j] at q; exact q, fun H 𝓗 σ c hE R k => ((aw1 (R := fun rs M2 => M2 = M ∧ ∃ s ds, rs = [s] ∧ (s = .dat (.lst ds) ∨ s = .dat (.scr ds)) ∧ Q (enumD 0 ds)) (ha.ew F _ ρ M v X _ h1 hr he hx hw) hn fun s t f q1 _ q2 => by
      obtain ⟨ds, q3, q4⟩ := asW_of q1 q2
      exact ⟨rfl, s, ds, rfl, q4, q3⟩).run H 𝓗 σ c hE).mono fun vs 𝓗1 ⟨H1, M1, rs, c1, s1, q1, e1, s, ds, e2, hs, w1⟩ => ?_⟩
    subst e1 e2
    obtain ⟨u, rfl, q2⟩ := sl1 q1
    obtain ⟨p, vs, rfl, l1, l2⟩ := lst_at hs q2
    exact ⟨p, vs, rfl, c1.u.seq l1, k _ H1 𝓗1 _ c1 s1 w1 (dw_enum (𝓗 := 𝓗1) l1 l2)⟩
theorem sr_zp (ha : SE P w K mg base ca a) (hb : SE P w K mg base ca b) : SR P w K mg base ca (.zp a b) where
  go := fun F tg x ρ M v X Q h hr he hx hw => by
    rw [mSr] at h
    rw [Bool.and_eq_true] at h
    obtain ⟨ht, h⟩ := h
    unfold hSr_zp at h
    split at h
    rotate_left
    · cases h
    rename_i g p1 y y2 p2
    simp only [Bool.and_eq_true, decide_eq_true_eq] at h
    obtain ⟨⟨⟨⟨⟨rfl, hg⟩, hn1⟩, hn2⟩, h1⟩, h2⟩ := h
    obtain ⟨hm, ra, rb⟩ := hr
    have hm : mg "zip" = none := hm
    unfold isTp at ht
    split at ht
    rotate_left
    · cases ht
    rename_i elts kk tpos
    refine ⟨iZip K (uA F [_, _]), fun j => by have q := pi_zip (X := F.X j) (p := p1) (pos := p2) (tpos := tpos) (elts := elts) (kk := kk) (gl_of hg j) (hmg hm j) (pa_u j) (ns_of hn1 j) (np_of (by rw [List.all_cons, hn2]; rfl) j); rw [F.eK j] at q; exact q, fun H 𝓗 σ c hE R k => ((aw_cons (Q := fun rs M2 => M2 = M ∧ ∃ s ds s' es, rs = [s, s'] ∧ (s = .dat (.lst ds) ∨ s = .dat (.scr ds)) ∧ (s' = .dat (.lst es) ∨ s' = .dat (.scr es)) ∧ ds.length = es.length ∧ Q (zipD ds es)) ((ha.ew F _ ρ M v X _ h1 ra he hx hw).mono fun s M1 ⟨e1, t, f, q1, _, q2⟩ => by
      subst e1
      obtain ⟨ds, q3, q4⟩ := asW_of q1 q2
      exact aw1 (hb.ew F _ ρ M1 v X _ h2 rb he hx q3) hn2 fun s' t' f' g1 _ g2 => by
        obtain ⟨es, ⟨g3, g5⟩, g4⟩ := asW_of g1 g2
        exact ⟨rfl, s, ds, s', es, rfl, q4, g4, g3, g5⟩) (ns_of hn1)).run H 𝓗 σ c hE).mono fun vs 𝓗1 ⟨H1, M1, rs, c1, s1, q1, e1, s, ds, s', es, e2, hs, hs', hl, w1⟩ => ?_⟩
    subst e1 e2
    obtain ⟨u, u', rfl, q2, q3⟩ := sl2 q1
    obtain ⟨p, vs, rfl, l1, l2⟩ := lst_at hs q2
    obtain ⟨p', vs', rfl, l1', l2'⟩ := lst_at hs' q3
    exact ⟨p, p', vs, vs', rfl, c1.u.seq l1, c1.u.seq l1', k _ H1 𝓗1 _ c1 s1 w1 (dw_zip (𝓗 := 𝓗1) l1 l2 l1' l2' hl)⟩
theorem sr_rv (ha : SE P w K mg base ca e) : SR P w K mg base ca (.rv e) where
  go := fun F tg x ρ M v X Q h hr he hx hw => by
    rw [mSr] at h; unfold hSr_rv at h
    split at h
    rotate_left
    · cases h
    simp only [Bool.and_eq_true, decide_eq_true_eq] at h
    obtain ⟨⟨⟨⟨⟨rfl, hg⟩, rfl⟩, hg2⟩, hn⟩, h1⟩ := h
    obtain ⟨hb, hb2, hr⟩ := hr
    have hb : mg "reversed" = none := hb
    have hb2 : mg "range" = none := hb2
    refine ⟨iRevR (tRg1 (uE F _)), fun j => pi_revR (gl_of hg j) (hmg hb j) (prg_1 (gl_of hg2 j) (hmg hb2 j) (pe_u j) (ns_of hn j)) (ns_of rfl j), fun H 𝓗 σ c hE R k => ((ha.ew F _ ρ M v X _ h1 hr he hx hw).run H 𝓗 σ c hE).mono fun u 𝓗1 ⟨H1, M1, r1, c1, s1, q1, e1, t1, f1, g1, _, w1⟩ => ?_⟩
    subst e1
    obtain ⟨n, rfl, n1, n2, w2⟩ := asI_of g1 w1
    have q2' : u = .int n := q1
    subst q2'
    refine ⟨n, rfl, by omega, by omega, by omega, by omega, ?_⟩
    have e3 : (n - 0).toNat = n.toNat := by omega
    have e4 : (0 : Int) + (((n - 0).toNat : Nat) : Int) - 1 = ((n.toNat : Nat) : Int) - 1 := by omega
    rw [e4, e3]
    exact k _ H1 𝓗1 _ c1 s1 w2 dw_rev
/-- a comprehension's test -/
structure SC (P : Program) (w : World) (K : PySem.W.Frag) (mg : Str → Option Value) (base : Heap) (ca : Str → Addr) (o : Op) : Prop where
  go : ∀ {N : List Str} {sc : Scope} (F : Fm P w K mg base N sc) (xs : List Expr) (ρ : Rho) (M : OH) (v : Env) (X : Str → Env → Prop) (Q : Bool → Prop), mC N F.lv sc o xs = true → rqO (Wd P w K mg base ca) o → EV M v ρ → ExOk F ca X → wpC X v o Q → CW F ρ M xs fun b M' => M' = M ∧ Q b
  len : ∀ {N : List Str} {sc : Scope} {lv : Nat} {xs : List Expr}, mC N lv sc o xs = true → xs.length ≤ 1
theorem scNo : SC P w K mg base ca .no where
  go := fun F xs ρ M v X Q h hr he hx hw => by
    rw [mC] at h; unfold hC_no at h
    split at h
    rotate_left
    · cases h
    exact ⟨rfl, hw⟩
  len := fun h => by
    rw [mC] at h; unfold hC_no at h
    split at h
    · exact Nat.zero_le _
    · cases h
theorem scSo (ha : SE P w K mg base ca e) : SC P w K mg base ca (.so e) where
  go := fun F xs ρ M v X Q h hr he hx hw => by
    rw [mC] at h; unfold hC_so at h
    split at h
    rotate_left
    · cases h
    exact ha.tw F _ ρ M v X Q h hr he hx hw
  len := fun h => by
    rw [mC] at h; unfold hC_so at h
    split at h
    · exact Nat.le_refl _
    · cases h
end
end DD
namespace DD
open PySem PySem.Spec PyProof.Rows L2 DL
section
variable {P : Program} {w : World} {K : PySem.W.Frag} {mg : Str → Option Value} {base : Heap} {N : List Str} {sc : Scope} {F : Fm P w K mg base N sc} {ca : Str → Addr}
variable {ρ : Rho} {M : OH} {v : Env} {x y z : Expr} {pos : Pos} {r r1 r2 : Sl} {e a b c : E}
def Grow (M M' : OH) : Prop := ∀ a, M a ≠ none → M' a = M a
theorem Grow.refl : Grow M M := fun _ _ => rfl
theorem Grow.trans {M1 M2 M3 : OH} (h : Grow M1 M2) (k : Grow M2 M3) : Grow M1 M3 := fun a ha => by rw [k a (by rw [h a ha]; exact ha), h a ha]
theorem Grow.fresh {M1 M2 : OH} (h : Grow M1 M2) {a : Addr} (k : M2 a = none) : M1 a = none := by
  cases e : M1 a with
  | none => rfl
  | some xs => rw [h a (by rw [e]; exact fun z => nomatch z), e] at k; cases k
theorem Grow.set {p : Addr} {xs : List Sl} (h : M p = none) : Grow M (oset M p xs) := fun a ha => oset_ne (fun z => by rw [z] at ha; exact ha h)
/-- a thing that stands apart from all that stood -/
def IV (M : OH) (Q : Tr → Prop) : Sl → OH → Prop := fun r M' => ∃ t f, Grow M M' ∧ TrR M' t r f ∧ f.Nodup ∧ (∀ a ∈ f, M a = none) ∧ Q t
def NV (M : OH) (Q : List Tr → Prop) : Sl → OH → Prop := fun r M' => ∃ ts f, Grow M M' ∧ TrR M' (.own ts) r f ∧ f.Nodup ∧ (∀ a ∈ f, M a = none) ∧ Q ts
structure SN (P : Program) (w : World) (K : PySem.W.Frag) (mg : Str → Option Value) (base : Heap) (ca : Str → Addr) (n : Nw) : Prop where
  ew : ∀ {N : List Str} {sc : Scope} (F : Fm P w K mg base N sc) (x : Expr) (ρ : Rho) (M : OH) (v : Env) (X : Str → Env → Prop) (Q : List Tr → Prop), mN N F.lv sc n x = true → rqN (Wd P w K mg base ca) n → EV M v ρ → ExOk F ca X → wpN X v n Q → EW F ρ M x (NV M Q)
  ez : ∀ {N : List Str} {sc : Scope} (F : Fm P w K mg base N sc) (elt : Expr) (gs : List Comprehension) (s : Scope) (p : Pos) (ρ : Rho) (M : OH) (v : Env) (X : Str → Env → Prop) (Q : List Tr → Prop), mN N F.lv sc n (.ListComp elt gs s p) = true → rqN (Wd P w K mg base ca) n → EV M v ρ → ExOk F ca X → wpN X v n Q → EZ F ρ M (.ListComp elt gs s p) (NV M Q)
structure SI (P : Program) (w : World) (K : PySem.W.Frag) (mg : Str → Option Value) (base : Heap) (ca : Str → Addr) (i : It) : Prop where
  ew : ∀ {N : List Str} {sc : Scope} (F : Fm P w K mg base N sc) (x : Expr) (ρ : Rho) (M : OH) (v : Env) (X : Str → Env → Prop) (Q : Tr → Prop), mI N F.lv sc i x = true → rqI (Wd P w K mg base ca) i → EV M v ρ → ExOk F ca X → wpI X v i Q → EW F ρ M x (IV M Q)
structure SIs (P : Program) (w : World) (K : PySem.W.Frag) (mg : Str → Option Value) (base : Heap) (ca : Str → Addr) (is : Is) : Prop where
  aw : ∀ {N : List Str} {sc : Scope} (F : Fm P w K mg base N sc) (xs : List Expr) (ρ : Rho) (M : OH) (v : Env) (X : Str → Env → Prop) (Q : List Tr → Prop), mIs N F.lv sc is xs = true → rqIs (Wd P w K mg base ca) is → EV M v ρ → ExOk F ca X → wpIs X v is Q →
    AW F ρ M xs fun rs M' => rs.length = xs.length ∧ ∃ ts f, Grow M M' ∧ TrsR M' ts rs f ∧ f.Nodup ∧ (∀ a ∈ f, M a = none) ∧ Q ts
theorem si_v (ha : SE P w K mg base ca e) : SI P w K mg base ca (.v e) where
  ew := fun F x ρ M v X Q h hr he hx hw => by
    rw [mI] at h
    exact (ha.ew F _ ρ M v X _ h hr he hx hw).mono fun r M' ⟨e1, t, f, q1, _, q2⟩ => by
      subst e1
      obtain ⟨d, _, rfl, q3⟩ := asD_of q1 q2
      exact ⟨.dat d, [], Grow.refl, .dat, List.nodup_nil, (fun _ z => nomatch z), q3⟩
theorem si_n {n : Nw} (hn : SN P w K mg base ca n) : SI P w K mg base ca (.n n) where
  ew := fun F x ρ M v X Q h hr he hx hw => by
    rw [mI] at h
    exact (hn.ew F _ ρ M v X _ h hr he hx hw).mono fun r M' ⟨ts, f, g, q1, q2, q3, q4⟩ => ⟨.own ts, f, g, q1, q2, q3, q4⟩
theorem sis_nil : SIs P w K mg base ca .nil where
  aw := fun F xs ρ M v X Q h hr he hx hw => by
    rw [mIs] at h; unfold hIs_nil at h
    split at h
    rotate_left
    · cases h
    exact aw_nil ⟨rfl, [], [], Grow.refl, .nil, List.nodup_nil, (fun _ z => nomatch z), hw⟩
theorem sis_cons {i : It} {is : Is} (hi : SI P w K mg base ca i) (hs : SIs P w K mg base ca is) : SIs P w K mg base ca (.cons i is) where
  aw := fun F xs ρ M v X Q h hr he hx hw => by
    rw [mIs] at h; unfold hIs_cons at h
    split at h
    rotate_left
    · cases h
    simp only [Bool.and_eq_true] at h
    obtain ⟨⟨h0, h1⟩, h2⟩ := h
    refine aw_cons ((hi.ew F _ ρ M v X _ h1 hr.1 he hx hw).mono fun r M1 ⟨t, f, g1, q1, q2, q3, w1⟩ => ?_) (ns_of h0)
    refine (hs.aw F _ ρ M1 v X _ h2 hr.2 (he.up g1) hx w1).mono fun rs M2 ⟨el, ts, f2, g2, q4, q5, q6, w2⟩ => ?_
    refine ⟨by rw [List.length_cons, List.length_cons, el], t :: ts, f ++ f2, g1.trans g2, .cons (q1.frame fun a ha => g2 a (q1.dom a ha)) q4, List.nodup_append.mpr ⟨q2, q5, fun a ha b hb e => ?_⟩, fun a ha => ?_, w2⟩
    · subst e
      exact q1.dom a ha (q6 a hb)
    · rcases List.mem_append.mp ha with z | z
      · exact q3 a z
      · exact g1.fresh (q6 a z)
theorem SN.plain {n : Nw} (h : ∀ {N : List Str} {sc : Scope} (F : Fm P w K mg base N sc) (x : Expr) (ρ : Rho) (M : OH) (v : Env) (X : Str → Env → Prop) (Q : List Tr → Prop), mN N F.lv sc n x = true → rqN (Wd P w K mg base ca) n → EV M v ρ → ExOk F ca X → wpN X v n Q → EW F ρ M x (NV M Q))
    (hp : ∀ N lv sc elt gs s p, mN N lv sc n (.ListComp elt gs s p) = true → False) : SN P w K mg base ca n where
  ew := h
  ez := fun F elt gs s p ρ M v X Q h1 _ _ _ _ => (hp _ _ _ _ _ _ _ h1).elim
theorem new_nv {M1 : OH} {Q : List Tr → Prop} {p : Addr} {xs : List Sl} {ts : List Tr} {f : List Addr} (g : Grow M M1) (hp : M1 p = none) (q1 : TrsR M1 ts xs f) (q2 : f.Nodup) (q3 : ∀ a ∈ f, M a = none) (q4 : Q ts) : NV M Q (.raw (.ref p)) (oset M1 p xs) :=
  ⟨ts, p :: f, g.trans (Grow.set hp), .own oset_same (q1.frame fun a ha => oset_ne fun z => q1.dom a ha (z ▸ hp)), List.nodup_cons.mpr ⟨fun z => q1.dom p z hp, q2⟩, fun a ha => by
    rcases List.mem_cons.mp ha with e | e
    · subst e; exact g.fresh hp
    · exact q3 a e, q4⟩
theorem sn_lst {is : Is} (hs : SIs P w K mg base ca is) : SN P w K mg base ca (.lst is) := .plain (fun F x ρ M v X Q h hr he hx hw => by
    rw [mN] at h; unfold hN_lst at h
    split at h
    rotate_left
    · cases h
    simp only [Bool.and_eq_true, decide_eq_true_eq] at h
    obtain ⟨h1, h2⟩ := h
    exact ew_lst ((hs.aw F _ ρ M v X _ h1 hr he hx hw).mono fun rs M1 ⟨el, ts, f, g, q1, q2, q3, q4⟩ => ⟨by omega, fun p hp => new_nv g hp q1 q2 q3 q4⟩)) (fun N lv sc elt gs s p h => by rw [mN] at h; cases h)
/-- an owned copy of data -/
theorem nv_dats {Q : List Tr → Prop} {ts : List Tr} {p : Addr} (hp : M p = none) (hd : ts.all isD = true) (q : Q ts) : NV M Q (.raw (.ref p)) (oset M p ((ts.map toD).map .dat)) := by
  have e : ts = (ts.map toD).map .dat := by
    clear q
    induction ts with
    | nil => rfl
    | cons t ts ih =>
      rw [List.all_cons, Bool.and_eq_true] at hd
      rw [List.map_cons, List.map_cons, ← ih hd.2]
      cases t with
      | dat d => rfl
      | un => simp [isD] at hd
      | own _ => simp [isD] at hd
  have tr : TrsR M ts ((ts.map toD).map .dat) [] := by
    have z : TrsR M ((ts.map toD).map .dat) ((ts.map toD).map .dat) [] := TrsR.dats
    rw [← e] at z
    exact z
  exact new_nv Grow.refl hp tr List.nodup_nil (fun _ z => nomatch z) q
theorem allD_rep {ts : List Tr} (h : ts.all isD = true) (k : Nat) : (List.replicate k ts).flatten.all isD = true ∧ ((List.replicate k ts).flatten.map toD) = (List.replicate k (ts.map toD)).flatten := by
  induction k with
  | zero => exact ⟨rfl, rfl⟩
  | succ k ih => rw [List.replicate_succ, List.flatten_cons, List.all_append, h, ih.1, List.map_append, ih.2, List.replicate_succ, List.flatten_cons]; exact ⟨rfl, rfl⟩
theorem sn_rep (ha : SE P w K mg base ca a) (hb : SE P w K mg base ca b) : SN P w K mg base ca (.rep a b) := .plain (fun F x ρ M v X Q h hr he hx hw => by
    rw [mN] at h; unfold hN_rep at h
    split at h
    rotate_left
    · cases h
    simp only [Bool.and_eq_true] at h
    obtain ⟨h1, h2⟩ := h
    refine ew_op2 (fun _ => pe_op op_rep (pe_u _) (pe_u _)) ((ha.ew F _ ρ M v X _ h1 hr.1 he hx hw).mono fun s1 M1 ⟨e1, t1, f1, q1, _, w1⟩ => ?_)
    subst e1
    obtain ⟨ts, xs, g, l1, l2, w1⟩ := asC_of q1 w1
    refine (hb.ew F _ ρ M1 v X _ h2 hr.2 he hx w1).mono fun s2 M2 ⟨e2, t2, f2, q2, _, w2⟩ => ?_
    subst e2
    obtain ⟨j, rfl, wd, j0, j1, wz, w3⟩ := asI_of q2 w2
    obtain ⟨_, ex, _⟩ := l2.allD wd
    subst ex
    intro H 𝓗 u u2 Q' c k1 k2 k
    obtain ⟨p, vs, rfl, y2, y3⟩ := l1.seq c k1
    have k2' : u2 = .int j := k2
    subst k2'
    have hl := y3.length
    rw [List.length_map, List.length_map] at hl
    refine ⟨p, j, vs, rfl, rfl, y2, by omega, by omega, sz5 (by rw [hl]; omega), fun q hq => k _ _ ?_⟩
    obtain ⟨d1, d2⟩ := allD_rep wd j.toNat
    have nv := nv_dats (Q := Q) (c.none_of hq).2.2 d1 w3
    rw [d2, List.map_flatten, List.map_replicate] at nv
    exact ⟨H, _, .raw (.ref q), c.newL hq (paired_rep y3 j.toNat), Same.refl H, rfl, nv⟩) (fun N lv sc elt gs s p h => by rw [mN] at h; cases h)
theorem sn_cat (ha : SE P w K mg base ca a) (hb : SE P w K mg base ca b) : SN P w K mg base ca (.cat a b) := .plain (fun F x ρ M v X Q h hr he hx hw => by
    rw [mN] at h; unfold hN_cat at h
    split at h
    rotate_left
    · cases h
    simp only [Bool.and_eq_true] at h
    obtain ⟨h1, h2⟩ := h
    refine ew_op2 (fun _ => pe_op op_cat (pe_u _) (pe_u _)) ((ha.ew F _ ρ M v X _ h1 hr.1 he hx hw).mono fun s1 M1 ⟨e1, t1, f1, q1, _, w1⟩ => ?_)
    subst e1
    obtain ⟨ts, xs, g, l1, l2, w1⟩ := asC_of q1 w1
    refine (hb.ew F _ ρ M1 v X _ h2 hr.2 he hx w1).mono fun s2 M2 ⟨e2, t2, f2, q2, _, w2⟩ => ?_
    subst e2
    obtain ⟨ts2, xs2, g2, m1, m2, wd, wd2, wz, w3⟩ := asC_of q2 w2
    obtain ⟨_, ex, _⟩ := l2.allD wd
    obtain ⟨_, ex2, _⟩ := m2.allD wd2
    subst ex ex2
    intro H 𝓗 u u2 Q' c k1 k2 k
    obtain ⟨p, vs, rfl, y2, y3⟩ := l1.seq c k1
    obtain ⟨p2, vs2, rfl, z2, z3⟩ := m1.seq c k2
    have hl := y3.length
    have hl2 := z3.length
    rw [List.length_map, List.length_map] at hl hl2
    refine ⟨p, p2, vs, vs2, rfl, rfl, y2, z2, sz5 (by rw [hl, hl2]; omega), fun q hq => k _ _ ?_⟩
    have nv := nv_dats (Q := Q) (c.none_of hq).2.2 (ts := ts ++ ts2) (by rw [List.all_append, wd, wd2]; rfl) w3
    rw [List.map_append, List.map_append] at nv
    exact ⟨H, _, .raw (.ref q), c.newL hq (paired_append y3 z3), Same.refl H, rfl, nv⟩) (fun N lv sc elt gs s p h => by rw [mN] at h; cases h)
theorem allD_sub {ts us : List Tr} (h : ts.all isD = true) (k : ∀ t ∈ us, t ∈ ts) : us.all isD = true := List.all_eq_true.mpr fun t ht => List.all_eq_true.mp h t (k t ht)
theorem cutN_mem {α : Type} {xs : List α} {lo hi : Option Nat} : ∀ x ∈ cutN xs lo hi, x ∈ xs := fun x hx => by
  unfold cutN at hx
  exact List.mem_of_mem_drop (List.mem_of_mem_take hx)
theorem sn_sl {lo hi : Op} (ha : SE P w K mg base ca a) (hl : SO P w K mg base ca lo) (hh : SO P w K mg base ca hi) : SN P w K mg base ca (.sl a lo hi) := .plain (fun F x ρ M v X Q h hr he hx hw => by
    rw [mN] at h; unfold hN_sl at h
    split at h
    rotate_left
    · cases h
    simp only [Bool.and_eq_true] at h
    obtain ⟨⟨h1, h2⟩, h3⟩ := h
    refine .mk fun H 𝓗 σ c hE => ?_
    refine uE.by (t := tSl (rSlL K) (uE F _) (toOf F _) (toOf F _)) (fun j => pe_slice (fSlL j) (pe_u j) (po_u j _) (po_u j _)) (((ha.ew F _ ρ M v X _ h1 hr.1 he hx hw).run H 𝓗 σ c hE).mono fun u 𝓗1 ⟨H1, M1, r1, c1, s1, q1, e1, t1, f1, g1, _, w1⟩ => ?_)
    subst e1
    obtain ⟨ts, xs, g, l1, l2, w1⟩ := asL_of g1 w1
    refine hl.go F _ ρ M1 v X _ h2 hr.2.1 he hx w1 H1 𝓗1 σ c1 (hE.mono s1) _ fun i H2 𝓗2 w2 c2 s2 => ?_
    refine hh.go F _ ρ M1 v X _ h3 hr.2.2 he hx w2 H2 𝓗2 σ c2 (hE.mono (s1.trans s2)) _ fun j H3 𝓗3 w3 c3 s3 => ?_
    obtain ⟨wd, n1, n2, w3⟩ := w3
    obtain ⟨_, ex, _⟩ := l2.allD wd
    subst ex
    obtain ⟨p, vs, rfl, y2, y3⟩ := l1.seq c3 (q1.mono (s2.trans s3))
    rw [← toNat_oI n1, ← toNat_oI n2]
    refine ⟨p, vs, rfl, y2, fun q hq => ?_⟩
    rw [cutV_eq]
    have nv := nv_dats (Q := Q) (c3.none_of hq).2.2 (allD_sub wd cutN_mem) w3
    rw [← cutN_map, ← cutN_map] at nv
    exact ⟨H3, _, .raw (.ref q), c3.newL hq (paired_cut y3 _ _), (s1.trans s2).trans s3, rfl, nv⟩) (fun N lv sc elt gs s p h => by rw [mN] at h; cases h)
theorem sn_cp (ha : SE P w K mg base ca a) : SN P w K mg base ca (.cp a) := .plain (fun F x ρ M v X Q h hr he hx hw => by
    rw [mN] at h; unfold hN_cp at h
    split at h
    rotate_left
    · cases h
    simp only [Bool.and_eq_true, decide_eq_true_eq] at h
    obtain ⟨⟨⟨rfl, hg⟩, hn⟩, h1⟩ := h
    obtain ⟨hb, hr⟩ := hr
    have hb : mg "list" = none := hb
    refine ew_cb (fun i => pe_callTy (fListOf i) (gl_of hg i) (hmg hb i) (by decide +kernel) (pa_u i) (he := ns_of hn i) (hpl := np_of rfl i)) (aw1 (ha.ew F _ ρ M v X _ h1 hr he hx hw) hn fun s t f q1 _ q2 => ?_)
    obtain ⟨ts, xs, g, l1, l2, wd, w1⟩ := asQ_of q1 q2
    obtain ⟨_, ex, _⟩ := l2.allD wd
    subst ex
    intro H 𝓗 vs Q' c q k
    obtain ⟨u, rfl, qv⟩ := sl1 q
    obtain ⟨p, ws, rfl, e2, e3⟩ := l1.seq c qv
    exact ⟨p, ws, rfl, e2, fun l hl => k _ _ ⟨H, _, .raw (.ref l), c.newL hl e3, Same.refl H, rfl, nv_dats (c.none_of hl).2.2 wd w1⟩⟩) (fun N lv sc elt gs s p h => by rw [mN] at h; cases h)
theorem rngD_vals {H : Hp} (n : Nat) : SlsOk K H ((List.range n).map fun k : Nat => V.int (k : Int)) ((rngD n).map .dat) := by
  unfold rngD
  rw [List.map_map]
  generalize List.range n = l
  induction l with
  | nil => exact .nil
  | cons k l ih => exact .cons (by show DA K H (.int _) _; unfold DA; rfl) ih
theorem dats_ok (ds : List Dt) : (ds.map Tr.dat).all isD = true := by
  induction ds with
  | nil => rfl
  | cons d ds ih => rw [List.map_cons, List.all_cons, ih]; rfl
theorem sn_rng (ha : SE P w K mg base ca a) : SN P w K mg base ca (.rng a) := .plain (fun F x ρ M v X Q h hr he hx hw => by
    rw [mN] at h; unfold hN_rng at h
    split at h
    rotate_left
    · cases h
    simp only [Bool.and_eq_true, decide_eq_true_eq] at h
    obtain ⟨⟨⟨⟨⟨rfl, hg⟩, rfl⟩, hg2⟩, hn⟩, h1⟩ := h
    obtain ⟨hb, hb2, hr⟩ := hr
    have hb : mg "list" = none := hb
    have hb2 : mg "range" = none := hb2
    refine .mk fun H 𝓗 σ c hE => ?_
    refine uE.by (t := tLstRg (tRg1 (uE F _))) (fun j => pe_listRg (F.hc j) (gl_of hg j) (hmg hb j) (prg_1 (gl_of hg2 j) (hmg hb2 j) (pe_u j) (ns_of hn j)) (ns_of rfl j)) (((ha.ew F _ ρ M v X _ h1 hr he hx hw).run H 𝓗 σ c hE).mono fun u 𝓗1 ⟨H1, M1, r1, c1, s1, q1, e1, t1, f1, g1, _, w1⟩ => ?_)
    subst e1
    obtain ⟨n, rfl, n0, n1, w2⟩ := asI_of g1 w1
    refine ⟨n, q1, RgOk.of_le (by omega) (by omega) (by omega) (by omega), fun q hq => ?_⟩
    have en : n = ((n.toNat : Nat) : Int) := (Int.toNat_of_nonneg n0).symm
    have ev : rgV 0 n = (List.range n.toNat).map fun k : Nat => V.int (k : Int) := by rw [en, rgV_nat]; rfl
    rw [ev]
    have nv := nv_dats (Q := Q) (c1.none_of hq).2.2 (dats_ok (rngD n.toNat)) w2
    rw [map_toD] at nv
    exact ⟨H1, _, .raw (.ref q), c1.newL hq (rngD_vals n.toNat), s1, rfl, nv⟩) (fun N lv sc elt gs s p h => by rw [mN] at h; cases h)
end
end DD
namespace DD
open PySem PySem.Spec PyProof.Rows L2 DL
section
variable {P : Program} {w : World} {K : PySem.W.Frag} {mg : Str → Option Value} {base : Heap} {N : List Str} {sc : Scope} {F : Fm P w K mg base N sc} {ca : Str → Addr}
variable {ρ : Rho} {M : OH} {v : Env} {x y z : Expr} {pos : Pos} {r r1 r2 : Sl} {e a b c : E}
theorem nset_of (h : nset x = true) : ∀ (env : PySem.Env) y, foldedSetIterable x env y = pure y := fun env y => by cases x <;> first | rfl | cases h
theorem ownNm_app : ∀ (is js : List Nat), ownNm N (is ++ js) = ownNm N is ++ ownNm N js
  | [], js => rfl
  | i :: is, js => by rw [List.cons_append, ownNm, ownNm, ownNm_app is js, List.append_assoc]
mutual
theorem own_slots {lp : Str → Bool} : ∀ (p : Pt) (x : Expr), mP N lp p x = true → (ownNm N (slots p)).map (·.2) = slots p
  | .v i, x, h => by
    cases x <;> first | (simp [mP] at h; done) | skip
    simp only [mP, Bool.and_eq_true, decide_eq_true_eq] at h
    simp only [slots, ownNm, h.1]
    rfl
  | .t ps, x, h => by
    cases x <;> first | (simp [mP] at h; done) | skip
    simp only [mP] at h
    exact own_slotss ps _ h
theorem own_slotss {lp : Str → Bool} : ∀ (ps : Pts) (xs : List Expr), mPs N lp ps xs = true → (ownNm N (slotss ps)).map (·.2) = slotss ps
  | .nil, xs, h => rfl
  | .cons p ps, xs, h => by
    cases xs <;> first | (simp [mPs] at h; done) | skip
    simp only [mPs, Bool.and_eq_true] at h
    rw [slotss, ownNm_app, List.map_append, own_slots p _ h.1, own_slotss ps _ h.2]
end
theorem wipe_apart {σ σ' : L2.St} {vs : List Nat} (h : ∀ j, j ∉ vs → σ'[j]? = (L2.wipe σ vs)[j]?) (hl : σ'.length = (L2.wipe σ vs).length) : L2.wipe σ' vs = L2.wipe σ vs := by
  apply List.ext_getElem?
  intro i
  rw [L2.wipe_length] at hl
  rw [wipe_get, wipe_get, hl]
  by_cases hi : i ∈ vs
  · by_cases h2 : i < σ.length
    · rw [if_pos ⟨hi, h2⟩, if_pos ⟨hi, h2⟩]
    · rw [if_neg (fun z => h2 z.2), if_neg (fun z => h2 z.2), List.getElem?_eq_none (by omega), List.getElem?_eq_none (by omega)]
  · rw [if_neg (fun z => hi z.1), if_neg (fun z => hi z.1), h i hi, wipe_get, if_neg (fun z => hi z.1)]
theorem drop_at {α : Type} {xs : List α} {k : Nat} {x : α} (h : xs[k]? = some x) : xs.drop k = x :: xs.drop (k + 1) := by
  obtain ⟨h1, h2⟩ := List.getElem?_eq_some_iff.mp h
  rw [List.drop_eq_getElem_cons h1, h2]
theorem snoc_tr {t : Tr} {s : Sl} {g : List Addr} : ∀ {ts : List Tr} {ss : List Sl} {f : List Addr}, TrsR M ts ss f → TrR M t s g → TrsR M (ts ++ [t]) (ss ++ [s]) (f ++ g)
  | _, _, _, .nil, h => by
    have q : TrsR M [t] [s] (g ++ []) := .cons h .nil
    rw [List.append_nil] at q
    exact q
  | _, _, _, .cons a b, h => by
    have q := TrsR.cons a (snoc_tr b h)
    rw [← List.append_assoc] at q
    exact q
/-- a comprehension -/
theorem sn_comp {p : Pt} {s : Src} {o : Op} {i : It} (hs : SR P w K mg base ca s) (hc : SC P w K mg base ca o) (hi : SI P w K mg base ca i) : SN P w K mg base ca (.comp p s o i) := by
  have main : ∀ {N : List Str} {sc : Scope} (F : Fm P w K mg base N sc) (x : Expr) (ρ : Rho) (M : OH) (v : Env) (X : Str → Env → Prop) (Q : List Tr → Prop), mN N F.lv sc (.comp p s o i) x = true → rqN (Wd P w K mg base ca) (.comp p s o i) → EV M v ρ → ExOk F ca X → wpN X v (.comp p s o i) Q → EZ F ρ M x (NV M Q) := fun {N sc} F x ρ M v X Q h hr he hx hw => by
    rw [mN] at h; unfold hN_comp at h
    split at h
    rotate_left
    · cases h
    rename_i elt tg it ifs k scope pos
    simp only [Bool.and_eq_true, decide_eq_true_eq] at h
    obtain ⟨⟨⟨⟨⟨⟨rfl, h1⟩, h2⟩, h3⟩, h4⟩, h5⟩, h6⟩ := h
    obtain ⟨r1, r2, r3⟩ := hr
    obtain ⟨ti, t1, t2⟩ := hs.go F tg it ρ M v X _ h1 r1 he hx hw
    have hvs := own_slots p tg h3
    have hl1 := hc.len h5
    have ok : BlkOk N sc scope (ownNm N (slots p)) := blkOk_by h4
    refine ⟨tLc ti (gP K p) (ttOf (F.blk scope) ifs) (uE (F.blk scope) elt) ((ownNm N (slots p)).map (·.2)), fun j => pe_lc (own := ownNm N (slots p)) (F.hc j) (by rw [F.eN j]; exact F.nd) (t1 j) (by rw [F.eN j, F.es j]; exact ok) (fun s H C cl fp => pat_pg (F := F.blk scope) lp_1 p tg h3 (j, s, H, C, cl, fp)) (fun s H C cl fp => pts_u hl1 (F := F.blk scope) (j, s, H, C, cl, fp)) (fun s H C cl fp => pe_u (F := F.blk scope) (j, s, H, C, cl, fp)) (nset_of h2 _),
      fun i y py spos hy hyl hsw j => ps_setLc (own := ownNm N (slots p)) (F.hc j) (by rw [F.eN j]; exact F.nd) (by rw [F.eN j]; exact hy) (hyl j) (hsw j) (t1 j) (by rw [F.eN j, F.es j]; exact ok) (fun s H C cl fp => pat_pg (F := F.blk scope) lp_1 p tg h3 (j, s, H, C, cl, fp)) (fun s H C cl fp => pts_u hl1 (F := F.blk scope) (j, s, H, C, cl, fp)) (fun s H C cl fp => pe_u (F := F.blk scope) (j, s, H, C, cl, fp)) (nset_of h2 _), fun H 𝓗 σ c hE R kR => ?_⟩
    rw [hvs]
    refine t2 H 𝓗 σ c hE _ fun J H1 𝓗1 ds c1 s1 ⟨hz, hq⟩ dw D hD => ?_
    obtain ⟨G, Y, w1, w2, w3⟩ := dw.w
    have hMD : M D = none := (c1.none_of hD).2.2
    refine lc_it w1 (fun k 𝓗' => ∃ H' M' acc ts f, St3 F M' H' 𝓗' ∧ Same H1 H' ∧ M' D = some acc ∧ TrsR M' ts acc f ∧ (D :: f).Nodup ∧ (∀ a ∈ D :: f, M a = none) ∧ Grow M M' ∧ acc.length ≤ k ∧ compL (fun d K => asg p d (wipeV v (slots p)) fun v' => wpC noX v' o fun b => (b = true → wpI noX v' i fun t => K [t]) ∧ (b = false → K [])) (ds.drop k) (fun rest => Q (ts ++ rest))) ?_ ?_ ?_ ?_
    · refine ⟨H1, _, [], [], [], c1.newL hD .nil, Same.refl _, oset_same, .nil, by simp, fun a ha => ?_, Grow.set hMD, Nat.le_refl _, hq⟩
      rcases List.mem_cons.mp ha with z | z
      · subst z; exact hMD
      · cases z
    · rintro k 𝓗' hk ⟨H', M', acc, ts, f, c', s', _⟩
      exact w2 𝓗' (s'.trans c'.u)
    · rintro k u 𝓗' 𝓗2 hk ⟨H', M', acc, ts, f, c', s', m1, m2, m3, m4, m5, m6, m7⟩ hy
      obtain ⟨H2, d, c2, s2, d1, d2⟩ := w3 _ _ _ _ _ _ _ _ hk c' s' hy
      rw [drop_at d1] at m7
      refine pat_go p d _ _ (wipeR ρ (slots p)) M' H2 𝓗2 (L2.wipe σ (slots p)) u _ m7 c2 ((hE.mono ((s1.trans s').trans s2)).wipe _) ((he.up m5).wipe _) d2 fun σ3 ρ3 v3 hE3 he3 q3 ap => ⟨wipe_apart ap.s ap.l, ?_⟩
      refine CW.go (hc.go (F.blk scope) ifs ρ3 M' v3 noX _ h5 r2 he3 exNo q3) c2 hE3 ?_
      rintro b 𝓗3 ⟨H3, M3, c3, s3, e3, w4⟩
      subst e3
      cases b with
      | false =>
        rw [if_neg (by decide)]
        exact ⟨H3, M3, acc, ts, f, c3, (s'.trans s2).trans s3, m1, m2, m3, m4, m5, by omega, by simpa using w4.2 rfl⟩
      | true =>
        rw [if_pos rfl]
        refine ((hi.ew (F.blk scope) elt ρ3 M3 v3 noX _ h6 r3 he3 exNo (w4.1 rfl)).run H3 𝓗3 σ3 c3 (hE3.mono s3)).mono ?_
        rintro y 𝓗4 ⟨H4, M4, r, c4, s4, qy, t, g, n1, n2, n3, n4, n5⟩
        have mD : M4 D = some acc := by rw [n1 D (by rw [m1]; exact fun z => nomatch z), m1]
        obtain ⟨_, _, ws, v1, v2⟩ := c4.o D acc mD
        have hDg : D ∉ g := fun z => by have := n4 D z; rw [m1] at this; cases this
        have hfr : ∀ a ∈ f, M3 a ≠ none := fun a ha => m2.dom a ha
        refine ⟨ws, v1, sz5l (by rw [v2.length]; have := hz; omega), H4, _, acc ++ [r], ts ++ [t], f ++ g, c4.wr mD (paired_append v2 (.cons qy .nil)), ((s'.trans s2).trans s3).trans s4, oset_same, ?_, ?_, fun a ha => ?_, fun a ha => ?_, by rw [List.length_append]; exact Nat.succ_le_succ m6, by simpa using n5⟩
        · have old : TrsR (oset M4 D (acc ++ [r])) ts acc f := m2.frame fun a ha => by
            rw [oset_ne (fun (z : a = D) => (List.nodup_cons.mp m3).1 (by rw [← z]; exact ha)), n1 a (hfr a ha)]
          have new : TrR (oset M4 D (acc ++ [r])) t r g := n2.frame fun a ha => oset_ne fun (z : a = D) => hDg (by rw [← z]; exact ha)
          exact snoc_tr old new
        · have m3' := List.nodup_cons.mp m3
          refine List.nodup_cons.mpr ⟨fun z => (List.mem_append.mp z).elim m3'.1 hDg, List.nodup_append.mpr ⟨m3'.2, n3, fun a ha b hb e => ?_⟩⟩
          subst e
          exact hfr a ha (n4 a hb)
        · rcases List.mem_cons.mp ha with z | z
          · subst z; exact hMD
          · rcases List.mem_append.mp z with z | z
            · exact m4 a (List.mem_cons_of_mem _ z)
            · exact m5.fresh (n4 a z)
        · have aD : a ≠ D := fun z => by rw [z] at ha; exact ha hMD
          rw [oset_ne aD, n1 a (by rw [m5 a ha]; exact ha), m5 a ha]
    · rintro 𝓗' ⟨H', M', acc, ts, f, c', s', m1, m2, m3, m4, m5, m6, m7⟩
      rw [List.drop_length] at m7
      refine kR _ _ ⟨H', M', .raw (.ref D), c', s1.trans s', rfl, ts, D :: f, m5, .own m1 m2, m3, m4, ?_⟩
      have m7 : Q (ts ++ []) := m7
      rwa [List.append_nil] at m7
  exact ⟨fun F x ρ M v X Q h1 h2 h3 h4 h5 => (main F x ρ M v X Q h1 h2 h3 h4 h5).ew, fun F elt gs s p ρ M v X Q h1 h2 h3 h4 h5 => main F _ ρ M v X Q h1 h2 h3 h4 h5⟩
/-- a new list as data at once -/
theorem s_new {n : Nw} (hn : SN P w K mg base ca n) (hp : ∀ N lv sc x, mN N lv sc n x = true → plT x = true) : SE P w K mg base ca (.new n) := .plain (fun F x ρ M v X Q h hr he hx hw => by
    rw [mE] at h
    refine EW.shr (EW.freeze ((hn.ew F x ρ M v X _ h hr he hx hw).mono fun r M' ⟨ts, f, g, q1, q2, q3, wd, q4⟩ => ?_))
    cases q1 with
    | @own p xs ts fp e hs =>
      obtain ⟨_, ex, _⟩ := hs.allD wd
      subst ex
      refine ⟨p, _, rfl, e, M, fun a ys ha => ?_, rvD q4⟩
      have hp : M p = none := q3 p List.mem_cons_self
      unfold odel
      rw [if_neg (fun z => by rw [z, hp] at ha; cases ha), g a (by rw [ha]; exact fun z => nomatch z)]
      exact ha) (fun N lv sc x h => by rw [mE] at h; exact hp N lv sc x h)
theorem plN {n : Nw} {N : List Str} {lv : Nat} {sc : Scope} {x : Expr} (h : mN N lv sc n x = true) : plT x = true := by
  cases n with
  | lst is => rw [mN] at h; unfold hN_lst at h; split at h <;> first | rfl | cases h
  | rep a b => rw [mN] at h; unfold hN_rep at h; split at h <;> first | rfl | cases h
  | cat a b => rw [mN] at h; unfold hN_cat at h; split at h <;> first | rfl | cases h
  | sl a l hh => rw [mN] at h; unfold hN_sl at h; split at h <;> first | rfl | cases h
  | cp a => rw [mN] at h; unfold hN_cp at h; split at h <;> first | rfl | cases h
  | rng a => rw [mN] at h; unfold hN_rng at h; split at h <;> first | rfl | cases h
  | comp p s o i => rw [mN] at h; unfold hN_comp at h; split at h <;> first | rfl | cases h
/-! ### all of them -/
mutual
theorem allE : ∀ e : E, SE P w K mg base ca e
  | .var i => s_var | .int i => s_int | .str i => s_str | .bl b => s_bl | .non => s_non
  | .con x d => s_con
  | .bin o a b => s_bin (allE a) (allE b) | .neg a => s_neg (allE a)
  | .cmp o a b => s_cmp (allE a) (allE b) | .le3 a b c => s_le3 (allE a) (allE b) (allE c)
  | .isN p a => s_isN (allE a) | .mem p a b => s_mem (allE a) (allE b) | .memR p a b => s_memR (allE a) (allE b)
  | .not a => s_not (allE a) | .and a b => s_and (allE a) (allE b) | .or a b => s_or (allE a) (allE b) | .ite a b c => s_ite (allE a) (allE b) (allE c)
  | .tup es => s_tup (allEs es) | .new n => s_new (allN n) fun _ _ _ _ h => plN h
  | .ix a b => s_ix (allE a) (allE b) | .slT a l h => s_slT (allE a) (allO l) (allO h)
  | .f1 f a => s_f1 (allE a) | .max2 a b => s_max2 (allE a) (allE b)
  | .cnt a b => s_cnt (allE a) (allE b) | .idx a b => s_idx (allE a) (allE b)
  | .isi a T => s_isi (allE a) | .isiC a x C => s_isiC (allE a)
  | .attr a f x C => s_attr (allE a) | .mk x C es => s_mk (allEs es)
  | .fstr es => s_fstr (allF es)
  | .call g es => s_call (allEs es)
theorem allEs : ∀ es : Es, SEs P w K mg base ca es
  | .nil => ss_nil
  | .cons e es => ss_cons (allE e) (allEs es)
theorem allF : ∀ es : Es, SF P w K mg base ca es
  | .nil => sf_nil
  | .cons e es => sf_cons (allE e) (allF es)
theorem allO : ∀ o : Op, SO P w K mg base ca o
  | .no => so_no
  | .so e => so_so (allE e)
theorem allN : ∀ n : Nw, SN P w K mg base ca n
  | .lst is => sn_lst (allIs is) | .rep a b => sn_rep (allE a) (allE b) | .cat a b => sn_cat (allE a) (allE b)
  | .sl a l h => sn_sl (allE a) (allO l) (allO h) | .cp a => sn_cp (allE a) | .rng a => sn_rng (allE a)
  | .comp p s o i => sn_comp (allR s) (allC o) (allI i)
theorem allI : ∀ i : It, SI P w K mg base ca i
  | .v e => si_v (allE e)
  | .n n => si_n (allN n)
theorem allIs : ∀ is : Is, SIs P w K mg base ca is
  | .nil => sis_nil
  | .cons i is => sis_cons (allI i) (allIs is)
theorem allR : ∀ s : Src, SR P w K mg base ca s
  | .l e => sr_l (allE e) | .r e => sr_r (allE e) | .en e => sr_en (allE e) | .zp a b => sr_zp (allE a) (allE b) | .rv e => sr_rv (allE e)
theorem allC : ∀ o : Op, SC P w K mg base ca o
  | .no => scNo
  | .so e => scSo (allE e)
end
end
end DD
/-! statements: what they ask, computed -/
namespace DD
open PySem DL
/-! a handler's suite: what it asks for the caught error's class -/
inductive HB | ins (x : Str) | bi (T : String) | inT (xs : List Str) | not (a : HB) | and (a b : HB) | ne (a b : HB) | cnt (n : Int)
inductive HS | ret (b : HB) | ifF (b : HB) (r : HS) | kinds (k : Nat) (xs : List Str) (r : HS)
def vHB (sub : Str → Bool) (xs : List Str) : HB → Bool
  | .ins x => sub x
  | .bi _ => true
  | .inT ys => ys.any sub
  | .not a => !vHB sub xs a
  | .and a b => vHB sub xs a && vHB sub xs b
  | .ne a b => vHB sub xs a != vHB sub xs b
  | .cnt n => decide ((((xs.map sub).count true : Nat) : Int) = n)
def vHS (sub : Str → Bool) (xs : List Str) : HS → Bool
  | .ret b => vHB sub xs b
  | .ifF b r => if vHB sub xs b = true then false else vHS sub xs r
  | .kinds _ ys r => vHS sub ys r
inductive Pl | v (i : Nat) | x (p : Pl) (e : E)
mutual
inductive S : Type
  | set (p : Pt) (e : E) | own (i : Nat) (n : Nw) | mov (i j : Nat) | aug (i : Nat) (e : E)
  | app (p : Pl) (i : It) | appPop (i j : Nat) (e : E) | rev (p : Pl) | clr (p : Pl) | put (p : Pl) (e : E) (i : It) | augPut (p : Pl) (e a : E)
  | expr (e : E) | ite (c : E) (a b : Ss) | for (p : Pt) (s : Src) (b : Ss) | whl (c : E) (b : Ss)
  | ret (e : E) | retN (n : Nw) | ret0 | pas | brk | ctn | rai (x : Str) (e : E) | frz (i : Nat) | tri (L : List Str) (b : Ss) (hs : List (Str × Dt)) | tas (L : List Str) (b : Ss) (i : Nat) (x : Str) (h : HS)
inductive Ss : Type | nil | cons (s : S) (ss : Ss)
end
def subT : Option Tr → List Tr
  | some (.own us) => us
  | _ => []
def getT : List Tr → List Nat → Option Tr
  | _, [] => none
  | ts, [k] => ts[k]?
  | ts, k :: l :: ks => getT (subT ts[k]?) (l :: ks)
def putT : List Tr → List Nat → Tr → List Tr
  | ts, [], _ => ts
  | ts, [k], t => ts.set k t
  | ts, k :: l :: ks, t => ts.set k (.own (putT (subT ts[k]?) (l :: ks) t))
def atO (v : Env) (pa : List Nat) (k : List Tr → Prop) : Prop := ∃ ts, getT v pa = some (.own ts) ∧ k ts
mutual
/-- all of it as data, deep -/
def valD : Tr → Dt
  | .un => .non
  | .dat d => d
  | .own ts => .lst (valDs ts)
def valDs : List Tr → List Dt
  | [] => []
  | t :: ts => valD t :: valDs ts
end
def wpPl (X : Str → Env → Prop) (v : Env) : Pl → (List Nat → Prop) → Prop
  | .v i, Q => getV v i fun _ => Q [i]
  | .x p e, Q => wpPl X v p fun pa => atO v pa fun ts => wpE X v e (asI fun k => 0 ≤ k ∧ k < ts.length ∧ Q (pa ++ [k.toNat]))
def hsQ (sub : Str → Str → Bool) (C : Str) : List (Str × Dt) → (Dt → Prop) → Prop → Prop
  | [], _, R => R
  | (x, d) :: r, Q, R => if sub C x = true then Q d else hsQ sub C r Q R
/-- the ends of a statement -/
structure Po where
  nx : Env → Prop
  rt : Tr → Env → Prop
  bk : Env → Prop
  ct : Env → Prop
mutual
def wpS (X : Str → Env → Prop) (v : Env) : S → Po → Prop
  | .set p e, P => wpE X v e (asD fun d => asg p d v P.nx)
  | .own i n, P => wpN X v n fun ts => P.nx (v.set i (.own ts))
  | .mov i j, P => atO v [j] fun ts => i ≠ j ∧ P.nx ((v.set j .un).set i (.own ts))
  | .aug i e, P => getV v i (asI fun m => wpE X v e (asI fun n => P.nx (v.set i (.dat (.int (m + n))))))
  | .app p i, P => wpPl X v p fun pa => atO v pa fun ts => ts.length ≤ 90000 ∧ wpI X v i fun t => P.nx (putT v pa (.own (ts ++ [t])))
  | .appPop i j e, P => atO v [i] fun ts => atO v [j] fun us => wpE X v e (asI fun k => 0 ≤ k ∧ us.length ≤ 90000 ∧ ts.length ≤ 90000 ∧ i ≠ j ∧ ∃ d, us[k.toNat]? = some (.dat d) ∧ P.nx ((v.set j (.own (us.eraseIdx k.toNat))).set i (.own (ts ++ [.dat d]))))
  | .rev p, P => wpPl X v p fun pa => atO v pa fun ts => P.nx (putT v pa (.own ts.reverse))
  | .clr p, P => wpPl X v p fun pa => atO v pa fun ts => P.nx (putT v pa (.own []))
  | .put p e i, P => wpI X v i fun t => wpPl X v p fun pa => wpE X v e (asI fun k => atO v pa fun ts => 0 ≤ k ∧ k < ts.length ∧ P.nx (putT v pa (.own (ts.set k.toNat t))))
  | .augPut p e a, P => wpPl X v p fun pa => wpE X v e (asI fun k => atO v pa fun ts => 0 ≤ k ∧ ∃ m, ts[k.toNat]? = some (.dat (.int m)) ∧ wpE X v a (asI fun n => P.nx (putT v pa (.own (ts.set k.toNat (.dat (.int (m + n))))))))
  | .expr e, P => wpE X v e fun _ => P.nx v
  | .ite c a b, P => wpE X v c (asB fun k => (k = true → wpSs X v a P) ∧ (k = false → wpSs X v b P))
  | .for p s b, P => wpSr X v s fun ds => ∃ I : Nat → Env → Prop, I 0 v ∧ (∀ k d u, ds[k]? = some d → I k u → asg p d u fun u' => wpSs X u' b { nx := I (k + 1), ct := I (k + 1), bk := P.nx, rt := P.rt }) ∧ ∀ u, I ds.length u → P.nx u
  | .whl c b, P => ∃ (W : Nat → Env → Prop) (m0 : Nat), W m0 v ∧ ∀ m u, W m u → wpE X u c (asB fun k => (k = true → wpSs X u b { nx := fun u' => ∃ m', m' < m ∧ W m' u', ct := fun u' => ∃ m', m' < m ∧ W m' u', bk := P.nx, rt := P.rt }) ∧ (k = false → P.nx u))
  | .ret e, P => wpE X v e (asD fun d => P.rt (.dat d) v)
  | .retN n, P => wpN X v n fun ts => P.rt (.own ts) v
  | .ret0, P => P.rt (.dat .non) v
  | .pas, P => P.nx v
  | .brk, P => P.bk v
  | .ctn, P => P.ct v
  | .rai x e, _ => wpE X v e fun _ => X x v
  | .tri L b hs, P => wpSs (fun C u => C ∈ L ∧ hsQ subE C hs (fun d => P.rt (.dat d) u) (X C u)) v b P
  | .tas L b i x h, P => wpSs (fun C u => C ∈ L ∧ (subE C x = true → P.rt (.dat (.bl (vHS (subE C) [] h))) u) ∧ (subE C x = false → X C u)) v b P
  | .frz i, P => atO v [i] fun ts => P.nx (v.set i (.dat (.lst (valDs ts))))
def wpSs (X : Str → Env → Prop) (v : Env) : Ss → Po → Prop
  | .nil, P => P.nx v
  | .cons s ss, P => wpS X v s { P with nx := fun u => wpSs X u ss P }
end
end DD
/-! what a handler's suite asks: a caught error's class, how often True stands in a list -/
namespace DD
open PySem PySem.Spec PyProof.Rows L2 DL
def rCntB (K : PySem.W.Frag) : V → List V → Hp → VK → Prop := fun x xs H Q => ∃ (p : Addr) (bs : List Bool) (k : Bool), x = .ref p ∧ xs = [.bl k] ∧ SqL K H p (bs.map V.bl) ∧ Q (.int (bs.count k : Nat)) H
theorem vals_bl : ∀ {bs : List Bool} {us : List Value}, Vals (bs.map V.bl) us → us = bs.map Value.bool
  | [], us, h => by cases h; rfl
  | b :: bs, us, h => by
    cases h with
    | cons r t =>
      have r : _ = Value.bool b := r
      rw [r, vals_bl t]; rfl
theorem reads_bl (h : Heap) : ∀ bs : List Bool, ReadsAll h (bs.map Value.bool) (bs.map PyData.bool) []
  | [] => .nil
  | b :: bs => .cons (as := []) (.bool b) (reads_bl h bs)
theorem countIn_bl (k : Bool) : ∀ bs : List Bool, (countIn (PyData.bool k) (bs.map PyData.bool) : Int) = (bs.count k : Nat)
  | [] => rfl
  | b :: bs => by
    rw [List.map_cons, List.count_cons]
    show (if same (PyData.bool b) (PyData.bool k) = true then (1 : Int) else 0) + countIn (PyData.bool k) (bs.map PyData.bool) = _
    rw [countIn_bl k bs]
    have : same (PyData.bool b) (PyData.bool k) = (b == k) := by cases b <;> cases k <;> rfl
    rw [this]
    split <;> simp_all <;> omega
theorem mt_lcountB {X : Cx} : MtR X "list.count" (rCntB X.K) := fun pins s σ H x xs v us Q I r1 r2 ⟨p, bs, k, e1, e2, hs, q⟩ => by
  subst e1 e2
  have r1 : v = Value.ref p := r1
  subst r1
  cases r2 with
  | cons ra rb =>
    cases rb
    have ra : _ = Value.bool k := ra
    subst ra
    obtain ⟨its, h1, h2, h3⟩ := I.list hs
    have h1 := vals_bl h1
    subst h1
    obtain ⟨o, n, g1, g2, g3, g4⟩ := h2
    refine count_list_bools (hp := s.heap) ⟨o, g1, g2, n, g4⟩ (reads_bl _ bs) (by simp [Shape.has]) ?_
    exact ⟨.int (bs.count k : Nat), H, I.tok _, ⟨s.toks, by rw [countIn_bl]⟩, q⟩
def rIsET (K : PySem.W.Frag) (D a : Addr) : List V → Hp → VK → Prop := fun xs H Q => ∃ (tp : Addr) (cs : List V) (us : List Value) (b : Bool), xs = [.ref a, .ref tp] ∧ H tp = some (.tup cs) ∧ Paired ClsV cs us ∧ PySem.W.kitAny K (.ref D) us = some b ∧ Q (.bl b) H
theorem cls_det : ∀ {cs : List V} {us its : List Value}, Paired ClsV cs us → Vals cs its → its = us
  | _, _, _, .nil, h => by cases h; rfl
  | _, _, _, .cons a b, h => by
    cases h with
    | cons r t =>
      rw [cls_det b t]
      cases a with
      | ty n => rw [show _ = Value.type n from r]
      | own C => rw [show _ = Value.ref C from r]
theorem call_isET {X : Cx} {a D : Addr} {oe : Obj} {pn : List (Addr × Obj)} (C : ExcC X.K D) (hi : (PySem.W.clsIn X.K D).isSome = true) (hz : Zc (.ref D) none oe) (hf : ∃ vs, oe.data = .fields vs) : CallR (X.suite a ((a, oe) :: pn)) (.builtin "isinstance") (rIsET X.K D a) := fun pins s σ H xs us Q I hv ⟨tp, cs, us', b, e, hp, hc, hk, q⟩ => by
  subst e
  cases hv with
  | cons r1 r2 =>
    cases r2 with
    | cons r2 r3 =>
      cases r3
      have r1 : _ = Value.ref a := r1
      have r2 : _ = Value.ref tp := r2
      subst r1 r2
      obtain ⟨its, h1, ⟨o, g1, g2, n, g3⟩, h3⟩ := I.tuple (.inl (.inl hp))
      have h1 := cls_det hc h1
      subst h1
      obtain ⟨pa, _⟩ := I.pin (a, oe) (List.mem_append_left _ List.mem_cons_self)
      obtain ⟨vs, hf⟩ := hf
      refine PySem.W.kia_tup (K := X.K) (dd := o.dict) (sl := o.slots) (n := n) (PySem.W.kitx_exc (ox := oe) (od := none) hi C.hg C.hk C.hs C.ha C.hn C.ht C.hm) I.kIn ⟨pa, hz.1, ?_, ?_⟩ ?_ hk (fun z => by cases z) fun tk => ?_
      · unfold PySem.W.notCls; rw [hf]
      · rw [hz.2]; trivial
      · rw [g1, ← g2, ← g3]
      · exact ⟨.bl b, H, I.tok _, rfl, q⟩
end DD
/-! a handler's suite that asks for the caught error's class and returns a truth -/
namespace DD
open PySem PySem.Spec PyProof.Rows L2 DL
def kNms (sc : Scope) : List Str → List Expr → Bool
  | [], [] => true
  | x :: xs, .Name h _ :: es => decide (h = x) && isGl sc h && nmB h && kNms sc xs es
  | _, _ => false
def kIns (sc : Scope) (n : Str) : Str → Expr → Bool
  | x, .Call (.Name g _) [.Name y _, .Name h _] [] _ => decide (g = "isinstance") && isGl sc g && decide (y = n) && nmB y && decide (h = x) && isGl sc h && nmB h
  | _, _ => false
def kInss (sc : Scope) (n : Str) : List Str → List Expr → Bool
  | [], [] => true
  | x :: xs, e :: es => kIns sc n x e && kInss sc n xs es
  | _, _ => false
def kBi (sc : Scope) (n : Str) (T : String) : Expr → Bool
  | .Call (.Name g _) [.Name y _, .Name h _] [] _ => decide (g = "isinstance") && isGl sc g && decide (y = n) && nmB y && decide (h = Str.ofString T) && isGl sc h && nmB h && decide (bootBuiltins h = some (.type T)) && decide (T = "ValueError")
  | _ => false
def kInT (sc : Scope) (n : Str) (xs : List Str) : Expr → Bool
  | .Call (.Name g _) [.Name y _, .Tuple es _ _] [] _ => decide (g = "isinstance") && isGl sc g && decide (y = n) && nmB y && decide (es.length ≤ 100) && kNms sc xs es
  | _ => false
def kNotB (k : Expr → Bool) : Expr → Bool
  | .UnaryOp .Not x _ => k x
  | _ => false
def kAndB (k l : Expr → Bool) : Expr → Bool
  | .BoolOp .And [x, y] _ => k x && l y
  | .BoolOp .And (x :: y :: z :: r) p => k x && l (.BoolOp .And (y :: z :: r) p)
  | _ => false
def kNeB (k l : Expr → Bool) : Expr → Bool
  | .Compare x [.NotEq] [y] _ => k x && l y
  | _ => false
def kCntB (N : List Str) (sc : Scope) (kk : Option Nat) (m : Int) : Expr → Bool
  | .Compare (.Call (.Attribute (.Name z _) f p) [.Constant (.bool t) _ _] [] q) [.Eq] [.Constant (.int l) _ _] _ => decide (f = "count") && (p.endLine == q.line) && t && decide (l = m) && nmB z && (sc.names.lookup z == some .local) && (match kk with | some k => decide (N[k]? = some z) | none => false)
  | _ => false
def kHB (N : List Str) (sc : Scope) (n : Str) (kk : Option Nat) : HB → Expr → Bool
  | .ins x, e => kIns sc n x e
  | .bi T, e => kBi sc n T e
  | .inT xs, e => kInT sc n xs e
  | .not a, e => kNotB (fun y => kHB N sc n kk a y) e
  | .and a b, e => kAndB (fun y => kHB N sc n kk a y) (fun y => kHB N sc n kk b y) e
  | .ne a b, e => kNeB (fun y => kHB N sc n kk a y) (fun y => kHB N sc n kk b y) e
  | .cnt m, e => kCntB N sc kk m e
def kHS (N : List Str) (sc : Scope) (i : Nat) (n : Str) : Option Nat → HS → List Stmt → Bool
  | kk, .ret b, [.Return (some e) _] => kHB N sc n kk b e
  | kk, .ifF b r, .If c [.Return (some (.Constant (.bool t) _ _)) _] [] _ :: rest => kHB N sc n kk b c && !t && (match b with | .inT _ => true | .ins _ => true | _ => false) && kHS N sc i n kk r rest
  | _, .kinds k xs r, .Assign [.Name z _] (.List es _) _ :: rest => decide (N[k]? = some z) && isLoc sc z && (sc.names.lookup z == some .local) && decide (k ≠ i) && decide (es.length ≤ 100) && kInss sc n xs es && kHS N sc i n (some k) r rest
  | _, _, _ => false
/-- only new things -/
inductive Hnew (H : Hp) : Hp → Prop
  | refl : Hnew H H
  | step {H1 : Hp} {p : Addr} {o : HO} : Hnew H H1 → H1 p = none → Hnew H (upd H1 p o)
theorem Hnew.trans {H H1 H2 : Hp} (a : Hnew H H1) (b : Hnew H1 H2) : Hnew H H2 := by
  induction b with
  | refl => exact a
  | step _ h ih => exact .step ih h
theorem Hnew.get {H H1 : Hp} (a : Hnew H H1) {p : Addr} {o : HO} (h : H p = some o) : H1 p = some o := by
  induction a with
  | refl => exact h
  | @step H1 q o' _ h2 ih =>
    rw [upd_ne]
    · exact ih
    · intro e; subst e; rw [ih] at h2; cases h2
theorem cxt_nw {K : PySem.W.Frag} {B0 H0 H 𝓗 𝓗' : Hp} {M : OH} (c : Cxt K B0 H0 M H 𝓗) (n : Hnew 𝓗 𝓗') : ∃ H', Cxt K B0 H0 M H' 𝓗' ∧ Same H H' := by
  induction n with
  | refl => exact ⟨H, c, Same.refl H⟩
  | step _ h ih =>
    obtain ⟨H', c', s'⟩ := ih
    obtain ⟨c2, s2⟩ := c'.newF (o := _) h
    exact ⟨_, c2, s'.trans s2⟩
section
variable {P : Program} {w : World} {K : PySem.W.Frag} {mg : Str → Option Value} {base : Heap} {N : List Str} {sc : Scope} {F : Fm P w K mg base N sc} {ca : Str → Addr}
def tHB (i : Nat) (a : Addr) (kk : Option Nat) (bs : List Bool) (b : Bool) : TE := fun σ H Q => σ[i]? = some (some (.ref a)) ∧ (∀ k, kk = some k → ∃ p, σ[k]? = some (some (.ref p)) ∧ H p = some (.lst (bs.map .bl))) ∧ ∀ H', Hnew H H' → Q (.bl b) H'
theorem pe_imp {X : Cx} {e : Expr} {t t' : TE} (h : PE X e t) (m : ∀ σ H Q, t' σ H Q → t σ H Q) : PE X e t' := ⟨fun pins s σ H Q I q => h.run pins s σ H Q I (m σ H Q q)⟩
variable {j : F.ι} {a : Addr} {oe : Obj} {pn : List (Addr × Obj)} {C : Str} {i : Nat} {n : Str} {kk : Option Nat} {bs : List Bool}
theorem hb_ins (hi : N[i]? = some n) (hl : sc.names.lookup n = some .local) (he : Ec K (ca C)) (hz : Zc (.ref (ca C)) none oe) (hf : ∃ vs, oe.data = .fields vs) (mi : mg "isinstance" = none) {x : Str} {e : Expr} (hx : OwnE K mg x (ca x)) (hk : PySem.W.kitOne K (.ref (ca C)) (.ref (ca x)) = some (subE C x)) (h : kIns sc n x e = true) : PE ((F.X j).suite a ((a, oe) :: pn)) e (tHB i a kk bs (subE C x)) := by
  unfold kIns at h
  split at h
  rotate_left
  · cases h
  simp only [Bool.and_eq_true, decide_eq_true_eq] at h
  obtain ⟨⟨⟨⟨⟨⟨rfl, h2⟩, rfl⟩, h4⟩, h5⟩, h6⟩, h7⟩ := h
  replace h5 := h5.symm
  subst h5
  have hc := call_isE (X := F.X j) (a := a) (oe := oe) (pn := pn) (D := ca C) (by rw [F.eK j]; exact he.e) hz hf
  refine pe_imp (pe_callB (X := (F.X j).suite a ((a, oe) :: pn)) hc (gl_of h2 j) (show (F.X j).mg _ = none by rw [F.eg j]; exact mi) (by decide +kernel) (pa_cons (pe_var (i := i) (show (F.X j).N[i]? = _ by rw [F.eN j]; exact hi) (show Vis (F.X j).env.scope _ by rw [F.es j]; exact .inl hl) (nm_of h4).1 (nm_of h4).2.1) (pa_cons (pe_glob (v := .ref (ca x)) (u := .ref (ca x)) (gl_of h6 j) (show (F.X j).mg _ = _ by rw [F.eg j]; exact hx.here) rfl (nm_of h7).1) pa_nil))) fun σ H Q ⟨q1, q2, q3⟩ => ?_
  refine ⟨.ref a, q1, .ref (ca x), .ref (ca x), subE C x, rfl, fun u r => r, ?_, q3 _ .refl⟩
  rw [F.eK j]; exact hk
theorem pa_imp {X : Cx} {es : List Expr} {t t' : TA} (h : PA X es t) (m : ∀ σ H Q, t' σ H Q → t σ H Q) : PA X es t' := ⟨fun pos pins s σ H Q I q => h.run pos pins s σ H Q I (m σ H Q q)⟩
theorem kit_any {D : Addr} {C : Str} : ∀ {xs : List Str}, (∀ x ∈ xs, PySem.W.kitOne K (.ref D) (.ref (ca x)) = some (subE C x)) → PySem.W.kitAny K (.ref D) (xs.map fun x => .ref (ca x)) = some (xs.any (subE C))
  | [], _ => rfl
  | x :: xs, h => by
    have h1 := h x List.mem_cons_self
    have h2 := kit_any (xs := xs) fun y hy => h y (List.mem_cons_of_mem _ hy)
    rw [List.map_cons, List.any_cons]
    simp only [PySem.W.kitAny, h1]
    cases subE C x
    · rw [h2]; rfl
    · rfl
theorem pa_nms : ∀ {xs : List Str} {es : List Expr}, kNms sc xs es = true → (∀ x ∈ xs, OwnE K mg x (ca x)) → PA ((F.X j).suite a ((a, oe) :: pn)) es (fun _ H Q => Q (xs.map fun x => .ref (ca x)) H)
  | [], [], _, _ => pa_nil
  | [], _ :: _, h, _ => by cases h
  | x :: xs, [], h, _ => by cases h
  | x :: xs, e :: es, h, ho => by
    unfold kNms at h
    split at h
    · rename_i e1; cases e1
    · rename_i e1 e2
      cases e1
      cases e2
      simp only [Bool.and_eq_true, decide_eq_true_eq] at h
      obtain ⟨⟨⟨h1, h2⟩, h3⟩, h4⟩ := h
      replace h1 := h1.symm
      subst h1
      exact pa_imp (pa_cons (pe_glob (v := .ref (ca x)) (u := .ref (ca x)) (gl_of h2 j) (show (F.X j).mg _ = _ by rw [F.eg j]; exact (ho _ List.mem_cons_self).here) rfl (nm_of h3).1) (pa_nms h4 fun y hy => ho y (List.mem_cons_of_mem _ hy))) fun σ H Q q => q
    · cases h
theorem own_cls : ∀ xs : List Str, Paired ClsV (xs.map fun x => V.ref (ca x)) (xs.map fun x => Value.ref (ca x))
  | [] => .nil
  | x :: xs => .cons (.own _) (own_cls xs)
/-- what a suite wants of the top -/
def qHB (K : PySem.W.Frag) (mg : Str → Option Value) (ca : Str → Addr) (C : Str) : HB → Prop
  | .ins x => OwnE K mg x (ca x) ∧ PySem.W.kitOne K (.ref (ca C)) (.ref (ca x)) = some (subE C x)
  | .bi _ => mg "ValueError" = none
  | .inT xs => ∀ x ∈ xs, OwnE K mg x (ca x) ∧ PySem.W.kitOne K (.ref (ca C)) (.ref (ca x)) = some (subE C x)
  | .not a => qHB K mg ca C a
  | .and a b => qHB K mg ca C a ∧ qHB K mg ca C b
  | .ne a b => qHB K mg ca C a ∧ qHB K mg ca C b
  | .cnt _ => True
def qHS (K : PySem.W.Frag) (mg : Str → Option Value) (ca : Str → Addr) (C : Str) : HS → Prop
  | .ret b => qHB K mg ca C b
  | .ifF b r => qHB K mg ca C b ∧ qHS K mg ca C r
  | .kinds _ xs r => (∀ x ∈ xs, OwnE K mg x (ca x) ∧ PySem.W.kitOne K (.ref (ca C)) (.ref (ca x)) = some (subE C x)) ∧ qHS K mg ca C r
theorem hb_ok (hi : N[i]? = some n) (hl : sc.names.lookup n = some .local) (he : Ec K (ca C)) (hz : Zc (.ref (ca C)) none oe) (hf : ∃ vs, oe.data = .fields vs) (mi : mg "isinstance" = none) {ys : List Str} : ∀ {b : HB} {e : Expr}, qHB K mg ca C b → kHB N sc n kk b e = true → PE ((F.X j).suite a ((a, oe) :: pn)) e (tHB i a kk (ys.map (subE C)) (vHB (subE C) ys b))
  | .ins x, e, q, h => by
    unfold kHB at h
    exact hb_ins hi hl he hz hf mi q.1 q.2 h
  | .bi T, e, q, h => by
    unfold kHB kBi at h
    split at h
    rotate_left
    · cases h
    simp only [Bool.and_eq_true, decide_eq_true_eq] at h
    obtain ⟨⟨⟨⟨⟨⟨⟨⟨rfl, h2⟩, rfl⟩, h4⟩, rfl⟩, h6⟩, h7⟩, h8⟩, rfl⟩ := h
    have hc := call_isE (X := F.X j) (a := a) (oe := oe) (pn := pn) (D := ca C) (by rw [F.eK j]; exact he.e) hz hf
    refine pe_imp (pe_callB (X := (F.X j).suite a ((a, oe) :: pn)) hc (gl_of h2 j) (show (F.X j).mg _ = none by rw [F.eg j]; exact mi) (by decide +kernel) (pa_cons (pe_var (i := i) (show (F.X j).N[i]? = _ by rw [F.eN j]; exact hi) (show Vis (F.X j).env.scope _ by rw [F.es j]; exact .inl hl) (nm_of h4).1 (nm_of h4).2.1) (pa_cons (pe_bltn (v := .ty "ValueError") (gl_of h6 j) (show (F.X j).mg _ = _ by rw [F.eg j]; exact q) h8 rfl (nm_of h7).2.2 (nm_of h7).1) pa_nil))) fun σ H Q ⟨q1, q2, q3⟩ => ?_
    refine ⟨.ref a, q1, .ty "ValueError", .type "ValueError", true, rfl, fun u r => r, ?_, q3 _ .refl⟩
    rw [F.eK j]; exact he.v
  | .inT xs, e, q, h => by
    unfold kHB kInT at h
    split at h
    rotate_left
    · cases h
    simp only [Bool.and_eq_true, decide_eq_true_eq] at h
    obtain ⟨⟨⟨⟨⟨rfl, h2⟩, rfl⟩, h4⟩, h5⟩, h6⟩ := h
    have hc := call_isET (X := F.X j) (a := a) (oe := oe) (pn := pn) (D := ca C) (by rw [F.eK j]; exact he.e) (by rw [F.eK j]; exact he.i) hz hf
    refine pe_imp (pe_callB (X := (F.X j).suite a ((a, oe) :: pn)) hc (gl_of h2 j) (show (F.X j).mg _ = none by rw [F.eg j]; exact mi) (by decide +kernel) (pa_cons (pe_var (i := i) (show (F.X j).N[i]? = _ by rw [F.eN j]; exact hi) (show Vis (F.X j).env.scope _ by rw [F.es j]; exact .inl hl) (nm_of h4).1 (nm_of h4).2.1) (pa_cons (pe_tup (pa_nms h6 fun x hx => (q x hx).1)) pa_nil))) fun σ H Q ⟨q1, q2, q3⟩ => ?_
    refine ⟨.ref a, q1, ?_, fun p hp => ?_⟩
    · have hlen : ∀ {xs : List Str} {es : List Expr}, kNms sc xs es = true → xs.length = es.length := by
        intro xs
        induction xs with
        | nil => intro es h; cases es with
          | nil => rfl
          | cons _ _ => cases h
        | cons x xs ih => intro es h; cases es with
          | nil => cases h
          | cons e es =>
            unfold kNms at h
            split at h
            · rename_i e1; cases e1
            · rename_i e1 e2
              cases e1
              cases e2
              simp only [Bool.and_eq_true] at h
              rw [List.length_cons, List.length_cons, ih h.2]
            · cases h
      rw [List.length_map, hlen h6]
      exact Nat.le_trans h5 (by decide)
    · exact ⟨p, _, _, xs.any (subE C), rfl, upd_same, own_cls xs, by rw [F.eK j]; exact kit_any fun x hx => (q x hx).2, q3 _ (.step .refl hp)⟩
  | .not b, e, q, h => by
    unfold kHB kNotB at h
    split at h
    rotate_left
    · cases h
    refine pe_imp (pe_not (hb_ok (ys := ys) hi hl he hz hf mi (show qHB K mg ca C b from q) h)) fun σ H Q ⟨q1, q2, q3⟩ => ?_
    exact ⟨q1, q2, fun H1 n1 => ⟨_, rfl, q3 _ n1⟩⟩
  | .and b c, e, q, h => by
    unfold kHB kAndB at h
    have fin : ∀ {x : Expr} {r : List Expr} {p : Pos}, PE ((F.X j).suite a ((a, oe) :: pn)) x (tHB i a kk (ys.map (subE C)) (vHB (subE C) ys b)) → PE ((F.X j).suite a ((a, oe) :: pn)) (.BoolOp .And r p) (tHB i a kk (ys.map (subE C)) (vHB (subE C) ys c)) → 0 < r.length → PE ((F.X j).suite a ((a, oe) :: pn)) (.BoolOp .And (x :: r) p) (tHB i a kk (ys.map (subE C)) (vHB (subE C) ys (.and b c))) := fun {x r p} hb hc hr => by
      cases r with
      | nil => cases hr
      | cons y r =>
        refine pe_imp (pe_and hb hc) fun σ H Q ⟨q1, q2, q3⟩ => ?_
        refine ⟨q1, q2, fun H1 n1 => ⟨_, rfl, ?_⟩⟩
        have q3 : ∀ H', Hnew H H' → Q (.bl (vHB (subE C) ys b && vHB (subE C) ys c)) H' := q3
        generalize vHB (subE C) ys b = x at *
        cases x
        · rw [if_neg (by decide)]; exact q3 _ n1
        · rw [if_pos rfl]
          refine ⟨q1, fun k hk => ?_, fun H2 n2 => q3 _ (n1.trans n2)⟩
          obtain ⟨p, p1, p2⟩ := q2 k hk
          exact ⟨p, p1, n1.get p2⟩
    split at h
    · rw [Bool.and_eq_true] at h
      exact fin (hb_ok (ys := ys) hi hl he hz hf mi q.1 h.1) (pe_one (hb_ok (ys := ys) hi hl he hz hf mi q.2 h.2)) (by simp)
    · rw [Bool.and_eq_true] at h
      exact fin (hb_ok (ys := ys) hi hl he hz hf mi q.1 h.1) (hb_ok (ys := ys) hi hl he hz hf mi q.2 h.2) (by simp)
    · cases h
  | .ne b c, e, q, h => by
    unfold kHB kNeB at h
    split at h
    rotate_left
    · cases h
    simp only [Bool.and_eq_true] at h
    obtain ⟨h1, h2⟩ := h
    refine pe_imp (pe_cmpR op_ne (hb_ok (ys := ys) hi hl he hz hf mi q.1 h1) (hb_ok (ys := ys) hi hl he hz hf mi q.2 h2) (by unfold behindInMarks; split <;> first | rfl | (rw [show (CmpOp.NotEq == CmpOp.In) = false from rfl, show (CmpOp.NotEq == CmpOp.NotIn) = false from rfl]; simp))) fun σ H Q ⟨q1, q2, q3⟩ => ?_
    refine ⟨q1, q2, fun H1 n1 => ⟨q1, fun k hk => ?_, fun H2 n2 => ⟨rfl, ?_⟩⟩⟩
    · obtain ⟨p, p1, p2⟩ := q2 k hk
      exact ⟨p, p1, n1.get p2⟩
    · have q3 : ∀ H', Hnew H H' → Q (.bl (vHB (subE C) ys b != vHB (subE C) ys c)) H' := q3
      have := q3 _ (n1.trans n2)
      generalize vHB (subE C) ys b = x at *
      generalize vHB (subE C) ys c = y at *
      cases x <;> cases y <;> exact this
  | .cnt m, e, q, h => by
    unfold kHB kCntB at h
    split at h
    rotate_left
    · cases h
    simp only [Bool.and_eq_true, decide_eq_true_eq] at h
    obtain ⟨⟨⟨⟨⟨⟨rfl, h2⟩, rfl⟩, h4⟩, h5⟩, h6⟩, h7⟩ := h
    replace h4 := h4.symm
    subst h4
    split at h7
    rotate_left
    · cases h7
    rename_i k
    have h7 := of_decide_eq_true h7
    have h6 := eq_of_beq h6
    have hm := mt_lcountB (X := (F.X j).suite a ((a, oe) :: pn))
    refine pe_imp (pe_cmpR op_eq (pe_bm (by exact PySem.F.plainAttrs_list) PySem.F.slot_list_count PySem.F.type_list_count hm (pe_var (i := k) (show (F.X j).N[k]? = _ by rw [F.eN j]; exact h7) (show Vis (F.X j).env.scope _ by rw [F.es j]; exact .inl h6) (nm_of h5).1 (nm_of h5).2.1) (pa_cons pe_bl pa_nil) rfl rfl h2) pe_int (by rfl)) fun σ H Q ⟨q1, q2, q3⟩ => ?_
    obtain ⟨p, p1, p2⟩ := q2 k rfl
    refine ⟨.ref p, p1, .inl ⟨rfl, _, .inl (.inl p2)⟩, p, _, true, rfl, rfl, .inl (.inl p2), rfl, ?_⟩
    have := q3 H .refl
    show Q (.bl (decide _)) H
    have e : vHB (subE C) ys (.cnt m) = decide (V.int (((ys.map (subE C)).count true : Nat) : Int) = V.int m) := by
      show decide _ = decide _
      exact decide_eq_decide.mpr ⟨fun z => by rw [z], fun z => by injection z⟩
    rw [e] at this
    exact this
theorem pa_inss (hi : N[i]? = some n) (hl : sc.names.lookup n = some .local) (he : Ec K (ca C)) (hz : Zc (.ref (ca C)) none oe) (hf : ∃ vs, oe.data = .fields vs) (mi : mg "isinstance" = none) : ∀ {xs : List Str} {es : List Expr}, kInss sc n xs es = true → (∀ x ∈ xs, OwnE K mg x (ca x) ∧ PySem.W.kitOne K (.ref (ca C)) (.ref (ca x)) = some (subE C x)) → PA ((F.X j).suite a ((a, oe) :: pn)) es (fun σ H Q => σ[i]? = some (some (.ref a)) ∧ ∀ H', Hnew H H' → Q ((xs.map (subE C)).map V.bl) H')
  | [], [], _, _ => pa_imp pa_nil fun σ H Q q => q.2 H .refl
  | [], _ :: _, h, _ => by cases h
  | x :: xs, [], h, _ => by cases h
  | x :: xs, e :: es, h, ho => by
    unfold kInss at h
    rw [Bool.and_eq_true] at h
    have hn : ∀ {y : Expr}, kIns sc n x y = true → NS F y es := fun {y} hy => by
      unfold kIns at hy
      split at hy
      · exact ns_of rfl
      · cases hy
    refine pa_imp (pa_cons (hb_ins (kk := none) (bs := []) hi hl he hz hf mi (ho x List.mem_cons_self).1 (ho x List.mem_cons_self).2 h.1) (pa_inss hi hl he hz hf mi h.2 fun y hy => ho y (List.mem_cons_of_mem _ hy)) (hn h.1 j)) fun σ H Q ⟨q1, q2⟩ => ?_
    exact ⟨q1, (fun k z => nomatch z), fun H1 n1 => ⟨q1, fun H2 n2 => q2 _ (n1.trans n2)⟩⟩
theorem inss_len {n : Str} : ∀ {xs : List Str} {es : List Expr}, kInss sc n xs es = true → xs.length = es.length
  | [], [], _ => rfl
  | [], _ :: _, h => by cases h
  | x :: xs, [], h => by cases h
  | x :: xs, e :: es, h => by
    unfold kInss at h
    rw [Bool.and_eq_true] at h
    rw [List.length_cons, List.length_cons, inss_len h.2]
def tHS (i : Nat) (a : Addr) (kk : Option Nat) (bs : List Bool) (b : Bool) : TS := fun D σ H => σ[i]? = some (some (.ref a)) ∧ (∀ k, kk = some k → ∃ p, σ[k]? = some (some (.ref p)) ∧ H p = some (.lst (bs.map .bl))) ∧ ∀ H', Hnew H H' → D.rt (.bl b) H'
theorem pss_imp {X : Cx} {l : List Stmt} {t t' : TS} (h : PSs X l t) (m : ∀ D σ H, σ.length = X.N.length → t' D σ H → t D σ H) : PSs X l t' := ⟨fun pins s σ H D I q => h.run pins s σ H D I (m D σ H I.len q)⟩
theorem hs_ok (hi : N[i]? = some n) (hl : sc.names.lookup n = some .local) (he : Ec K (ca C)) (hz : Zc (.ref (ca C)) none oe) (hf : ∃ vs, oe.data = .fields vs) (mi : mg "isinstance" = none) : ∀ {r : HS} {kk : Option Nat} {ys : List Str} {l : List Stmt}, qHS K mg ca C r → kHS N sc i n kk r l = true → PSs ((F.X j).suite a ((a, oe) :: pn)) l (tHS i a kk (ys.map (subE C)) (vHS (subE C) ys r))
  | .ret b, kk, ys, l, q, h => by
    unfold kHS at h
    split at h <;> try (first | (rename_i e1 e2; cases e1; done) | (rename_i e1; cases e1; done))
    · rename_i e1
      cases e1
      refine pss_imp (pss_one (ps_ret (hb_ok (ys := ys) hi hl he hz hf mi (show qHB K mg ca C b from q) h))) fun D σ H _ ⟨q1, q2, q3⟩ => ⟨q1, q2, q3⟩
    · cases h
  | .ifF b r, kk, ys, l, q, h => by
    unfold kHS at h
    split at h <;> try (first | (rename_i e1 e2; cases e1; done) | (rename_i e1; cases e1; done))
    · rename_i e1
      cases e1
      simp only [Bool.and_eq_true, Bool.not_eq_true'] at h
      obtain ⟨⟨⟨h1, rfl⟩, h3⟩, h4⟩ := h
      have hp : ∀ {kk : Option Nat} {e : Expr}, kHB N sc n kk b e = true → plT e = true := fun {kk e} z => by
        cases b <;> first | cases h3 | skip
        · unfold kHB kIns at z; split at z <;> first | rfl | cases z
        · unfold kHB kInT at z; split at z <;> first | rfl | cases z
      refine pss_imp (pss_cons (ps_if (pt_val (hb_ok (ys := ys) hi hl he hz hf mi q.1 h1) (plT_of (hp h1) j)) (pss_one (ps_ret pe_bl)) pss_nil) (hs_ok (ys := ys) hi hl he hz hf mi q.2 h4)) fun D σ H _ ⟨q1, q2, q3⟩ => ?_
      refine ⟨q1, q2, fun H1 n1 => ⟨_, rfl, ?_⟩⟩
      have q3 : ∀ H', Hnew H H' → D.rt (.bl (if vHB (subE C) ys b = true then false else vHS (subE C) ys r)) H' := q3
      show if vHB (subE C) ys b = true then _ else _
      by_cases z : vHB (subE C) ys b = true
      · rw [if_pos z] at q3 ⊢
        exact q3 _ n1
      · rw [if_neg z] at q3 ⊢
        refine ⟨q1, fun k hk => ?_, fun H2 n2 => q3 _ (n1.trans n2)⟩
        obtain ⟨p, p1, p2⟩ := q2 k hk
        exact ⟨p, p1, n1.get p2⟩
    · cases h
  | .kinds k xs r, kk, ys, l, q, h => by
    unfold kHS at h
    split at h <;> try (first | (rename_i e1 e2; cases e1; done) | (rename_i e1; cases e1; done))
    · rename_i e1
      cases e1
      simp only [Bool.and_eq_true, decide_eq_true_eq] at h
      obtain ⟨⟨⟨⟨⟨⟨h1, h2⟩, h3⟩, h4⟩, h5⟩, h6⟩, h7⟩ := h
      have h3 := eq_of_beq h3
      refine pss_imp (pss_cons (ps_asg (pe_lst (pa_inss hi hl he hz hf mi h6 q.1)) (pg_name (i := k) (by rw [F.eN j]; exact F.nd) (show (F.X j).N[k]? = _ by rw [F.eN j]; exact h1) (show Loc (F.X j).env.scope _ by rw [F.es j]; exact .inl h3) (.inr (show (F.X j).env.scope.names.lookup _ = _ by rw [F.es j]; exact h3))) rfl rfl rfl) (hs_ok (ys := xs) hi hl he hz hf mi q.2 h7)) fun D σ H hlen ⟨q1, q2, q3⟩ => ?_
      refine ⟨q1, fun H1 n1 => ⟨?_, fun p hp => ?_⟩⟩
      · rw [List.length_map, List.length_map, inss_len h6]
        exact Nat.le_trans h5 (by decide)
      · refine ⟨by rw [List.getElem?_set_ne h4]; exact q1, fun k' hk' => ?_, fun H2 n2 => q3 _ ((n1.step hp).trans n2)⟩
        cases hk'
        refine ⟨p, ?_, upd_same⟩
        rw [List.getElem?_set_self]
        rw [hlen]
        show k < (F.X j).N.length
        rw [F.eN j]
        exact (List.getElem?_eq_some_iff.mp h1).1
    · cases h
end
end DD
namespace DD
open PySem PySem.Spec PyProof.Rows L2 DL
/-! ### the text's statements against ours -/
def nlc : Expr → Bool
  | .ListComp _ _ _ _ => false
  | .SetComp _ _ _ _ => false
  | .DictComp _ _ _ _ _ => false
  | _ => true
def ntd : Expr → Bool
  | .Tuple _ _ _ => false
  | _ => true
def isLC : Expr → Bool
  | .ListComp _ _ _ _ => true
  | _ => false
/-- a comprehension that a name is given: on one line, not the block's own name -/
def lcOk (sc : Scope) : Expr → Expr → Bool
  | .Name y py, .ListComp _ _ scope pos => decide (sc.names.lookup y = some .local) && ((py.line == pos.line) && !(scope.names.any fun (n, k) => n == y && (k == .local || k == .cell)))
  | _, _ => false
/-- no exchange: not a comprehension, or a cell's name -/
def nlT (sc : Scope) (tg x : Expr) : Bool := nlc x || (match tg with | .Name y _ => decide (sc.names.lookup y = some .cell) | _ => false)
/-- no swap of names -/
def ntT (tg x : Expr) : Bool := ntd x || (match tg with | .Name _ _ => true | .Subscript _ _ _ => true | _ => false)
def isCompN : Nw → Bool
  | .comp _ _ _ _ => true
  | _ => false
def isCompE : E → Bool
  | .new n => isCompN n
  | _ => false
def fnSc (sc : Scope) : Bool := match sc.kind with | .function => true | _ => false
def hPl (mp me : Expr → Bool) : Expr → Bool
  | .Subscript o y _ => pixB y && mp o && me y
  | _ => false
section
variable (N : List Str) (lv : Nat) (sc : Scope) (kp : List Nat)
def mPl : Pl → Expr → Bool
  | .v i, x => mE N lv sc (.var i) x
  | .x p e, x => hPl (fun o => mPl p o) (fun y => mE N lv sc e y) x
/-- x = e, x, y = e -/
def kSet (p : Pt) (me : Expr → Bool) (e : Bool) : Stmt → Bool
  | .Assign [tg] x _ => mP N (isLoc sc) p tg && (slots p).all (fun i => !kp.contains i) && me x && ((nlT sc tg x && ntT tg x) || (e && fnSc sc && lcOk sc tg x))
  | _ => false
def kAug (i : Nat) (me : Expr → Bool) : Stmt → Bool
  | .AugAssign (.Name y _) .Add x _ => decide (N[i]? = some y) && isLoc sc y && !kp.contains i && me x
  | _ => false
def kMeth (f : Str) (mp me : Expr → Bool) : Stmt → Bool
  | .Expr (.Call (.Attribute o g p) [x] [] q) _ => decide (g = f) && abB o && (p.endLine == q.line) && nsB x && mp o && me x
  | _ => false
def kMeth0 (f : Str) (mp : Expr → Bool) : Stmt → Bool
  | .Expr (.Call (.Attribute o g p) [] [] q) _ => decide (g = f) && abB o && (p.endLine == q.line) && mp o
  | _ => false
def kPop (mq me : Expr → Bool) : Expr → Bool
  | .Call (.Attribute o g p) [x] [] q => decide (g = "pop") && abB o && (p.endLine == q.line) && nsB x && mq o && me x
  | _ => false
def kPut (mp me mi : Expr → Bool) : Stmt → Bool
  | .Assign [.Subscript o y _] x _ => pixB y && nlc x && mp o && me y && mi x
  | _ => false
def kAugPut (mp me ma : Expr → Bool) : Stmt → Bool
  | .AugAssign (.Subscript o y _) .Add x _ => pixB y && mp o && me y && ma x
  | _ => false
def kExpr (me : Expr → Bool) : Stmt → Bool
  | .Expr x _ => nlc x && me x
  | _ => false
def kIte (mc : Expr → Bool) (ma mb : List Stmt → Bool) : Stmt → Bool
  | .If x a b _ => mc x && ma a && mb b
  | _ => false
def kFor (p : Pt) (ms : Expr → Expr → Bool) (mb : List Stmt → Bool) : Stmt → Bool
  | .For tg x b [] _ => nset x && mP N (isLoc sc) p tg && (slots p).all (fun i => !kp.contains i) && ms tg x && mb b
  | _ => false
def kWhl (mc : Expr → Bool) (mb : List Stmt → Bool) : Stmt → Bool
  | .While x b [] _ => mc x && mb b
  | _ => false
def kRet (me : Expr → Bool) : Stmt → Bool
  | .Return (some x) _ => me x
  | _ => false
def kRet0 : Stmt → Bool
  | .Return none _ => true
  | _ => false
def kPas : Stmt → Bool
  | .Pass _ => true
  | _ => false
def kBrk : Stmt → Bool
  | .Break _ => true
  | _ => false
def kCtn : Stmt → Bool
  | .Continue _ => true
  | _ => false
def kRai (n : Str) (me : Expr → Bool) : Stmt → Bool
  | .Raise (some (.Call (.Name g _) [x] [] _)) none _ => decide (g = n) && isGl sc g && nmB g && nsB x && me x
  | _ => false
def kTc (sc : Scope) : List (Str × Dt) → List ExceptHandler → Bool
  | [], [] => true
  | (n, d) :: r, .ExceptHandler (some (.Name x _)) none [.Return (some (.Constant k _ _)) _] _ :: hs => decide (x = n) && isGl sc x && nmB x && (match d, k with | .int i, .int j => decide (i = j) | .bl i, .bool j => decide (i = j) | _, _ => false) && kTc sc r hs
  | _, _ => false
def kTri (hs : List (Str × Dt)) (mb : List Stmt → Bool) : Stmt → Bool
  | .Try b (h :: r) [] [] _ => fnSc sc && mb b && kTc sc hs (h :: r)
  | _ => false
def kTas (i : Nat) (x : Str) (h : HS) (mb : List Stmt → Bool) : Stmt → Bool
  | .Try b [.ExceptHandler (some (.Name y _)) (some n) (b0 :: suite) _] [] [] _ => fnSc sc && mb b && decide (y = x) && isGl sc y && nmB y && decide (N[i]? = some n) && (sc.names.lookup n == some .local) && kHS N sc i n none h (b0 :: suite)
  | _ => false
def kCons (ms : Stmt → Bool) (mss : List Stmt → Bool) : List Stmt → Bool
  | x :: xs => ms x && mss xs
  | _ => false
def kNil : List Stmt → Bool
  | [] => true
  | _ => false
mutual
def mS : S → Stmt → Bool
  | .set p e, x => kSet N sc kp p (fun y => mE N lv sc e y) (isCompE e) x
  | .own i n, x => kSet N sc kp (.v i) (fun y => mN N lv sc n y) (isCompN n) x
  | .mov i j, x => !kp.contains j && kSet N sc kp (.v i) (fun y => mE N lv sc (.var j) y) false x
  | .aug i e, x => kAug N sc kp i (fun y => mE N lv sc e y) x
  | .app p i, x => kMeth "append" (fun y => mPl N lv sc p y) (fun y => mI N lv sc i y) x
  | .appPop i j e, x => !kp.contains i && !kp.contains j && kMeth "append" (fun y => mE N lv sc (.var i) y) (fun y => kPop (fun z => mE N lv sc (.var j) z) (fun z => mE N lv sc e z) y) x
  | .rev p, x => kMeth0 "reverse" (fun y => mPl N lv sc p y) x
  | .clr p, x => kMeth0 "clear" (fun y => mPl N lv sc p y) x
  | .put p e i, x => kPut (fun y => mPl N lv sc p y) (fun y => mE N lv sc e y) (fun y => mI N lv sc i y) x
  | .augPut p e a, x => kAugPut (fun y => mPl N lv sc p y) (fun y => mE N lv sc e y) (fun y => mE N lv sc a y) x
  | .expr e, x => kExpr (fun y => mE N lv sc e y) x
  | .ite c a b, x => kIte (fun y => mE N lv sc c y) (fun y => mSs a y) (fun y => mSs b y) x
  | .for p s b, x => kFor N sc kp p (fun z y => mSr N lv sc s z y) (fun y => mSs b y) x
  | .whl c b, x => kWhl (fun y => mE N lv sc c y) (fun y => mSs b y) x
  | .ret e, x => kRet (fun y => mE N lv sc e y) x
  | .retN n, x => kRet (fun y => mN N lv sc n y) x
  | .ret0, x => kRet0 x
  | .pas, x => kPas x
  | .brk, x => kBrk x
  | .ctn, x => kCtn x
  | .rai n e, x => kRai sc n (fun y => mE N lv sc e y) x
  | .frz _, _ => false
  | .tas _ b i y h, x => kp.isEmpty && kTas N sc i y h (fun y => mSs b y) x
  | .tri _ b hs, x => kp.isEmpty && kTri sc hs (fun y => mSs b y) x
def mSs : Ss → List Stmt → Bool
  | .nil, xs => kNil xs
  | .cons s ss, xs => match s with
    | .frz i => !kp.contains i && mSs ss xs
    | s => kCons (fun y => mS s y) (fun y => mSs ss y) xs
end
end
def rqPl (W : Rq → Prop) : Pl → Prop
  | .v _ => True
  | .x p e => rqPl W p ∧ rqE W e
def rqHB (W : Rq → Prop) (C : Str) : HB → Prop
  | .ins x => W (.x x) ∧ W (.i C x)
  | .bi _ => W (.b "ValueError")
  | .inT xs => ∀ x ∈ xs, W (.x x) ∧ W (.i C x)
  | .not a => rqHB W C a
  | .and a b => rqHB W C a ∧ rqHB W C b
  | .ne a b => rqHB W C a ∧ rqHB W C b
  | .cnt _ => True
def rqHS (W : Rq → Prop) (C : Str) : HS → Prop
  | .ret b => rqHB W C b
  | .ifF b r => rqHB W C b ∧ rqHS W C r
  | .kinds _ xs r => (∀ x ∈ xs, W (.x x) ∧ W (.i C x)) ∧ rqHS W C r
mutual
def rqS (W : Rq → Prop) : S → Prop
  | .set _ e => rqE W e
  | .own _ n => rqN W n
  | .mov _ _ => True
  | .aug _ e => rqE W e
  | .app p i => rqPl W p ∧ rqI W i
  | .appPop _ _ e => rqE W e
  | .rev p => rqPl W p
  | .clr p => rqPl W p
  | .put p e i => rqPl W p ∧ rqE W e ∧ rqI W i
  | .augPut p e a => rqPl W p ∧ rqE W e ∧ rqE W a
  | .expr e => rqE W e
  | .ite c a b => rqE W c ∧ rqSs W a ∧ rqSs W b
  | .for _ s b => rqSr W s ∧ rqSs W b
  | .whl c b => rqE W c ∧ rqSs W b
  | .ret e => rqE W e
  | .retN n => rqN W n
  | .rai x e => W (.x x) ∧ rqE W e
  | .tas L b _ x h => rqSs W b ∧ W (.x x) ∧ W (.b "isinstance") ∧ ∀ C ∈ L, W (.t C x) ∧ W (.e C) ∧ rqHS W C h
  | .tri L b hs => rqSs W b ∧ (∀ h ∈ hs, W (.x h.1)) ∧ ∀ C ∈ L, ∀ h ∈ hs, W (.t C h.1)
  | _ => True
def rqSs (W : Rq → Prop) : Ss → Prop
  | .nil => True
  | .cons s ss => rqS W s ∧ rqSs W ss
end
end DD
namespace DD
open PySem PySem.Spec PyProof.Rows L2 DL
section
variable {P : Program} {w : World} {K : PySem.W.Frag} {mg : Str → Option Value} {base : Heap} {N : List Str} {sc : Scope} {F : Fm P w K mg base N sc} {ca : Str → Addr}
variable {ρ : Rho} {M : OH} {v : Env} {x y z : Expr} {pos : Pos} {r r1 r2 : Sl} {e a b c : E}
/-! ### places -/
theorem getT_one {ts : List Tr} {k : Nat} : getT ts [k] = ts[k]? := rfl
theorem putT_one {ts : List Tr} {k : Nat} {t : Tr} : putT ts [k] t = ts.set k t := rfl
theorem getT_snoc : ∀ {pa : List Nat} {v ts : List Tr} {k : Nat}, getT v pa = some (.own ts) → getT v (pa ++ [k]) = ts[k]?
  | [], _, _, _, h => by simp [getT] at h
  | [a], v, ts, k, h => by
    have h : v[a]? = some (.own ts) := h
    show getT (subT v[a]?) [k] = _
    rw [h]
    rfl
  | a :: b :: r, v, ts, k, h => getT_snoc (pa := b :: r) (v := subT v[a]?) h
theorem putT_snoc : ∀ {pa : List Nat} {v ts : List Tr} {k : Nat} {t : Tr}, getT v pa = some (.own ts) → putT v (pa ++ [k]) t = putT v pa (.own (ts.set k t))
  | [], _, _, _, _, h => by simp [getT] at h
  | [a], v, ts, k, t, h => by
    have h : v[a]? = some (.own ts) := h
    show v.set a (.own (putT (subT v[a]?) [k] t)) = _
    rw [h]
    rfl
  | a :: b :: r, v, ts, k, t, h => congrArg (fun z => v.set a (.own z)) (putT_snoc (pa := b :: r) (v := subT v[a]?) h)
theorem TrsR.mod {M' : OH} {t t' : Tr} {s : Sl} {g g' : List Addr} (h2 : TrR M' t' s g') (n2 : g'.Nodup) : ∀ {ts : List Tr} {ss : List Sl} {f : List Addr} {k : Nat}, TrsR M ts ss f → (∀ a ∈ g', a ∈ g ∨ a ∉ f) → (∀ a ∈ f, a ∉ g → M' a = M a) → f.Nodup → ts[k]? = some t → ss[k]? = some s → TrR M t s g →
    ∃ f', TrsR M' (ts.set k t') ss f' ∧ f'.Nodup ∧ ∀ a ∈ f', a ∈ f ∨ a ∈ g'
  | [], _, _, _, _, _, _, _, e, _, _ => by simp at e
  | u :: ts, _, _, 0, .cons (f := f1) (g := f2) a b, k1, k2, hn, e1, e2, q => by
    obtain rfl := Option.some.inj (show some u = some t from e1)
    obtain rfl := Option.some.inj e2
    obtain ⟨_, rfl⟩ := a.det q fun _ _ => rfl
    obtain ⟨n3, n4, n5⟩ := List.nodup_append.mp hn
    refine ⟨g' ++ f2, .cons h2 (b.frame fun x hx => k2 x (List.mem_append_right _ hx) fun z => n5 x z x hx rfl), List.nodup_append.mpr ⟨n2, n4, fun x hx y hy e => ?_⟩, fun x hx => ?_⟩
    · subst e
      rcases k1 x hx with z | z
      · exact n5 x z x hy rfl
      · exact z (List.mem_append_right _ hy)
    · rcases List.mem_append.mp hx with z | z
      · exact .inr z
      · exact .inl (List.mem_append_right _ z)
  | u :: ts, _, _, k + 1, .cons (f := f1) (g := f2) a b, k1, k2, hn, e1, e2, q => by
    obtain ⟨n3, n4, n5⟩ := List.nodup_append.mp hn
    have sub := sublist_part (k := k) b (by simpa using e1) (by simpa using e2)
    obtain ⟨g0, q0, q1⟩ := sub
    obtain ⟨_, rfl⟩ := q0.det q fun _ _ => rfl
    obtain ⟨f', m1, m2, m3⟩ := TrsR.mod h2 n2 (k := k) b (fun x hx => (k1 x hx).elim .inl fun z => .inr fun y => z (List.mem_append_right _ y)) (fun x hx => k2 x (List.mem_append_right _ hx)) n4 (by simpa using e1) (by simpa using e2) q
    refine ⟨f1 ++ f', .cons (a.frame fun x hx => k2 x (List.mem_append_left _ hx) fun z => n5 x hx x (q1.mem z) rfl) m1, List.nodup_append.mpr ⟨n3, m2, fun x hx y hy e => ?_⟩, fun x hx => ?_⟩
    · subst e
      rcases m3 x hy with z | z
      · exact n5 x hx x z rfl
      · rcases k1 x z with y | y
        · exact n5 x hx x (q1.mem y) rfl
        · exact y (List.mem_append_left _ hx)
    · rcases List.mem_append.mp hx with z | z
      · exact .inl (List.mem_append_left _ z)
      · exact (m3 x z).elim (fun y => .inl (List.mem_append_right _ y)) .inr
theorem EnvR.mod {M' : OH} {t t' : Tr} {s : Sl} {g g' : List Addr} (h2 : TrR M' t' s g') (n2 : g'.Nodup) : ∀ {v : Env} {ρ : Rho} {f : List Addr} {k : Nat}, EnvR M v ρ f → (∀ a ∈ g', a ∈ g ∨ a ∉ f) → (∀ a ∈ f, a ∉ g → M' a = M a) → f.Nodup → v[k]? = some t → ρ[k]? = some s → TrR M t s g →
    ∃ f', EnvR M' (v.set k t') ρ f' ∧ f'.Nodup ∧ ∀ a ∈ f', a ∈ f ∨ a ∈ g'
  | _, _, _, _, .nil, _, _, _, e, _, _ => by simp at e
  | _, _, _, 0, .un b, _, _, hn, e1, e2, q => by cases (show some Tr.un = some t from e1); cases q
  | _, _, _, k + 1, .un b, k1, k2, hn, e1, e2, q => by
    obtain ⟨f', m1, m2, m3⟩ := EnvR.mod h2 n2 (k := k) b k1 k2 hn (by simpa using e1) (by simpa using e2) q
    exact ⟨f', .un m1, m2, m3⟩
  | _, _, _, 0, .cons (f := f1) (g := f2) a b, k1, k2, hn, e1, e2, q => by
    obtain rfl := Option.some.inj (show some _ = some t from e1)
    obtain rfl := Option.some.inj e2
    obtain ⟨_, rfl⟩ := a.det q fun _ _ => rfl
    obtain ⟨n3, n4, n5⟩ := List.nodup_append.mp hn
    refine ⟨g' ++ f2, .cons h2 (b.frame fun x hx => k2 x (List.mem_append_right _ hx) fun z => n5 x z x hx rfl), List.nodup_append.mpr ⟨n2, n4, fun x hx y hy e => ?_⟩, fun x hx => ?_⟩
    · subst e
      rcases k1 x hx with z | z
      · exact n5 x z x hy rfl
      · exact z (List.mem_append_right _ hy)
    · rcases List.mem_append.mp hx with z | z
      · exact .inr z
      · exact .inl (List.mem_append_right _ z)
  | _, _, _, k + 1, .cons (f := f1) (g := f2) a b, k1, k2, hn, e1, e2, q => by
    obtain ⟨n3, n4, n5⟩ := List.nodup_append.mp hn
    have q1 := b.sub (i := k) (by simpa using e1) (by simpa using e2) q
    obtain ⟨f', m1, m2, m3⟩ := EnvR.mod h2 n2 (k := k) b (fun x hx => (k1 x hx).elim .inl fun z => .inr fun y => z (List.mem_append_right _ y)) (fun x hx => k2 x (List.mem_append_right _ hx)) n4 (by simpa using e1) (by simpa using e2) q
    refine ⟨f1 ++ f', .cons (a.frame fun x hx => k2 x (List.mem_append_left _ hx) fun z => n5 x hx x (q1.mem z) rfl) m1, List.nodup_append.mpr ⟨n3, m2, fun x hx y hy e => ?_⟩, fun x hx => ?_⟩
    · subst e
      rcases m3 x hy with z | z
      · exact n5 x hx x z rfl
      · rcases k1 x z with y | y
        · exact n5 x hx x (q1.mem y) rfl
        · exact y (List.mem_append_left _ hx)
    · rcases List.mem_append.mp hx with z | z
      · exact .inl (List.mem_append_left _ z)
      · exact (m3 x z).elim (fun y => .inl (List.mem_append_right _ y)) .inr
/-- a place among the names' things, and how it is changed; A: all that the names own -/
structure PlR (M : OH) (v : Env) (ρ : Rho) (A : List Addr) (pa : List Nat) (r : Sl) (t : Tr) : Prop where
  get : getT v pa = some t
  up : ∃ g, TrR M t r g ∧ g.Nodup ∧ (∀ a ∈ g, a ∈ A) ∧ ∀ M' t' g', TrR M' t' r g' → g'.Nodup → (∀ a ∈ g', a ∈ g ∨ a ∉ A) → (∀ a ∈ A, a ∉ g → M' a = M a) → EV M' (putT v pa t') ρ
theorem pl_var {i : Nat} {t : Tr} {A : List Addr} (h1 : EnvR M v ρ A) (h2 : A.Nodup) (h : v[i]? = some t) (hu : t ≠ .un) : ∃ s, ρ[i]? = some s ∧ PlR M v ρ A [i] s t := by
  obtain ⟨s, f, e1, e2, _⟩ := h1.get h hu
  have sub := h1.sub h e1 e2
  refine ⟨s, e1, h, f, e2, sub.nodup h2, fun a ha => sub.mem ha, fun M' t' g' k1 k2 k3 k4 => ?_⟩
  obtain ⟨f', m1, m2, _⟩ := EnvR.mod k1 k2 h1 k3 k4 h2 h e1 e2
  exact ⟨f', m1, m2⟩
theorem pl_ix {pa : List Nat} {A : List Addr} {ts : List Tr} {p : Addr} {xs : List Sl} {k : Nat} {t : Tr} {s : Sl} (h : PlR M v ρ A pa (.raw (.ref p)) (.own ts)) (hM : M p = some xs) (h1 : ts[k]? = some t) (h2 : xs[k]? = some s) : PlR M v ρ A (pa ++ [k]) s t := by
  obtain ⟨g, q, n, sA, up⟩ := h.up
  cases q with
  | @own p xs' ts fp e hs =>
    rw [hM] at e
    cases e
    obtain ⟨n1, n2⟩ := List.nodup_cons.mp n
    obtain ⟨g1, q1, q2⟩ := sublist_part hs h1 h2
    have inA : ∀ a ∈ fp, a ∈ A := fun a ha => sA a (List.mem_cons_of_mem _ ha)
    refine ⟨by rw [getT_snoc h.get]; exact h1, g1, q1, q2.nodup n2, fun a ha => inA a (q2.mem ha), fun M' t' g' k1 k2 k3 k4 => ?_⟩
    obtain ⟨f', m1, m2, m3⟩ := TrsR.mod k1 k2 hs (fun a ha => (k3 a ha).elim .inl fun z => .inr fun y => z (inA a y)) (fun a ha => k4 a (inA a ha)) n2 h1 h2 q1
    have hp : p ∉ g1 := fun z => n1 (q2.mem z)
    have pA : p ∈ A := sA p List.mem_cons_self
    have fresh : ∀ a ∈ g', a ∈ fp ∨ a ∉ A := fun a ha => (k3 a ha).elim (fun z => .inl (q2.mem z)) .inr
    rw [putT_snoc h.get]
    refine up M' _ (p :: f') (.own (by rw [k4 p pA hp]; exact hM) m1) (List.nodup_cons.mpr ⟨fun z => ?_, m2⟩) (fun a ha => ?_) fun a ha hMa => k4 a ha fun z => hMa (List.mem_cons_of_mem _ (q2.mem z))
    · rcases m3 p z with z | z
      · exact n1 z
      · exact (fresh p z).elim n1 fun y => y pA
    · rcases List.mem_cons.mp ha with z | z
      · subst z; exact .inl List.mem_cons_self
      · exact (m3 a z).elim (fun y => .inl (List.mem_cons_of_mem _ y)) fun y => (fresh a y).elim (fun z => .inl (List.mem_cons_of_mem _ z)) .inr
theorem pl_ok : ∀ (p : Pl) {N : List Str} {sc : Scope} (F : Fm P w K mg base N sc) (x : Expr) (ρ : Rho) (M : OH) (v : Env) (A : List Addr) (X : Str → Env → Prop) (Q : List Nat → Prop), mPl N F.lv sc p x = true → rqPl (Wd P w K mg base ca) p → EnvR M v ρ A → A.Nodup → ExOk F ca X → wpPl X v p Q →
    EW F ρ M x fun r M' => M' = M ∧ ∃ pa t, Q pa ∧ PlR M v ρ A pa r t
  | .v i, _, _, F, x, ρ, M, v, A, X, Q, h, hr, hA, hN, hx, hw => by
    rw [mPl] at h
    rw [mE] at h; unfold hE_var at h
    split at h
    rotate_left
    · cases h
    simp only [Bool.and_eq_true] at h
    obtain ⟨n1, n2, _⟩ := nm_of h.2
    have hw : getV v i (fun _ => Q [i]) := hw
    unfold getV at hw
    cases ev : v[i]? with
    | none => rw [ev] at hw; exact hw.elim
    | some t =>
      rw [ev] at hw
      have hu : t ≠ .un := fun z => by rw [z] at hw; exact hw
      obtain ⟨s, e1, e2⟩ := pl_var hA hN ev hu
      have hk : known s := by
        obtain ⟨_, q, _⟩ := e2.up
        cases q <;> trivial
      refine (ed_var (i := i) e1 hk (of_decide_eq_true h.1.1) (vis_of h.1.2) n1 n2).ew ⟨rfl, [i], t, ?_, e2⟩
      cases t with
      | un => exact absurd rfl hu
      | dat d => exact hw
      | own ts => exact hw
  | .x p e, _, _, F, x, ρ, M, v, A, X, Q, h, hr, hA, hN, hx, hw => by
    rw [mPl] at h; unfold hPl at h
    split at h
    rotate_left
    · cases h
    simp only [Bool.and_eq_true] at h
    obtain ⟨⟨h0, h1⟩, h2⟩ := h
    refine ew_op2 (fun i => pe_ix (fIxL i) (pe_u i) (pe_u i) (pix_of h0)) ((pl_ok p F _ ρ M v A X _ h1 hr.1 hA hN hx hw).mono fun r1 M1 ⟨e1, pa, t, ⟨ts, w1, w2⟩, q1⟩ => ?_)
    subst e1
    rw [q1.get] at w1
    cases w1
    obtain ⟨g, q2, _, _⟩ := id q1.up
    cases q2 with
    | @own pp xs ts fp e0 hs =>
      refine ((allE e).ew F _ ρ M1 v X _ h2 hr.2 ⟨A, hA, hN⟩ hx w2).mono fun r2 M2 ⟨e2, t2, f2, q3, _, w3⟩ => ?_
      subst e2
      obtain ⟨k, rfl, k0, k1, w4⟩ := asI_of q3 w3
      intro H 𝓗 u u2 Q' c s1 s2 kk
      have hlt : k.toNat < ts.length := by omega
      obtain ⟨t1, ht⟩ : ∃ t1, ts[k.toNat]? = some t1 := ⟨_, List.getElem?_eq_getElem hlt⟩
      obtain ⟨sx, _, hsx, _⟩ := hs.get ht
      obtain ⟨_, _, vs, v1, v2⟩ := c.o pp xs e0
      obtain ⟨z, z1, z2⟩ := slget v2 hsx
      have hu : u = .ref pp := s1
      have hu2 : u2 = .int k := s2
      subst hu hu2
      have hat : atI vs k = some z := by
        have := atI_nat z1
        rwa [Int.toNat_of_nonneg k0] at this
      exact ⟨pp, vs, k, z, rfl, rfl, SqL.of v1, hat, kk _ _ ⟨H, M2, sx, c, Same.refl H, z2, rfl, _, t1, w4, pl_ix q1 e0 ht hsx⟩⟩
end
end DD
namespace DD
open PySem PySem.Spec PyProof.Rows L2 DL
section
variable {P : Program} {w : World} {K : PySem.W.Frag} {mg : Str → Option Value} {base : Heap} {N : List Str} {sc : Scope} {F : Fm P w K mg base N sc} {ca : Str → Addr}
variable {ρ : Rho} {M : OH} {v : Env} {x y z : Expr} {pos : Pos} {r r1 r2 : Sl} {e a b c : E}
def Kp (kp : List Nat) (ρ0 ρ : Rho) : Prop := ∀ i ∈ kp, ρ[i]? = ρ0[i]?
theorem Kp.set {kp : List Nat} {ρ0 : Rho} {i : Nat} {s : Sl} (h : Kp kp ρ0 ρ) (hi : i ∉ kp) : Kp kp ρ0 (ρ.set i s) := fun j hj => by rw [List.getElem?_set_ne (fun z => hi (by rw [z]; exact hj))]; exact h j hj
/-- our ends against the logic's -/
structure RelD (F : Fm P w K mg base N sc) (Po : Po) (D : DE) (kp : List Nat) (ρ0 : Rho) : Prop where
  nx : ∀ ρ M v, EV M v ρ → Kp kp ρ0 ρ → Po.nx v → D.nx ρ M
  rt : ∀ r M t f v ρ fp, TrR M t r f → EnvR M v ρ fp → (f ++ fp).Nodup → Kp kp ρ0 ρ → Po.rt t v → ∃ M', Sub M' M ∧ D.rt r M'
  bk : ∀ ρ M v, EV M v ρ → Kp kp ρ0 ρ → Po.bk v → D.bk ρ M
  ct : ∀ ρ M v, EV M v ρ → Kp kp ρ0 ρ → Po.ct v → D.ct ρ M
  fc : CellOk F
  fs : ∀ i, (F.X i).stack = (F.X i).env :: (F.X i).outer ∧ (F.X i).env.frame = some (F.X i).env.locals
structure SS (P : Program) (w : World) (K : PySem.W.Frag) (mg : Str → Option Value) (base : Heap) (ca : Str → Addr) (s : S) : Prop where
  go : ∀ {N : List Str} {sc : Scope} (F : Fm P w K mg base N sc) (st : Stmt) (ρ : Rho) (M : OH) (v : Env) (X : Str → Env → Prop) (Po : Po) (D : DE) (kp : List Nat) (ρ0 : Rho), mS N F.lv sc kp s st = true → rqS (Wd P w K mg base ca) s → EV M v ρ → Kp kp ρ0 ρ → ExOk F ca X → RelD F Po D kp ρ0 → wpS X v s Po → S1 F ρ M st D
structure SSs (P : Program) (w : World) (K : PySem.W.Frag) (mg : Str → Option Value) (base : Heap) (ca : Str → Addr) (ss : Ss) : Prop where
  go : ∀ {N : List Str} {sc : Scope} (F : Fm P w K mg base N sc) (sts : List Stmt) (ρ : Rho) (M : OH) (v : Env) (X : Str → Env → Prop) (Po : Po) (D : DE) (kp : List Nat) (ρ0 : Rho), mSs N F.lv sc kp ss sts = true → rqSs (Wd P w K mg base ca) ss → EV M v ρ → Kp kp ρ0 ρ → ExOk F ca X → RelD F Po D kp ρ0 → wpSs X v ss Po → SX F ρ M sts D
theorem all_kp {kp : List Nat} {is : List Nat} (h : is.all (fun i => !kp.contains i) = true) : ∀ i ∈ is, i ∉ kp := fun i hi z => by
  have := List.all_eq_true.mp h i hi
  simp [z] at this
theorem kp1 {kp : List Nat} {i : Nat} (h : (slots (.v i)).all (fun i => !kp.contains i) = true) : i ∉ kp := all_kp h i List.mem_cons_self
theorem sw_no (h : nlc x = true) (o : Option Expr) (l : Nat) (env : PySem.Env) : swapsWith x o l env = pure false := by
  cases x <;> first | rfl | cases h
theorem sw_nlT {tg : Expr} (h : nlT sc tg x = true) (l : Nat) (j : F.ι) : swapsWith x (some tg) l (F.X j).env = pure false := by
  unfold nlT at h
  rw [Bool.or_eq_true] at h
  rcases h with h | h
  · exact sw_no h _ _ _
  · cases tg <;> first | (cases h; done) | skip
    rename_i y py
    have h : sc.names.lookup y = some .cell := of_decide_eq_true h
    have hk : ((F.X j).env.kindOf y == some NameKind.local) = false := by
      show ((F.X j).env.scope.names.lookup y == some NameKind.local) = false
      rw [F.es j, h]
      rfl
    unfold swapsWith
    split
    · simp [hk]
    · rfl
theorem st_no {tg : Expr} (h : ntT tg x = true) (env : PySem.Env) : swappedStores [tg] x env = pure none := by
  unfold ntT at h
  rw [Bool.or_eq_true] at h
  rcases h with h | h
  rotate_left
  · cases tg <;> first | (cases h; done) | skip
    all_goals (cases x <;> rfl)
  cases x <;> first | cases h | skip
  all_goals (cases tg <;> rfl)
theorem as_one {tg : Expr} (h : noStar tg = true) (i : F.ι) : (assignEach [tg] (F.X i).env).map (·.2) = [assign tg (F.X i).env] := (asgEach h i).1
/-- x = e by a wish -/
theorem s_asg {p : Pt} {tg : Expr} {D : DE} (hF : CellOk F) (h : EW F ρ M x fun r M1 => ∃ d v Q, r = .dat d ∧ EV M1 v ρ ∧ asg p d v Q ∧ ∀ ρ' v', EV M1 v' ρ' → Q v' → (∀ j, j ∉ slots p → ρ'[j]? = ρ[j]?) → D.nx ρ' M1) (hp : mP N (isLoc sc) p tg = true) (h1 : nlT sc tg x = true) (h2 : ntT tg x = true) : S1 F ρ M (.Assign [tg] x pos) D := .mk fun H 𝓗 σ c hE => by
  refine uS.by (fun z => ps_asg (pe_u z) (pat_pg (lp_c hF) p tg hp z) (sw_nlT h1 _ z) (st_no h2 _) (as_one (mP_ns hp) z)) ((h.run H 𝓗 σ c hE).mono fun u 𝓗1 ⟨H1, M1, r1, c1, s1, q1, d, v, Q, e1, he, hq, k⟩ => ?_)
  subst e1
  exact pat_go p d v Q ρ M1 H1 𝓗1 σ u _ hq c1 (hE.mono s1) he q1 fun σ' ρ' v' hE' he' q' ap => ⟨ρ', M1, H1, c1, s1, hE', k ρ' v' he' q' ap.r⟩
theorem EZ.shr {e : Expr} {Q : Sl → OH → Prop} (h : EZ F ρ M e fun r M' => ∃ M'', Sub M'' M' ∧ Q r M'') : EZ F ρ M e Q := by
  obtain ⟨t, h1, h2, h3⟩ := h.ex
  exact ⟨t, h1, h2, fun H 𝓗 σ c hE R k => h3 H 𝓗 σ c hE R fun v 𝓗' ⟨H', M', r, c', b, d, M'', s, q⟩ => k v 𝓗' ⟨H', M'', r, c'.less s, b, d, q⟩⟩
theorem lc_sw {tg : Expr} (h : lcOk sc tg x = true) (hf : fnSc sc = true) (l : Nat) (i : F.ι) : ∃ y py elt gs s p, tg = .Name y py ∧ x = .ListComp elt gs s p ∧ sc.names.lookup y = some .local ∧ swapsWith x (some tg) l (F.X i).env = pure true := by
  unfold lcOk at h
  split at h
  rotate_left
  · cases h
  rename_i y py elt gs s p
  rw [Bool.and_eq_true, Bool.and_eq_true, Bool.not_eq_true'] at h
  refine ⟨y, py, elt, gs, s, p, rfl, rfl, of_decide_eq_true h.1, sw_true ?_ ?_ h.2.1 h.2.2⟩
  · rw [F.es i]
    unfold fnSc at hf
    split at hf
    · assumption
    · cases hf
  · rw [F.es i]
    exact of_decide_eq_true h.1
theorem mP_v {i : Nat} {tg : Expr} (h : mP N (isLoc sc) (.v i) tg = true) : ∃ y py, tg = .Name y py ∧ N[i]? = some y ∧ isLoc sc y = true := by
  cases tg <;> first | (simp [mP] at h; done) | skip
  simp only [mP, Bool.and_eq_true, decide_eq_true_eq] at h
  exact ⟨_, _, rfl, h.1, h.2⟩
theorem mP_t {ps : Pts} {y : Str} {py : Pos} : mP N (isLoc sc) (.t ps) (.Name y py) = false := rfl
/-- y = [..] on one line -/
theorem s_setZ' {i : Nat} {tg : Expr} {D : DE} (h : EZ F ρ M x fun r M' => D.nx (ρ.set i r) M') (hp : mP N (isLoc sc) (.v i) tg = true) (hl : lcOk sc tg x = true) (hf : fnSc sc = true) : S1 F ρ M (.Assign [tg] x pos) D := by
  obtain ⟨y, py, rfl, hN, hy⟩ := mP_v hp
  refine s_setZ i h hN (fun j => ?_) fun j => ?_
  · obtain ⟨_, _, _, _, _, _, e, _, q, _⟩ := lc_sw (F := F) hl hf pos.line j
    cases e
    rw [F.es j]
    exact q
  · obtain ⟨_, _, _, _, _, _, _, _, _, q⟩ := lc_sw (F := F) hl hf pos.line j
    exact q
theorem EnvR.take {f : List Addr} {s : Sl} {t : Tr} : ∀ {v : Env} {ρ : Rho} {fp : List Addr} {k : Nat}, EnvR M v ρ fp → fp.Nodup → v[k]? = some t → ρ[k]? = some s → TrR M t s f → ∃ fp', EnvR M (v.set k .un) ρ fp' ∧ fp'.Nodup ∧ ∀ a ∈ fp', a ∈ fp ∧ a ∉ f
  | _, _, _, _, .nil, _, e, _, _ => by simp at e
  | _, _, _, 0, .un b, hn, e1, e2, q => by cases (show some Tr.un = some t from e1); cases q
  | _, _, _, k + 1, .un b, hn, e1, e2, q => by
    obtain ⟨f', m1, m2, m3⟩ := EnvR.take (k := k) b hn (by simpa using e1) (by simpa using e2) q
    exact ⟨f', .un m1, m2, m3⟩
  | _, _, _, 0, .cons (f := f1) (g := f2) a b, hn, e1, e2, q => by
    obtain rfl := Option.some.inj (show some _ = some t from e1)
    obtain rfl := Option.some.inj e2
    obtain ⟨_, rfl⟩ := a.det q fun _ _ => rfl
    obtain ⟨n3, n4, n5⟩ := List.nodup_append.mp hn
    exact ⟨f2, .un b, n4, fun x hx => ⟨List.mem_append_right _ hx, fun z => n5 x z x hx rfl⟩⟩
  | _, _, _, k + 1, .cons (f := f1) (g := f2) a b, hn, e1, e2, q => by
    obtain ⟨n3, n4, n5⟩ := List.nodup_append.mp hn
    obtain ⟨f', m1, m2, m3⟩ := EnvR.take (k := k) b n4 (by simpa using e1) (by simpa using e2) q
    have q1 := b.sub (i := k) (by simpa using e1) (by simpa using e2) q
    refine ⟨f1 ++ f', .cons a m1, List.nodup_append.mpr ⟨n3, m2, fun x hx y hy e => n5 x hx y (m3 y hy).1 e⟩, fun x hx => ?_⟩
    rcases List.mem_append.mp hx with z | z
    · exact ⟨List.mem_append_left _ z, fun y => n5 x z x (q1.mem y) rfl⟩
    · exact ⟨List.mem_append_right _ (m3 x z).1, (m3 x z).2⟩
/-! assignments -/
theorem ss_set {p : Pt} : SS P w K mg base ca (.set p e) where
  go := fun F st ρ M v X Po D kp ρ0 h hr he hk hx hD hw => by
    rw [mS] at h; unfold kSet at h
    split at h
    rotate_left
    · cases h
    simp only [Bool.and_eq_true, Bool.or_eq_true] at h
    obtain ⟨⟨⟨h1, h2⟩, h3⟩, h4⟩ := h
    rcases h4 with ⟨h4, h5⟩ | ⟨⟨h4, h5⟩, h6⟩
    · refine s_asg hD.fc (((allE e).ew F _ ρ M v X _ h3 hr he hx hw).mono fun r M1 ⟨e1, t, f, q1, _, q2⟩ => ?_) h1 h4 h5
      subst e1
      obtain ⟨d, _, rfl, q3⟩ := asD_of q1 q2
      exact ⟨d, v, _, rfl, he, q3, fun ρ' v' he' q' ap => hD.nx ρ' M1 v' he' (fun i hi => by rw [ap i (fun z => all_kp h2 i z hi)]; exact hk i hi) q'⟩
    · have hn : ∃ n, e = .new n := by
        cases e <;> first | (cases h4; done) | exact ⟨_, rfl⟩
      obtain ⟨n, rfl⟩ := hn
      have hp : ∃ i, p = .v i := by
        cases p with
        | v i => exact ⟨i, rfl⟩
        | t ps =>
          unfold lcOk at h6
          split at h6
          · rw [mP_t] at h1; cases h1
          · cases h6
      obtain ⟨i, rfl⟩ := hp
      have h60 := h6
      unfold lcOk at h6
      split at h6
      rotate_left
      · cases h6
      rw [mE] at h3
      refine s_setZ' (EZ.shr (EZ.freeze (((allN n).ez F _ _ _ _ ρ M v X _ h3 hr he hx hw).mono fun r M' ⟨ts, f, g, q1, q2, q3, wd, q4⟩ => ?_))) h1 h60 h5
      cases q1 with
      | @own p xs ts fp e hs =>
        obtain ⟨_, ex, _⟩ := hs.allD wd
        subst ex
        refine ⟨p, _, rfl, e, M, fun a ys ha => ?_, ?_⟩
        · have hp : M p = none := q3 p List.mem_cons_self
          unfold odel
          rw [if_neg (fun z => by rw [z, hp] at ha; cases ha), g a (by rw [ha]; exact fun z => nomatch z)]
          exact ha
        · exact hD.nx _ M _ (he.setD i _) (hk.set (kp1 h2)) q4
theorem ss_own {i : Nat} {n : Nw} : SS P w K mg base ca (.own i n) where
  go := fun F st ρ M v X Po D kp ρ0 h hr he hk hx hD hw => by
    rw [mS] at h; unfold kSet at h
    split at h
    rotate_left
    · cases h
    simp only [Bool.and_eq_true, Bool.or_eq_true] at h
    obtain ⟨⟨⟨h1, h2⟩, h3⟩, h4⟩ := h
    have fin : ∀ r M', NV M (fun ts => Po.nx (v.set i (.own ts))) r M' → D.nx (ρ.set i r) M' := fun r M' ⟨ts, f, g, q1, q2, q3, q4⟩ => hD.nx _ M' _ (he.set i g q1 q2 q3) (hk.set (kp1 h2)) q4
    rcases h4 with ⟨h4, h5⟩ | ⟨⟨h4, h5⟩, h6⟩
    · obtain ⟨y, py, rfl, hN, hy⟩ := mP_v h1
      exact s_setW i (((allN n).ew F _ ρ M v X _ h3 hr he hx hw).mono fin) hN (fun j => (lp_c hD.fc _ hy j).1) (fun j => sw_nlT h4 _ j) (fun j => (lp_c hD.fc _ hy j).2)
    · have h60 := h6
      unfold lcOk at h6
      split at h6
      rotate_left
      · cases h6
      exact s_setZ' (((allN n).ez F _ _ _ _ ρ M v X _ h3 hr he hx hw).mono fin) h1 h60 h5
theorem ss_mov {i j : Nat} : SS P w K mg base ca (.mov i j) where
  go := fun F st ρ M v X Po D kp ρ0 h hr he hk hx hD hw => by
    rw [mS, Bool.and_eq_true] at h
    obtain ⟨h0, h⟩ := h
    unfold kSet at h
    split at h
    rotate_left
    · cases h
    simp only [Bool.and_eq_true, Bool.or_eq_true] at h
    obtain ⟨⟨⟨h1, h2⟩, h3⟩, h4⟩ := h
    obtain ⟨y, py, rfl, hN, hy⟩ := mP_v h1
    obtain ⟨ts, w1, w2, w3⟩ := (show atO v [j] _ from hw)
    have w1 : v[j]? = some (.own ts) := w1
    rw [mE] at h3; unfold hE_var at h3
    split at h3
    rotate_left
    · cases h3
    simp only [Bool.and_eq_true] at h3
    obtain ⟨n1, n2, _⟩ := nm_of h3.2
    obtain ⟨fp, g1, g2⟩ := he
    obtain ⟨s, f, e1, e2, e3⟩ := g1.get w1 (fun z => nomatch z)
    have hkn : known s := by cases e2; trivial
    refine s_setW i ((ed_var (i := j) e1 hkn (of_decide_eq_true h3.1.1) (vis_of h3.1.2) n1 n2).ew (hD.nx _ M _ ?_ (hk.set (kp1 h2)) w3)) hN (fun j => (lp_c hD.fc _ hy j).1) (fun j => sw_no (x := .Name _ _) rfl _ _ _) (fun j => (lp_c hD.fc _ hy j).2)
    obtain ⟨fp', m1, m2, m3⟩ := EnvR.take g1 g2 w1 e1 e2
    obtain ⟨fp2, a1, a2, _⟩ := m1.set m2 i e2 ((g1.sub w1 e1 e2).nodup g2) fun a ha z => (m3 a z).2 ha
    exact ⟨fp2, a1, a2⟩
theorem ss_aug {i : Nat} : SS P w K mg base ca (.aug i e) where
  go := fun F st ρ M v X Po D kp ρ0 h hr he hk hx hD hw => by
    rw [mS] at h; unfold kAug at h
    split at h
    rotate_left
    · cases h
    simp only [Bool.and_eq_true, Bool.not_eq_true', decide_eq_true_eq] at h
    obtain ⟨⟨⟨h1, h2⟩, h3⟩, h4⟩ := h
    have hi : i ∉ kp := fun z => by simp [z] at h3
    have hw : getV v i (asI fun m => wpE X v e (asI fun n => Po.nx (v.set i (.dat (.int (m + n)))))) := hw
    unfold getV at hw
    cases ev : v[i]? with
    | none => rw [ev] at hw; exact hw.elim
    | some t =>
      rw [ev] at hw
      cases t with
      | un => exact hw.elim
      | own ts => exact hw.elim
      | dat d =>
        obtain ⟨s, f, e1, e2⟩ := he.get ev (fun z => nomatch z)
        cases e2
        cases d with
        | int m =>
          have hw : wpE X v e (asI fun n => Po.nx (v.set i (.dat (.int (m + n))))) := hw
          refine .mk fun H 𝓗 σ c hE => ?_
          obtain ⟨u, u1, u2⟩ := hE.get e1 trivial
          refine uS.by (fun j => ps_aug (by rw [F.eN j]; exact F.nd) (by rw [F.eN j]; exact h1) (lp_c hD.fc _ h2 j).1 (pe_u j) ip_add (lp_c hD.fc _ h2 j).2) ⟨u, u1, (((allE e).ew F _ ρ M v X _ h4 hr he hx hw).run H 𝓗 σ c hE).mono fun u3 𝓗' ⟨H', M', r, c', s', q, e5, t, f, q1, _, q2⟩ => ?_⟩
          subst e5
          obtain ⟨n, rfl, q3⟩ := asI_of q1 q2
          exact ⟨m, n, u2, q, ρ.set i (.dat (.int (m + n))), M', H', c', s', (hE.mono s').set i (show DA K H' (.int (m + n)) (.int (m + n)) from daI), hD.nx _ M' _ (he.setD i _) (hk.set hi) q3⟩
        | _ => exact hw.elim
end
end DD
namespace DD
open PySem PySem.Spec PyProof.Rows L2 DL
section
variable {P : Program} {w : World} {K : PySem.W.Frag} {mg : Str → Option Value} {base : Heap} {N : List Str} {sc : Scope} {F : Fm P w K mg base N sc} {ca : Str → Addr}
variable {ρ : Rho} {M : OH} {v : Env} {x y z : Expr} {pos : Pos} {r r1 r2 : Sl} {e a b c : E}
/-! ### lists changed where they stand -/
/-- a written list at a place -/
theorem pl_wr {pa : List Nat} {A : List Addr} {p : Addr} {ts us : List Tr} {xs ys : List Sl} {M1 : OH} {f : List Addr} (h : PlR M v ρ A pa (.raw (.ref p)) (.own ts)) (hM : M p = some xs) (g : ∀ a ∈ A, M1 a = M a) (hu : ∀ f0, TrsR M ts xs f0 → (p :: f0).Nodup → (∀ a ∈ p :: f0, a ∈ A) → TrsR (oset M1 p ys) us ys (f0 ++ f) ∨ ∃ f1, TrsR (oset M1 p ys) us ys f1 ∧ f1.Nodup ∧ ∀ a ∈ f1, a ∈ f0) (hf : f.Nodup) (hfr : ∀ a ∈ f, a ∉ A) : EV (oset M1 p ys) (putT v pa (.own us)) ρ := by
  obtain ⟨g0, q, n, sA, up⟩ := h.up
  cases q with
  | @own p xs' ts fp e hs =>
    rw [hM] at e
    cases e
    have hp : ∀ a ∈ A, a ∉ p :: fp → oset M1 p ys a = M a := fun a ha hMa => by rw [oset_ne (fun z => hMa (by rw [z]; exact List.mem_cons_self)), g a ha]
    obtain ⟨n1, n2⟩ := List.nodup_cons.mp n
    have pA : p ∈ A := sA p List.mem_cons_self
    rcases hu fp hs n sA with hu | ⟨f1, hu, u2, u3⟩
    · refine up _ _ (p :: (fp ++ f)) (.own oset_same hu) (List.nodup_cons.mpr ⟨fun z => ?_, List.nodup_append.mpr ⟨n2, hf, fun a ha b hb e => ?_⟩⟩) (fun a ha => ?_) hp
      · rcases List.mem_append.mp z with z | z
        · exact n1 z
        · exact hfr p z pA
      · subst e; exact hfr a hb (sA a (List.mem_cons_of_mem _ ha))
      · rcases List.mem_cons.mp ha with z | z
        · subst z; exact .inl List.mem_cons_self
        · rcases List.mem_append.mp z with z | z
          · exact .inl (List.mem_cons_of_mem _ z)
          · exact .inr (hfr a z)
    · refine up _ _ (p :: f1) (.own oset_same hu) (List.nodup_cons.mpr ⟨fun z => n1 (u3 p z), u2⟩) (fun a ha => ?_) hp
      rcases List.mem_cons.mp ha with z | z
      · subst z; exact .inl List.mem_cons_self
      · exact .inl (List.mem_cons_of_mem _ (u3 a z))
theorem pl_own {pa : List Nat} {A : List Addr} {ts : List Tr} (h : PlR M v ρ A pa r (.own ts)) : ∃ p xs, r = .raw (.ref p) ∧ M p = some xs ∧ xs.length = ts.length := by
  obtain ⟨g0, q, _⟩ := h.up
  cases q with
  | own e hs => exact ⟨_, _, rfl, e, hs.length⟩
theorem ss_app {p : Pl} {i : It} : SS P w K mg base ca (.app p i) where
  go := fun F st ρ M v X Po D kp ρ0 h hr he hk hx hD hw => by
    rw [mS] at h; unfold kMeth at h
    split at h
    rotate_left
    · cases h
    simp only [Bool.and_eq_true, decide_eq_true_eq] at h
    obtain ⟨⟨⟨⟨⟨rfl, h1⟩, h2⟩, h3⟩, h4⟩, h5⟩ := h
    obtain ⟨A, hA, hN⟩ := id he
    refine s_expr (ew_appendW ((pl_ok p F _ ρ M v A X _ h4 hr.1 hA hN hx hw).mono fun r M0 ⟨e1, pa, t, ⟨ts, w1, wz, w2⟩, q1⟩ => ?_) (ab_of h1) (fw1_of h3) h2 (ns_of h3) (np_of rfl)) (fun j => sw_no rfl _ _ _)
    subst e1
    rw [q1.get] at w1
    cases w1
    obtain ⟨q, xs, rfl, hM, hl⟩ := pl_own q1
    refine ⟨q, xs, rfl, hM, ((allI i).ew F _ ρ M0 v X _ h5 hr.2 he hx w2).mono fun s M1 ⟨t', f, g, k1, k2, k3, k4⟩ => ?_⟩
    refine ⟨xs, by rw [g q (by rw [hM]; exact fun z => nomatch z)]; exact hM, by omega, hD.nx ρ _ _ (pl_wr q1 hM (fun a ha => g a (hA.dom a ha)) (fun f0 hs hn _ => .inl (snoc_tr (hs.frame fun a ha => ?_) (k1.frame fun a ha => ?_))) k2 (fun a ha z => hA.dom a z (k3 a ha))) hk k4⟩
    · rw [oset_ne (fun z => (List.nodup_cons.mp hn).1 (by rw [← z]; exact ha)), g a (hs.dom a ha)]
    · exact oset_ne fun z => by have := k3 a ha; rw [z, hM] at this; cases this
/-- methods without arguments -/
theorem ew_bm0W {o : Expr} {apos : Pos} {Q : Sl → OH → Prop} {name : Str} {id : String} {t : V → List V → Hp → VK → Prop} (slot : Slot "list" name id) (hty : typeOf (.builtin id) = pure (.type "method_descriptor")) (hm : ∀ j, MtR (F.X j) id t)
    (ho : EW F ρ M o fun s M1 => ∃ p xs, s = .raw (.ref p) ∧ M1 p = some xs ∧ ∀ H 𝓗 (Q' : VK), St3 F M1 H 𝓗 → (∀ v' 𝓗', QV F H Q v' 𝓗' → Q' v' 𝓗') → t (.ref p) [] 𝓗 Q')
    (hb : AB F o name) (hline : (apos.endLine == pos.line) = true) : EW F ρ M (.Call (.Attribute o name apos) [] [] pos) Q := .mk fun H 𝓗 σ c hE => by
  refine uE.by (t := tBM0 K "list" t (uE F o)) (fun j => by have q := pe_bm0 (X := F.X j) (cpos := pos) (apos := apos) PySem.F.plainAttrs_list slot hty (hm j) (pe_u (e := o) j) (hb j) (hline := hline); rw [F.eK j] at q; exact q) ((ho.run H 𝓗 σ c hE).mono fun u 𝓗1 ⟨H1, M1, r1, c1, s1, q1, p, xs, e1, hM, k⟩ => ?_)
  subst e1
  have hu : u = .ref p := q1
  subst hu
  exact ⟨fTy c1 (.raw hM) q1, k H1 𝓗1 _ c1 fun v' 𝓗' z => z.up s1⟩
theorem rev_tr : ∀ {ts : List Tr} {ss : List Sl} {f : List Addr}, TrsR M ts ss f → f.Nodup → ∃ f', TrsR M ts.reverse ss.reverse f' ∧ f'.Nodup ∧ ∀ a, a ∈ f' ↔ a ∈ f
  | _, _, _, .nil, h => ⟨[], .nil, h, fun _ => Iff.rfl⟩
  | t :: ts, s :: ss, _, .cons (f := f) (g := g) a b, h => by
    obtain ⟨n1, n2, n3⟩ := List.nodup_append.mp h
    obtain ⟨f', m1, m2, m3⟩ := rev_tr b n2
    rw [List.reverse_cons, List.reverse_cons]
    refine ⟨f' ++ f, snoc_tr m1 a, List.nodup_append.mpr ⟨m2, n1, fun x hx y hy e => n3 y hy x ((m3 x).mp hx) e.symm⟩, fun x => ?_⟩
    rw [List.mem_append, List.mem_append, m3 x]
    exact Or.comm
theorem ss_rev {p : Pl} : SS P w K mg base ca (.rev p) where
  go := fun F st ρ M v X Po D kp ρ0 h hr he hk hx hD hw => by
    rw [mS] at h; unfold kMeth0 at h
    split at h
    rotate_left
    · cases h
    simp only [Bool.and_eq_true, decide_eq_true_eq] at h
    obtain ⟨⟨⟨rfl, h1⟩, h2⟩, h4⟩ := h
    obtain ⟨A, hA, hN⟩ := id he
    refine s_expr (ew_bm0W PySem.F.slot_list_reverse PySem.F.type_list_reverse (fun _ => mt_reverse) ((pl_ok p F _ ρ M v A X _ h4 hr hA hN hx hw).mono fun r M0 ⟨e1, pa, t, ⟨ts, w1, w2⟩, q1⟩ => ?_) (ab_of h1) h2) (fun j => sw_no rfl _ _ _)
    subst e1
    rw [q1.get] at w1
    cases w1
    obtain ⟨q, xs, rfl, hM, hl⟩ := pl_own q1
    refine ⟨q, xs, rfl, hM, fun H 𝓗 Q' c k => ?_⟩
    obtain ⟨_, _, ws, v1, v2⟩ := c.o q xs hM
    refine ⟨q, ws, rfl, rfl, v1, k _ _ ⟨H, _, .dat .non, c.wr hM (paired_rev v2), Same.refl H, (by show DA K H _ _; unfold DA; rfl), hD.nx ρ _ _ (pl_wr (f := []) q1 hM (fun _ _ => rfl) (fun f0 hs hn _ => .inr ?_) List.nodup_nil (fun _ z => nomatch z)) hk w2⟩⟩
    obtain ⟨n1, n2⟩ := List.nodup_cons.mp hn
    obtain ⟨f', m1, m2, m3⟩ := rev_tr (hs.frame (M' := oset M0 q xs.reverse) fun a ha => oset_ne fun z => n1 (by rw [← z]; exact ha)) n2
    exact ⟨f', m1, m2, fun a ha => (m3 a).mp ha⟩
theorem ss_clr {p : Pl} : SS P w K mg base ca (.clr p) where
  go := fun F st ρ M v X Po D kp ρ0 h hr he hk hx hD hw => by
    rw [mS] at h; unfold kMeth0 at h
    split at h
    rotate_left
    · cases h
    simp only [Bool.and_eq_true, decide_eq_true_eq] at h
    obtain ⟨⟨⟨rfl, h1⟩, h2⟩, h4⟩ := h
    obtain ⟨A, hA, hN⟩ := id he
    refine s_expr (ew_bm0W PySem.F.slot_list_clear PySem.F.type_list_clear (fun _ => mt_clear) ((pl_ok p F _ ρ M v A X _ h4 hr hA hN hx hw).mono fun r M0 ⟨e1, pa, t, ⟨ts, w1, w2⟩, q1⟩ => ?_) (ab_of h1) h2) (fun j => sw_no rfl _ _ _)
    subst e1
    rw [q1.get] at w1
    cases w1
    obtain ⟨q, xs, rfl, hM, hl⟩ := pl_own q1
    refine ⟨q, xs, rfl, hM, fun H 𝓗 Q' c k => ?_⟩
    obtain ⟨_, _, ws, v1, v2⟩ := c.o q xs hM
    exact ⟨q, ws, rfl, rfl, v1, k _ _ ⟨H, _, .dat .non, c.wr hM .nil, Same.refl H, (by show DA K H _ _; unfold DA; rfl), hD.nx ρ _ _ (pl_wr (f := []) q1 hM (fun _ _ => rfl) (fun f0 hs hn _ => .inr ⟨[], .nil, List.nodup_nil, fun _ z => nomatch z⟩) List.nodup_nil (fun _ z => nomatch z)) hk w2⟩⟩
theorem er_tr : ∀ {ts : List Tr} {ss : List Sl} {f : List Addr} {k : Nat}, TrsR M ts ss f → f.Nodup → ∃ f', TrsR M (ts.eraseIdx k) (ss.eraseIdx k) f' ∧ f'.Nodup ∧ ∀ a ∈ f', a ∈ f
  | _, _, _, _, .nil, h => ⟨[], .nil, h, fun _ z => z⟩
  | t :: ts, s :: ss, _, 0, .cons (f := f) (g := g) a b, h => ⟨g, b, (List.nodup_append.mp h).2.1, fun x hx => List.mem_append_right _ hx⟩
  | t :: ts, s :: ss, _, k + 1, .cons (f := f) (g := g) a b, h => by
    obtain ⟨n1, n2, n3⟩ := List.nodup_append.mp h
    obtain ⟨f', m1, m2, m3⟩ := er_tr (k := k) b n2
    exact ⟨f ++ f', .cons a m1, List.nodup_append.mpr ⟨n1, m2, fun x hx y hy e => n3 x hx y (m3 y hy) e⟩, fun x hx => (List.mem_append.mp hx).elim (fun z => List.mem_append_left _ z) fun z => List.mem_append_right _ (m3 x z)⟩
theorem ss_appPop {i j : Nat} : SS P w K mg base ca (.appPop i j e) where
  go := fun F st ρ M v X Po D kp ρ0 h hr he hk hx hD hw => by
    rw [mS, Bool.and_eq_true] at h
    obtain ⟨_, h⟩ := h
    unfold kMeth at h
    split at h
    rotate_left
    · cases h
    simp only [Bool.and_eq_true, decide_eq_true_eq] at h
    obtain ⟨⟨⟨⟨⟨rfl, h1⟩, h2⟩, h3⟩, h4⟩, h5⟩ := h
    unfold kPop at h5
    split at h5
    rotate_left
    · cases h5
    simp only [Bool.and_eq_true, decide_eq_true_eq] at h5
    obtain ⟨⟨⟨⟨⟨rfl, g1⟩, g2⟩, g3⟩, g4⟩, g5⟩ := h5
    obtain ⟨ts, w1, us, w2, w3⟩ := (show atO v [i] _ from hw)
    have w1 : v[i]? = some (.own ts) := w1
    have w2 : v[j]? = some (.own us) := w2
    obtain ⟨fpE, hE1, hE2⟩ := id he
    obtain ⟨s1, f1, a1, a2, _⟩ := hE1.get w1 (fun z => nomatch z)
    obtain ⟨s2, f2, b1, b2, _⟩ := hE1.get w2 (fun z => nomatch z)
    have ro : ∀ {x : Expr} {k : Nat} {s : Sl}, mE _ F.lv _ (.var k) x = true → ρ[k]? = some s → known s → ED F ρ M x s := fun {x k s} hm q hkn => by
      rw [mE] at hm; unfold hE_var at hm
      split at hm
      rotate_left
      · cases hm
      simp only [Bool.and_eq_true] at hm
      obtain ⟨n1, n2, _⟩ := nm_of hm.2
      exact ed_var (i := k) q hkn (of_decide_eq_true hm.1.1) (vis_of hm.1.2) n1 n2
    cases a2 with
    | @own p xs ts fp1 hp hs1 =>
    cases b2 with
    | @own q ys us fp2 hq hs2 =>
    refine s_expr (ew_appendW ((ro h4 a1 trivial).ew ⟨p, xs, rfl, hp, ew_bm1W PySem.F.slot_list_pop PySem.F.type_list_pop (fun _ => mt_popAt) ((ro g4 b1 trivial).ew ?_) (ab_of g1) (fw1_of g3) g2 (ns_of g3) (np_of rfl)⟩) (ab_of h1) (fw1_of h3) h2 (ns_of h3) (np_of rfl)) (fun j => sw_no rfl _ _ _)
    refine ⟨⟨ys, .raw hq⟩, ((allE e).ew F _ ρ M v X _ g5 hr he hx w3).mono fun s M2 ⟨e3, t, f, k1, _, k2⟩ H 𝓗 u u2 Q' c qu qv kk => ?_⟩
    subst e3
    obtain ⟨k, rfl, k0, z1, z2, hij, d, hd, fin⟩ := asI_of k1 k2
    have hu : u = .ref q := qu
    have hu2 : u2 = .int k := qv
    subst hu hu2
    obtain ⟨_, _, ws, v1, v2⟩ := c.o q ys hq
    have hlt : k.toNat < us.length := (List.getElem?_eq_some_iff.mp hd).1
    have hl1 := hs1.length
    have hl2 := hs2.length
    obtain ⟨sd, fd, hsd, rd⟩ := hs2.get hd
    cases rd
    obtain ⟨z, y1, y2⟩ := slget v2 hsd
    have hz := v2.length
    have nd2 := (hE1.sub w2 b1 (.own hq hs2)).nodup hE2
    obtain ⟨m1, m2⟩ := List.nodup_cons.mp nd2
    obtain ⟨f', c1, c2, c3⟩ := er_tr (k := k.toNat) (hs2.frame (M' := oset M2 q (ys.eraseIdx k.toNat)) fun a ha => oset_ne fun z => m1 (by rw [← z]; exact ha)) m2
    have hpq : p ≠ q := fun z => hE1.apart hE2 hij w1 a1 (.own hp hs1) w2 b1 (.own hq hs2) p List.mem_cons_self (by rw [z]; exact List.mem_cons_self)
    obtain ⟨f3, d1, d2, _⟩ := EnvR.mod (M' := oset M2 q (ys.eraseIdx k.toNat)) (t' := .own (us.eraseIdx k.toNat)) (g' := q :: f') (.own oset_same c1) (List.nodup_cons.mpr ⟨fun z => m1 (c3 q z), c2⟩) hE1 (fun a ha => (List.mem_cons.mp ha).elim (fun z => .inl (by rw [z]; exact List.mem_cons_self)) fun z => .inl (List.mem_cons_of_mem _ (c3 a z))) (fun a _ ha => oset_ne fun z => ha (by rw [z]; exact List.mem_cons_self)) hE2 w2 b1 (.own hq hs2)
    have hp3 : oset M2 q (ys.eraseIdx k.toNat) p = some xs := by rw [oset_ne hpq]; exact hp
    refine ⟨q, ws, k, k.toNat, z, rfl, rfl, v1, by omega, by omega, ?_, y1, kk _ _ ⟨H, _, .dat d, c.wr hq (paired_erase k.toNat v2), Same.refl H, y2, xs, hp3, by omega, ?_⟩⟩
    · have e0 : k = ((k.toNat : Nat) : Int) := (Int.toNat_of_nonneg k0).symm
      rw [e0]
      exact (ixN_seq (n := ws.length) (i := ((k.toNat : Nat) : Int)) (by unfold ixN; rw [if_pos (by omega), if_pos (by omega)] <;> rfl)).1
    · have w1' : (v.set j (.own (us.eraseIdx k.toNat)))[i]? = some (.own ts) := by rw [List.getElem?_set_ne (fun z => hij z.symm)]; exact w1
      obtain ⟨s4, q3, q4⟩ := pl_var d1 d2 w1' (fun z => nomatch z)
      rw [a1] at q3
      cases q3
      exact hD.nx ρ _ _ (pl_wr (f := []) q4 hp3 (fun _ _ => rfl) (fun f0 hs hn _ => .inl (snoc_tr (hs.frame fun a ha => oset_ne fun z => (List.nodup_cons.mp hn).1 (by rw [← z]; exact ha)) .dat)) List.nodup_nil (fun _ z => nomatch z)) hk fin
end
end DD
namespace DD
open PySem PySem.Spec PyProof.Rows L2 DL
section
variable {P : Program} {w : World} {K : PySem.W.Frag} {mg : Str → Option Value} {base : Heap} {N : List Str} {sc : Scope} {F : Fm P w K mg base N sc} {ca : Str → Addr}
variable {ρ : Rho} {M : OH} {v : Env} {x y z : Expr} {pos : Pos} {r r1 r2 : Sl} {e a b c : E}
/-! ### p[k] = .. -/
/-- what a list is when an item is put -/
theorem set_tr {M' : OH} {t' : Tr} {s' : Sl} {g' : List Addr} (k1 : TrR M' t' s' g') (n2 : g'.Nodup) : ∀ {ts : List Tr} {ss : List Sl} {f : List Addr} {k : Nat}, TrsR M ts ss f → (∀ a ∈ g', a ∉ f) → (∀ a ∈ f, M' a = M a) → f.Nodup → k < ts.length → ∃ f', TrsR M' (ts.set k t') (ss.set k s') f' ∧ f'.Nodup ∧ ∀ a ∈ f', a ∈ f ∨ a ∈ g'
  | [], _, _, _, _, _, _, _, h => absurd h (Nat.not_lt_zero _)
  | t :: ts, _, _, 0, .cons (f := f1) (g := f2) a b, fr, hk, hn, _ => by
    obtain ⟨n3, n4, n5⟩ := List.nodup_append.mp hn
    refine ⟨g' ++ f2, .cons k1 (b.frame fun x hx => hk x (List.mem_append_right _ hx)), List.nodup_append.mpr ⟨n2, n4, fun x hx y hy e => ?_⟩, fun x hx => ?_⟩
    · subst e; exact fr x hx (List.mem_append_right _ hy)
    · rcases List.mem_append.mp hx with z | z
      · exact .inr z
      · exact .inl (List.mem_append_right _ z)
  | t :: ts, _, _, k + 1, .cons (f := f1) (g := f2) a b, fr, hk, hn, h => by
    obtain ⟨n3, n4, n5⟩ := List.nodup_append.mp hn
    obtain ⟨f', m1, m2, m3⟩ := set_tr k1 n2 (k := k) b (fun x hx z => fr x hx (List.mem_append_right _ z)) (fun x hx => hk x (List.mem_append_right _ hx)) n4 (by simpa using h)
    refine ⟨f1 ++ f', .cons (a.frame fun x hx => hk x (List.mem_append_left _ hx)) m1, List.nodup_append.mpr ⟨n3, m2, fun x hx y hy e => ?_⟩, fun x hx => ?_⟩
    · subst e
      rcases m3 x hy with z | z
      · exact n5 x hx x z rfl
      · exact fr x z (List.mem_append_left _ hx)
    · rcases List.mem_append.mp hx with z | z
      · exact .inl (List.mem_append_left _ z)
      · exact (m3 x z).elim (fun y => .inl (List.mem_append_right _ y)) .inr
theorem pl_put {pa : List Nat} {A : List Addr} {p : Addr} {ts : List Tr} {xs : List Sl} {t : Tr} {s : Sl} {f : List Addr} {k : Nat} (h : PlR M v ρ A pa (.raw (.ref p)) (.own ts)) (hM : M p = some xs) (r : TrR M t s f) (hf : f.Nodup) (hfr : ∀ a ∈ f, a ∉ A) (hk : k < ts.length) : EV (oset M p (xs.set k s)) (putT v pa (.own (ts.set k t))) ρ := by
  obtain ⟨g0, q, n, sA, up⟩ := h.up
  cases q with
  | @own p xs' ts fp e hs =>
    rw [hM] at e
    cases e
    obtain ⟨n1, n2⟩ := List.nodup_cons.mp n
    have pA : p ∈ A := sA p List.mem_cons_self
    have hpf : p ∉ f := fun z => hfr p z pA
    obtain ⟨f', m1, m2, m3⟩ := set_tr (M' := oset M p (xs.set k s)) (r.frame fun a ha => oset_ne fun z => hpf (by rw [← z]; exact ha)) hf hs (fun a ha z => hfr a ha (sA a (List.mem_cons_of_mem _ z))) (fun a ha => oset_ne fun z => n1 (by rw [← z]; exact ha)) n2 hk
    refine up _ _ (p :: f') (.own oset_same m1) (List.nodup_cons.mpr ⟨fun z => (m3 p z).elim n1 hpf, m2⟩) (fun a ha => ?_) fun a ha hMa => oset_ne fun z => hMa (by rw [z]; exact List.mem_cons_self)
    rcases List.mem_cons.mp ha with z | z
    · subst z; exact .inl List.mem_cons_self
    · exact (m3 a z).elim (fun y => .inl (List.mem_cons_of_mem _ y)) fun y => .inr (hfr a y)
theorem sw_sole {tg : Expr} {l : Nat} {env : PySem.Env} (h : nlc x = true) : swapsWithSole [tg] x l env = pure false := by
  rw [swapsWithSole]
  exact sw_no h _ _ _
theorem asg_sub {o y : Expr} {p2 : Pos} (h : pixB y = true) (j : F.ι) (u : Value) : assign (.Subscript o y p2) (F.X j).env u = (do
    let ov ← holding [u] (eval o (F.X j).env)
    let iv ← holding [u, ov] (eval y (F.X j).env)
    standAt p2
    holding [u, ov, iv] (setItem ov iv u)
    release [u, ov, iv] []) := by cases y <;> first | rfl | cases h
theorem ixN_nat {n : Nat} {k : Int} (h0 : 0 ≤ k) (h1 : k < (n : Int)) : ixN n k = some k.toNat := by
  unfold ixN
  rw [if_pos h0, if_pos h1]
theorem ss_put {p : Pl} {i : It} : SS P w K mg base ca (.put p e i) where
  go := fun F st ρ M v X Po D kp ρ0 h hr he hk hx hD hw => by
    rw [mS] at h; unfold kPut at h
    split at h
    rotate_left
    · cases h
    simp only [Bool.and_eq_true] at h
    obtain ⟨⟨⟨⟨h0, h1⟩, h2⟩, h3⟩, h4⟩ := h
    refine .mk fun H 𝓗 σ c hE => ?_
    refine uS.by (t := tAsg (uE F _) (gSub (uE F _) (uE F _) rSetL)) (fun j => ps_asg (pe_u j) (pg_sub (pe_u j) (pe_u j) set_list (asg_sub h0 j)) (sw_sole h1) (st_no (tg := .Subscript _ _ _) (by unfold ntT; exact Bool.or_true _) _) rfl) ((((allI i).ew F _ ρ M v X _ h4 hr.2.2 he hx hw).run H 𝓗 σ c hE).mono fun u 𝓗1 ⟨H1, M1, s, c1, s1, q1, t, f, g, k1, k2, k3, w1⟩ => ?_)
    obtain ⟨A, hA0, hN⟩ := id he
    have hA : EnvR M1 v ρ A := hA0.frame fun a ha => g a (hA0.dom a ha)
    refine ((pl_ok p F _ ρ M1 v A X _ h2 hr.1 hA hN hx w1).run H1 𝓗1 σ c1 (hE.mono s1)).mono fun ov 𝓗2 ⟨H2, M2, r2, c2, s2, q2, e1, pa, tp, w2, pl⟩ => ?_
    subst e1
    refine (((allE e).ew F _ ρ M2 v X _ h3 hr.2.1 ⟨A, hA, hN⟩ hx w2).run H2 𝓗2 σ c2 (hE.mono (s1.trans s2))).mono fun iv 𝓗3 ⟨H3, M3, r3, c3, s3, q3, e2, t3, f3, q4, _, w3⟩ => ?_
    subst e2
    obtain ⟨k, rfl, ts, z1, z2, z3, w4⟩ := asI_of q4 w3
    rw [pl.get] at z1
    cases z1
    obtain ⟨pp, xs, rfl, hM, hl⟩ := pl_own pl
    have hov : ov = .ref pp := q2
    have hiv : iv = .int k := q3
    subst hov hiv
    obtain ⟨_, _, ws, v1, v2⟩ := c3.o pp xs hM
    have hws := v2.length
    refine ⟨pp, ws, k, k.toNat, rfl, rfl, v1, ixN_nat z2 (by omega), ρ, _, H3, c3.wr hM (paired_set (SlOk.mono (s2.trans s3) q1) k.toNat v2), (s1.trans s2).trans s3, hE.mono ((s1.trans s2).trans s3), hD.nx ρ _ _ (pl_put pl hM k1 k2 (fun a ha z => hA0.dom a z (k3 a ha)) (by omega)) hk w4⟩
/-! p[k] += a -/
def rGetN (K : PySem.W.Frag) : V → V → Hp → VK → Prop := fun o i H Q => ∃ p xs k u, o = .ref p ∧ i = .int k ∧ 0 ≤ k ∧ SqL K H p xs ∧ xs[k.toNat]? = some u ∧ Q u H
theorem fGetL (i : F.ι) : PGet (F.X i) (rGetN K) := by
  intro pins s σ H o iv ov iv' Q I ro ri ⟨p, xs, k, u, e1, e2, k0, hq, he, q⟩
  subst e1 e2
  cases ro
  obtain ⟨t, rfl⟩ := ri
  rw [← F.eK i] at hq
  obtain ⟨its, r, pl, hz⟩ := I.list hq
  obtain ⟨w, w1, w2⟩ := r.get he
  have hk := (List.getElem?_eq_some_iff.mp he).1
  have h63 := line63
  exact getItem_listL pl.isList k0 (by omega) w1 ⟨u, H, I, w2, q⟩
theorem ss_augPut {p : Pl} {a : E} : SS P w K mg base ca (.augPut p e a) where
  go := fun F st ρ M v X Po D kp ρ0 h hr he hk hx hD hw => by
    rw [mS] at h; unfold kAugPut at h
    split at h
    rotate_left
    · cases h
    rename_i o y p2 x p3
    simp only [Bool.and_eq_true] at h
    obtain ⟨⟨⟨h0, h2⟩, h3⟩, h4⟩ := h
    refine .mk fun H 𝓗 σ c hE => ?_
    have hst : ∀ ov iv new, augStore y ov iv new = (do holding [new, ov, iv] (setItem ov iv new); release [new, ov, iv] []; pure .next) := fun ov iv new => by cases y <;> first | rfl | cases h0
    refine uS.by (t := tAugS (uE F o) (uE F y) (uE F x) (rGetN K) (ipI fun i j => i + j) rSetL) (fun j => ps_augS (pe_u j) (pe_u j) (fGetL j) (pe_u j) ip_add set_list hst) ?_
    obtain ⟨A, hA, hN⟩ := id he
    refine ((pl_ok p F _ ρ M v A X _ h2 hr.1 hA hN hx hw).run H 𝓗 σ c hE).mono fun ov 𝓗2 ⟨H2, M2, r2, c2, s2, q2, e1, pa, tp, w2, pl⟩ => ?_
    subst e1
    refine (((allE e).ew F _ ρ M2 v X _ h3 hr.2.1 he hx w2).run H2 𝓗2 σ c2 (hE.mono s2)).mono fun iv 𝓗3 ⟨H3, M3, r3, c3, s3, q3, e2, t3, f3, q4, _, w3⟩ => ?_
    subst e2
    obtain ⟨k, rfl, ts, z1, z2, m, z3, w4⟩ := asI_of q4 w3
    rw [pl.get] at z1
    cases z1
    obtain ⟨pp, xs, rfl, hM, hl⟩ := pl_own pl
    have hov : ov = .ref pp := q2
    have hiv : iv = .int k := q3
    subst hov hiv
    obtain ⟨_, _, ws, v1, v2⟩ := c3.o pp xs hM
    have hlt := (List.getElem?_eq_some_iff.mp z3).1
    have hws := v2.length
    obtain ⟨sx, hsx⟩ : ∃ sx, xs[k.toNat]? = some sx := ⟨_, List.getElem?_eq_getElem (by omega)⟩
    have hsm : sx = .dat (.int m) := by
      obtain ⟨g0, q5, _⟩ := pl.up
      cases q5 with
      | own e0 hs =>
        rw [hM] at e0
        cases e0
        obtain ⟨s', _, e5, e6⟩ := hs.get z3
        rw [hsx] at e5
        cases e5
        cases e6
        rfl
    subst hsm
    obtain ⟨zv, y1, y2⟩ := slget v2 hsx
    have hzv : zv = .int m := y2
    subst hzv
    refine ⟨pp, ws, k, .int m, rfl, rfl, z2, SqL.of v1, y1, ?_⟩
    refine (((allE a).ew F _ ρ M3 v X _ h4 hr.2.2 he hx w4).run H3 𝓗3 σ c3 (hE.mono (s2.trans s3))).mono fun xv 𝓗4 ⟨H4, M4, r4, c4, s4, q6, e4, t4, f4, q7, _, w5⟩ => ?_
    subst e4
    obtain ⟨n, rfl, w6⟩ := asI_of q7 w5
    obtain ⟨_, _, ws2, v3, v4⟩ := c4.o pp xs hM
    have hws2 := v4.length
    exact ⟨m, n, rfl, q6, pp, ws2, k, k.toNat, rfl, rfl, v3, ixN_nat z2 (by omega), ρ, _, H4, c4.wr hM (paired_set (show SlOk K H4 (.int (m + n)) (.dat (.int (m + n))) from by show DA K H4 _ _; unfold DA; rfl) k.toNat v4), (s2.trans s3).trans s4, hE.mono ((s2.trans s3).trans s4), hD.nx ρ _ _ (pl_put pl hM .dat List.nodup_nil (fun _ z => nomatch z) hlt) hk w6⟩
theorem ss_expr : SS P w K mg base ca (.expr e) where
  go := fun F st ρ M v X Po D kp ρ0 h hr he hk hx hD hw => by
    rw [mS] at h; unfold kExpr at h
    split at h
    rotate_left
    · cases h
    simp only [Bool.and_eq_true] at h
    exact s_expr (((allE e).ew F _ ρ M v X _ h.2 hr he hx hw).mono fun r M1 ⟨e1, t, f, q1, _, q2⟩ => by subst e1; exact hD.nx ρ M1 v he hk q2) (fun j => sw_no h.1 _ _ _)
theorem ss_ite {a b : Ss} (ha : SSs P w K mg base ca a) (hb : SSs P w K mg base ca b) : SS P w K mg base ca (.ite e a b) where
  go := fun F st ρ M v X Po D kp ρ0 h hr he hk hx hD hw => by
    rw [mS] at h; unfold kIte at h
    split at h
    rotate_left
    · cases h
    simp only [Bool.and_eq_true] at h
    obtain ⟨⟨h1, h2⟩, h3⟩ := h
    refine s_ifW (((allE e).tw F _ ρ M v X _ h1 hr.1 he hx hw).mono fun k M1 ⟨e1, w1⟩ => ?_)
    subst e1
    cases k with
    | true => exact ha.go F _ ρ M1 v X Po D kp ρ0 h2 hr.2.1 he hk hx hD (w1.1 rfl)
    | false => exact hb.go F _ ρ M1 v X Po D kp ρ0 h3 hr.2.2 he hk hx hD (w1.2 rfl)
theorem ss_whl {b : Ss} (hb : SSs P w K mg base ca b) : SS P w K mg base ca (.whl e b) where
  go := fun F st ρ M v X Po D kp ρ0 h hr he hk hx hD hw => by
    rw [mS] at h; unfold kWhl at h
    split at h
    rotate_left
    · cases h
    simp only [Bool.and_eq_true] at h
    obtain ⟨h1, h2⟩ := h
    obtain ⟨W, m0, hw0, hws⟩ := hw
    refine s_while (fun m ρ M => ∃ u, EV M u ρ ∧ Kp kp ρ0 ρ ∧ W m u) m0 ⟨v, he, hk, hw0⟩ fun m ρ' M' ⟨u, he', hk', w1⟩ => ?_
    refine ((allE e).tw F _ ρ' M' u X _ h1 hr.1 he' hx (hws m u w1)).mono fun k M1 ⟨e1, w2⟩ => ?_
    subst e1
    cases k with
    | false => exact hD.nx ρ' M1 u he' hk' (w2.2 rfl)
    | true =>
      refine hb.go F _ ρ' M1 u X { nx := fun u' => ∃ m', m' < m ∧ W m' u', ct := fun u' => ∃ m', m' < m ∧ W m' u', bk := Po.nx, rt := Po.rt } _ kp ρ0 h2 hr.2 he' hk' hx ⟨fun ρ2 M2 u2 a1 a2 ⟨m', l, a3⟩ => ⟨m', l, u2, a1, a2, a3⟩, hD.rt, fun ρ2 M2 u2 a1 a2 a3 => hD.nx ρ2 M2 u2 a1 a2 a3, fun ρ2 M2 u2 a1 a2 ⟨m', l, a3⟩ => ⟨m', l, u2, a1, a2, a3⟩, hD.fc, hD.fs⟩ (w2.1 rfl)
theorem ss_for {p : Pt} {s : Src} {b : Ss} (hb : SSs P w K mg base ca b) : SS P w K mg base ca (.for p s b) where
  go := fun F st ρ M v X Po D kp ρ0 h hr he hk hx hD hw => by
    rw [mS] at h; unfold kFor at h
    split at h
    rotate_left
    · cases h
    rename_i tg x sts pos
    simp only [Bool.and_eq_true] at h
    obtain ⟨⟨⟨⟨h0, h1⟩, h2⟩, h3⟩, h4⟩ := h
    obtain ⟨ti, t1, t2⟩ := (allR s).go F tg x ρ M v X _ h3 hr.1 he hx hw
    refine .mk fun H 𝓗 σ c hE => ?_
    refine uS.by (fun j => ps_for (F.po j) (F.hc j) (t1 j) (pat_pg (lp_c hD.fc) p tg h1 j) (pss_u j) (nset_of h0 _)) (t2 H 𝓗 σ c hE _ fun J H1 𝓗1 ds c1 s1 ⟨I, i0, i1, i2⟩ dw => ?_)
    obtain ⟨G, Y, w1, w2, w3⟩ := dw.w
    refine for_it w1 (fun k σ' 𝓗' => ∃ ρ' M' u H', St3 F M' H' 𝓗' ∧ Same H1 H' ∧ EnvOk K H' σ' ρ' ∧ EV M' u ρ' ∧ Kp kp ρ0 ρ' ∧ I k u) ⟨ρ, M, v, H1, c1, Same.refl _, hE.mono s1, he, hk, i0⟩ ?_ ?_ ?_
    · rintro k σ' 𝓗' hk' ⟨ρ', M', u, H', c', s', _⟩
      exact w2 𝓗' (s'.trans c'.u)
    · rintro k y σ' 𝓗' 𝓗2 hk' ⟨ρ', M', u, H', c', s', hE', he', hkp, hI⟩ hy
      obtain ⟨H2, d, c2, s2, d1, d2⟩ := w3 _ _ _ _ _ _ _ _ hk' c' s' hy
      refine pat_go p d u _ ρ' M' H2 𝓗2 σ' y _ (i1 k d u d1 hI) c2 (hE'.mono s2) he' d2 fun σ3 ρ3 u3 hE3 he3 q3 ap => ?_
      have hkp3 : Kp kp ρ0 ρ3 := fun i hi => by rw [ap.r i (fun z => all_kp h2 i z hi)]; exact hkp i hi
      have body := hb.go F _ ρ3 M' u3 X { nx := I (k + 1), ct := I (k + 1), bk := Po.nx, rt := Po.rt } { nx := fun ρ M => ∃ u, EV M u ρ ∧ Kp kp ρ0 ρ ∧ I (k + 1) u, ct := fun ρ M => ∃ u, EV M u ρ ∧ Kp kp ρ0 ρ ∧ I (k + 1) u, bk := D.nx, rt := D.rt } kp ρ0 h4 hr.2 he3 hkp3 hx ⟨fun ρ2 M2 u2 a1 a2 a3 => ⟨u2, a1, a2, a3⟩, hD.rt, hD.nx, fun ρ2 M2 u2 a1 a2 a3 => ⟨u2, a1, a2, a3⟩, hD.fc, hD.fs⟩ q3
      refine (body.run H2 𝓗2 σ3 c2 hE3).mono ⟨?_, fun _ _ q => q, ?_, ?_⟩
      · rintro σ4 𝓗4 ⟨ρ4, M4, H4, c4, s4, hE4, u4, b1, b2, b3⟩
        exact ⟨ρ4, M4, u4, H4, c4, (s'.trans s2).trans s4, hE4, b1, b2, b3⟩
      · rintro σ4 𝓗4 ⟨ρ4, M4, H4, c4, s4, hE4, q⟩
        exact ⟨ρ4, M4, H4, c4, ((s1.trans s').trans s2).trans s4, hE4, q⟩
      · rintro σ4 𝓗4 ⟨ρ4, M4, H4, c4, s4, hE4, u4, b1, b2, b3⟩
        exact ⟨ρ4, M4, u4, H4, c4, (s'.trans s2).trans s4, hE4, b1, b2, b3⟩
    · rintro σ' 𝓗' ⟨ρ', M', u, H', c', s', hE', he', hkp, hI⟩
      exact ⟨ρ', M', H', c', s1.trans s', hE', hD.nx ρ' M' u he' hkp (i2 u hI)⟩
end
end DD
namespace DD
open PySem PySem.Spec PyProof.Rows L2 DL
section
variable {P : Program} {w : World} {K : PySem.W.Frag} {mg : Str → Option Value} {base : Heap} {N : List Str} {sc : Scope}
/-- the contexts of a try's body -/
def _root_.DL.Fm.tr (F : Fm P w K mg base N sc) (H : Hp) (ex' : Addr → Rho → OH → Prop) : Fm P w K mg base N sc where
  ι := { z : F.ι × List (Addr × Obj) × (Value → Shared → Prop) // Takes ((F.X z.1).tr z.2.1 z.2.2) (mkW K F.B0 H ex') ∧ PassesOwn (model (F.X z.1).prog (F.X z.1).w) (F.X z.1).A (F.X z.1).env z.2.2 }
  X := fun z => (F.X z.1.1).tr z.1.2.1 z.1.2.2
  eP := fun z => F.eP z.1.1
  ew := fun z => F.ew z.1.1
  eK := fun z => F.eK z.1.1
  eg := fun z => F.eg z.1.1
  eb := fun z => F.eb z.1.1
  eN := fun z => F.eN z.1.1
  es := fun z => F.es z.1.1
  nd := F.nd
  lv := F.lv
  hr := fun z => F.hr z.1.1
  hc := fun z => F.hc z.1.1
  po := fun z => z.2.2
  B0 := F.B0
  H0 := H
  ex := ex'
  tk := fun z => z.2.1
variable {F : Fm P w K mg base N sc} {ρ : Rho} {M : OH} {D : DE}
theorem cxt_in {B0 H0 H 𝓗 : Hp} (c : Cxt K B0 H0 M H 𝓗) : Cxt K B0 H M H 𝓗 := ⟨Same.refl H, c.u, c.b, fun a q => .inl q, c.o⟩
theorem cxt_up {B0 H0 H 𝓗 H' 𝓗' : Hp} {M' : OH} (c : Cxt K B0 H0 M H 𝓗) (c' : Cxt K B0 H M' H' 𝓗') : Cxt K B0 H0 M' H' 𝓗' := ⟨c.f.trans c'.f, c'.u, c'.b, fun a q => (c'.n a q).elim (c.n a) .inr, c'.o⟩
/-- try: a body, clauses without names -/
theorem s_try {body : List Stmt} {h₀ : ExceptHandler} {hds : List ExceptHandler} {pos : Pos} {l : List (Value × (Addr → Value → Option Addr → TS))} (hf : ∀ i, (F.X i).stack = (F.X i).env :: (F.X i).outer ∧ (F.X i).env.frame = some (F.X i).env.locals)
    (hh : ∀ i, HdsOk (F.X i) (h₀ :: hds) l)
    (hb : ∀ H 𝓗, St3 F M H 𝓗 → SX (F.tr H fun C ρ' M' => ∀ H1 𝓗1 σ1, Cxt K F.B0 H M' H1 𝓗1 → EnvOk K H1 σ1 ρ' → wMany K (mkW K F.B0 F.H0 F.ex) (rawD F H D) l (.ref C) none σ1 𝓗1) ρ M body D) :
    S1 F ρ M (.Try body (h₀ :: hds) [] [] pos) D := .mk fun H 𝓗 σ c hE => by
  refine uS.by (t := fun D σ 𝓗 => ∃ H ex', (∀ cls d σ 𝓗, mkW K F.B0 H ex' cls d σ 𝓗 → wMany K (mkW K F.B0 F.H0 F.ex) D l cls d σ 𝓗) ∧ uSs (F.tr H ex') body D σ 𝓗) (fun j => ?_) ⟨H, fun C ρ' M' => ∀ H1 𝓗1 σ1, Cxt K F.B0 H M' H1 𝓗1 → EnvOk K H1 σ1 ρ' → wMany K (mkW K F.B0 F.H0 F.ex) (rawD F H D) l (.ref C) none σ1 𝓗1, ?_, ?_⟩
  · have q := ps_try_many (X := F.X j) (h₀ := h₀) (hds := hds) (l := l) (pos := pos) (body := body) (tb := fun W D σ 𝓗 => ∃ H ex', (∀ cls d σ 𝓗, mkW K F.B0 H ex' cls d σ 𝓗 → W cls d σ 𝓗) ∧ uSs (F.tr H ex') body D σ 𝓗) (hf j).1 (hf j).2 (F.tk j) (fun W pn xe tk po => ⟨fun pins s σ 𝓗 D I ⟨H0, ex', imp, u⟩ => (pss_u (F := F.tr H0 ex') ⟨(j, pn, xe), tk.imp imp, po⟩).run pins s σ 𝓗 D I u⟩) (hh j)
    rw [F.eK j] at q
    exact q
  · rintro cls d σ1 𝓗1 ⟨C, ρ1, M1, H1, rfl, rfl, c1, e1, q⟩
    exact q H1 𝓗1 σ1 c1 e1
  · refine ((hb H 𝓗 c).run H 𝓗 σ (cxt_in c) hE).mono ⟨?_, ?_, ?_, ?_⟩
    · rintro σ1 𝓗1 ⟨ρ1, M1, H1, c1, s1, e1, q⟩
      exact ⟨ρ1, M1, H1, cxt_up c c1, s1, e1, q⟩
    · rintro u 𝓗1 ⟨r, M1, H1, c1, ok, q⟩
      exact ⟨r, M1, H1, cxt_up c c1, ok, q⟩
    · rintro σ1 𝓗1 ⟨ρ1, M1, H1, c1, s1, e1, q⟩
      exact ⟨ρ1, M1, H1, cxt_up c c1, s1, e1, q⟩
    · rintro σ1 𝓗1 ⟨ρ1, M1, H1, c1, s1, e1, q⟩
      exact ⟨ρ1, M1, H1, cxt_up c c1, s1, e1, q⟩
end
end DD
namespace DD
open PySem PySem.Spec PyProof.Rows L2 DL
section
variable {P : Program} {w : World} {K : PySem.W.Frag} {mg : Str → Option Value} {base : Heap} {N : List Str} {sc : Scope}
variable {F : Fm P w K mg base N sc} {ρ : Rho} {M : OH} {D : DE}
/-- try: a body, one clause with a name -/
theorem s_tryAs {body suite : List Stmt} {b₀ : Stmt} {x n : Str} {c : Value} {i : Nat} {np pos pos' : Pos} {ts : Addr → Value → Option Addr → TS} (hf : ∀ i, (F.X i).stack = (F.X i).env :: (F.X i).outer ∧ (F.X i).env.frame = some (F.X i).env.locals)
    (hi : N[i]? = some n) (hl : sc.names.lookup n = some .local) (hc : ∀ j, Names (F.X j) x c)
    (hsu : ∀ j (a : Addr) (oe : Obj) (cls : Value) (d : Option Addr) (pn : List (Addr × Obj)), Zc cls d oe → (∃ vs, oe.data = .fields vs) → PSs ((F.X j).suite a ((a, oe) :: pn)) (b₀ :: suite) (ts a cls d))
    (hb : ∀ H 𝓗, St3 F M H 𝓗 → SX (F.tr H fun C ρ' M' => ∀ H1 𝓗1 σ1, Cxt K F.B0 H M' H1 𝓗1 → EnvOk K H1 σ1 ρ' → wAs K c i ts (mkW K F.B0 F.H0 F.ex) (rawD F H D) (.ref C) none σ1 𝓗1) ρ M body D) :
    S1 F ρ M (.Try body [.ExceptHandler (some (.Name x np)) (some n) (b₀ :: suite) pos'] [] [] pos) D := .mk fun H 𝓗 σ c1 hE => by
  refine uS.by (t := fun D σ 𝓗 => ∃ H ex', (∀ cls d σ 𝓗, mkW K F.B0 H ex' cls d σ 𝓗 → wAs K c i ts (mkW K F.B0 F.H0 F.ex) D cls d σ 𝓗) ∧ uSs (F.tr H ex') body D σ 𝓗) (fun j => ?_) ⟨H, fun C ρ' M' => ∀ H1 𝓗1 σ1, Cxt K F.B0 H M' H1 𝓗1 → EnvOk K H1 σ1 ρ' → wAs K c i ts (mkW K F.B0 F.H0 F.ex) (rawD F H D) (.ref C) none σ1 𝓗1, ?_, ?_⟩
  · have q := ps_try_as (X := F.X j) (i := i) (n := n) (x := x) (c := c) (np := np) (pos' := pos') (pos := pos) (body := body) (ts := ts) (tb := fun W D σ 𝓗 => ∃ H ex', (∀ cls d σ 𝓗, mkW K F.B0 H ex' cls d σ 𝓗 → W cls d σ 𝓗) ∧ uSs (F.tr H ex') body D σ 𝓗) (hf j).1 (hf j).2 (by rw [F.eN j]; exact F.nd) (by rw [F.eN j]; exact hi) (by show (F.X j).env.scope.names.lookup n = _; rw [F.es j]; exact hl) (hc j) (F.tk j) (fun W pn xe tk po => ⟨fun pins s σ 𝓗 D I ⟨H0, ex', imp, u⟩ => (pss_u (F := F.tr H0 ex') ⟨(j, pn, xe), tk.imp imp, po⟩).run pins s σ 𝓗 D I u⟩) (hsu j)
    rw [F.eK j] at q
    exact q
  · rintro cls d σ1 𝓗1 ⟨C, ρ1, M1, H1, rfl, rfl, c2, e1, q⟩
    exact q H1 𝓗1 σ1 c2 e1
  · refine ((hb H 𝓗 c1).run H 𝓗 σ (cxt_in c1) hE).mono ⟨?_, ?_, ?_, ?_⟩
    · rintro σ1 𝓗1 ⟨ρ1, M1, H1, c2, s1, e1, q⟩
      exact ⟨ρ1, M1, H1, cxt_up c1 c2, s1, e1, q⟩
    · rintro u 𝓗1 ⟨r, M1, H1, c2, ok, q⟩
      exact ⟨r, M1, H1, cxt_up c1 c2, ok, q⟩
    · rintro σ1 𝓗1 ⟨ρ1, M1, H1, c2, s1, e1, q⟩
      exact ⟨ρ1, M1, H1, cxt_up c1 c2, s1, e1, q⟩
    · rintro σ1 𝓗1 ⟨ρ1, M1, H1, c2, s1, e1, q⟩
      exact ⟨ρ1, M1, H1, cxt_up c1 c2, s1, e1, q⟩
end
end DD
namespace DD
open PySem PySem.Spec PyProof.Rows L2 DL
section
variable {P : Program} {w : World} {K : PySem.W.Frag} {mg : Str → Option Value} {base : Heap} {N : List Str} {sc : Scope} {F : Fm P w K mg base N sc} {ca : Str → Addr}
variable {ρ : Rho} {M : OH} {v : Env} {x y z : Expr} {pos : Pos} {r r1 r2 : Sl} {e a b c : E}
/-! ### ends -/
theorem ss_ret : SS P w K mg base ca (.ret e) where
  go := fun F st ρ M v X Po D kp ρ0 h hr he hk hx hD hw => by
    rw [mS] at h; unfold kRet at h
    split at h
    rotate_left
    · cases h
    refine s_ret0 (((allE e).ew F _ ρ M v X _ h hr he hx hw).mono fun r M1 ⟨e1, t, f, q1, _, q2⟩ => ?_)
    subst e1
    obtain ⟨d, e2, e3, q3⟩ := asD_of q1 q2
    subst e2
    obtain ⟨A, a1, a2⟩ := he
    obtain ⟨M', b1, b2⟩ := hD.rt (.dat d) M1 (.dat d) [] v ρ A .dat a1 (by simpa using a2) hk q3
    exact ⟨M', b1, by first | exact b2 | (rw [e3]; exact b2)⟩
theorem ss_retN {n : Nw} : SS P w K mg base ca (.retN n) where
  go := fun F st ρ M v X Po D kp ρ0 h hr he hk hx hD hw => by
    rw [mS] at h; unfold kRet at h
    split at h
    rotate_left
    · cases h
    refine s_ret0 (((allN n).ew F _ ρ M v X _ h hr he hx hw).mono fun r M1 ⟨ts, f, g, q1, q2, q3, q4⟩ => ?_)
    obtain ⟨A, a1, a2⟩ := he
    exact hD.rt r M1 (.own ts) f v ρ A q1 (a1.frame fun a ha => g a (a1.dom a ha)) (List.nodup_append.mpr ⟨q2, a2, fun x hx y hy e => a1.dom y hy (e ▸ q3 x hx)⟩) hk q4
theorem ss_ret0 : SS P w K mg base ca .ret0 where
  go := fun F st ρ M v X Po D kp ρ0 h hr he hk hx hD hw => by
    rw [mS] at h; unfold kRet0 at h
    split at h
    rotate_left
    · cases h
    obtain ⟨A, a1, a2⟩ := he
    obtain ⟨M', b1, b2⟩ := hD.rt (.dat .non) M (.dat .non) [] v ρ A .dat a1 (by simpa using a2) hk hw
    exact .mk fun H 𝓗 σ c hE => uS.by (fun j => ps_retN) ⟨.dat .non, M', H, c.less b1, rfl, b2⟩
theorem ss_pas : SS P w K mg base ca .pas where
  go := fun F st ρ M v X Po D kp ρ0 h hr he hk hx hD hw => by
    rw [mS] at h; unfold kPas at h
    split at h
    rotate_left
    · cases h
    exact s_pass (hD.nx ρ M v he hk hw)
theorem ss_brk : SS P w K mg base ca .brk where
  go := fun F st ρ M v X Po D kp ρ0 h hr he hk hx hD hw => by
    rw [mS] at h; unfold kBrk at h
    split at h
    rotate_left
    · cases h
    exact s_break (hD.bk ρ M v he hk hw)
theorem ss_ctn : SS P w K mg base ca .ctn where
  go := fun F st ρ M v X Po D kp ρ0 h hr he hk hx hD hw => by
    rw [mS] at h; unfold kCtn at h
    split at h
    rotate_left
    · cases h
    exact s_continue (hD.ct ρ M v he hk hw)
theorem ss_rai {n : Str} : SS P w K mg base ca (.rai n e) where
  go := fun F st ρ M v X Po D kp ρ0 h hr he hk hx hD hw => by
    rw [mS] at h; unfold kRai at h
    split at h
    rotate_left
    · cases h
    rename_i g p1 x p2 p3
    simp only [Bool.and_eq_true, decide_eq_true_eq] at h
    obtain ⟨⟨⟨⟨rfl, h2⟩, h3⟩, h4⟩, h5⟩ := h
    obtain ⟨o, hr⟩ := hr
    have o : OwnE K mg _ (ca _) := o
    obtain ⟨B, nw, ini, bmB, f1, f2⟩ := o.facts
    refine .mk fun H 𝓗 σ c hE => ?_
    refine uS.by (t := fun _ σ H => uE F x σ H fun _ H1 => mkW K F.B0 F.H0 F.ex (.ref (ca g)) none σ H1) (fun j => ?_) ((((allE e).ew F _ ρ M v X _ h5 hr he hx hw).run H 𝓗 σ c hE).mono fun u 𝓗' ⟨H', M', r, c', s', q, e1, t, f, q1, _, q2⟩ => ?_)
    · exact ps_raise (F.hc j) (F.tk j) (SkE.pmk_own1 f1 (by rw [F.eK j]; exact f2) (by rw [F.eg j]; exact o.here) (by rw [F.eK j]; exact o.kp) (raises_own (by rw [F.eK j]; exact o.sub) (by rw [F.eK j]; exact o.ty)) (gl_of h2 j) (pe_u j) (ns_of h4 j) (nm_of h3).1)
    · subst e1
      obtain ⟨M2, b1, b2⟩ := hx _ _ _ _ q2 he
      exact ⟨_, ρ, M2, H', rfl, rfl, c'.less b1, hE.mono s', b2⟩
/-! ### a tree of lists is frozen whole -/
def lessF (M : OH) (f : List Addr) : OH := fun a => if a ∈ f then none else M a
theorem lessF_in {f : List Addr} {a : Addr} (h : a ∈ f) : lessF M f a = none := if_pos h
theorem lessF_out {f : List Addr} {a : Addr} (h : a ∉ f) : lessF M f a = M a := if_neg h
theorem dts_map (ds : List Dt) : valDs (ds.map .dat) = ds := by
  induction ds with
  | nil => rfl
  | cons d ds ih => show d :: valDs (ds.map .dat) = d :: ds; rw [ih]
mutual
theorem frzT {B0 H0 𝓗 : Hp} : ∀ {t : Tr} {s : Sl} {f : List Addr}, TrR M t s f → f.Nodup → ∀ (M0 : OH) (H : Hp), (∀ a ∈ f, M0 a = M a) → Cxt K B0 H0 M0 H 𝓗 → ∃ H' M', Cxt K B0 H0 M' H' 𝓗 ∧ Same H H' ∧ (∀ a, M' a = lessF M0 f a) ∧ ∀ u, SlOk K H' u s → SlOk K H' u (.dat (valD t))
  | _, _, _, .dat, _ => fun M0 H _ c => ⟨H, M0, c, Same.refl H, fun a => (lessF_out List.not_mem_nil).symm, fun u q => q⟩
  | _, _, _, .own (p := p) (xs := xs) (ts := ts) (fp := fp) e hs, hn => fun M0 H k c => by
    obtain ⟨n1, n2⟩ := List.nodup_cons.mp hn
    obtain ⟨H1, M1, c1, s1, m1, k1⟩ := frzTs hs n2 _ _ (fun a ha => k a (List.mem_cons_of_mem _ ha)) c
    have e1 : M1 p = some xs := by rw [m1, lessF_out n1, k p List.mem_cons_self]; exact e
    have c2 : Cxt K B0 H0 (oset M1 p ((valDs ts).map .dat)) H1 𝓗 := ⟨c1.f, c1.u, c1.b, c1.n, fun q zs z => by
      by_cases h : q = p
      · subst h
        rw [oset_same] at z
        cases z
        obtain ⟨o1, o2, us, o3, o4⟩ := c1.o q _ e1
        exact ⟨o1, o2, us, o3, k1 us o4⟩
      · rw [oset_ne h] at z
        exact c1.o q zs z⟩
    obtain ⟨H2, c3, s3, d3⟩ := c2.frz oset_same
    refine ⟨H2, _, c3, s1.trans s3, fun a => ?_, fun u q => ?_⟩
    · by_cases h : a = p
      · subst h
        rw [lessF_in List.mem_cons_self]
        exact if_pos rfl
      · have : odel (oset M1 p ((valDs ts).map .dat)) p a = oset M1 p ((valDs ts).map .dat) a := if_neg h
        rw [this, oset_ne h, m1]
        by_cases hf : a ∈ fp
        · rw [lessF_in hf, lessF_in (List.mem_cons_of_mem _ hf)]
        · rw [lessF_out hf, lessF_out (fun z => (List.mem_cons.mp z).elim h hf)]
    · have q : u = .ref p := q
      subst q
      exact d3
theorem frzTs {B0 H0 𝓗 : Hp} : ∀ {ts : List Tr} {ss : List Sl} {f : List Addr}, TrsR M ts ss f → f.Nodup → ∀ (M0 : OH) (H : Hp), (∀ a ∈ f, M0 a = M a) → Cxt K B0 H0 M0 H 𝓗 → ∃ H' M', Cxt K B0 H0 M' H' 𝓗 ∧ Same H H' ∧ (∀ a, M' a = lessF M0 f a) ∧ ∀ us, SlsOk K H' us ss → SlsOk K H' us ((valDs ts).map .dat)
  | _, _, _, .nil, _ => fun M0 H _ c => ⟨H, M0, c, Same.refl H, fun a => (lessF_out List.not_mem_nil).symm, fun u q => q⟩
  | _, _, _, .cons (f := f) (g := g) h hs, hn => fun M0 H k c => by
    obtain ⟨n1, n2, n3⟩ := List.nodup_append.mp hn
    obtain ⟨H1, M1, c1, s1, m1, k1⟩ := frzT h n1 _ _ (fun a ha => k a (List.mem_append_left _ ha)) c
    obtain ⟨H2, M2, c2, s2, m2, k2⟩ := frzTs hs n2 M1 _ (fun a ha => by rw [m1, lessF_out (fun z => n3 a z a ha rfl)]; exact k a (List.mem_append_right _ ha)) c1
    refine ⟨H2, M2, c2, s1.trans s2, fun a => ?_, fun us q => ?_⟩
    · rw [m2]
      by_cases hg : a ∈ g
      · rw [lessF_in hg, lessF_in (List.mem_append_right _ hg)]
      · rw [lessF_out hg, m1]
        by_cases hf : a ∈ f
        · rw [lessF_in hf, lessF_in (List.mem_append_left _ hf)]
        · rw [lessF_out hf, lessF_out (fun z => (List.mem_append.mp z).elim hf hg)]
    · cases q with
      | cons q1 q2 =>
        refine .cons ?_ (k2 _ q2)
        cases h with
        | dat => exact q1
        | own e hs' => exact SlOk.mono s2 (k1 _ (show SlOk K H1 _ (.raw _) from q1))
end
/-- frozen where it stands -/
theorem sx_frzT {D : DE} {i : Nat} {ts : List Tr} {sts : List Stmt} (he : EV M v ρ) (hi : v[i]? = some (.own ts)) (h : ∀ M' ρ', EV M' (v.set i (.dat (.lst (valDs ts)))) ρ' → (∀ j, j ≠ i → ρ'[j]? = ρ[j]?) → SX F ρ' M' sts D) : SX F ρ M sts D := .mk fun H 𝓗 σ c hE => by
  obtain ⟨fp, g1, g2⟩ := he
  obtain ⟨s, f, e1, e2, e3⟩ := g1.get hi (fun z => nomatch z)
  obtain ⟨fp', m1, m2, m3⟩ := EnvR.take g1 g2 hi e1 e2
  obtain ⟨H', M', c', s', m', k'⟩ := frzT e2 ((g1.sub hi e1 e2).nodup g2) _ _ (fun _ _ => rfl) c
  have he' : EV M' (v.set i .un) ρ := ⟨fp', m1.frame fun a ha => by rw [m', lessF_out (m3 a ha).2], m2⟩
  have he2 := he'.setD i (.lst (valDs ts))
  rw [List.set_set] at he2
  obtain ⟨o, o1, o2⟩ := paired_get hE e1
  cases e2 with
  | own q1 q2 =>
    rename_i p xs g
    have o3 : o = some (.ref p) := o2
    subst o3
    have hE2 := EnvOk.set (s := .dat (.lst (valDs ts))) i (hE.mono s') (k' (.ref p) rfl)
    have e : σ.set i (some (V.ref p)) = σ := by
      apply List.ext_getElem?
      intro j
      by_cases hj : i = j
      · subst hj
        rw [List.getElem?_set_self (List.getElem?_eq_some_iff.mp o1).1, o1]
      · rw [List.getElem?_set_ne hj]
    rw [e] at hE2
    exact SX.at (h M' _ he2 fun j hj => List.getElem?_set_ne (fun z => hj z.symm)) c' hE2 s'
/-! ### try -/
def vOf : Dt → V
  | .int i => .int i
  | .bl b => .bl b
  | _ => .non
theorem hds_ok (i : F.ι) : ∀ {hs : List (Str × Dt)} {hds : List ExceptHandler}, kTc sc hs hds = true → (∀ h ∈ hs, OwnE K mg h.1 (ca h.1)) → HdsOk (F.X i) hds (hs.map fun h => (Value.ref (ca h.1), fun _ _ _ => tRet (tC (vOf h.2))))
  | [], [], _, _ => .nil
  | [], _ :: _, h, _ => by cases h
  | (n, d) :: hs, hds, h, o => by
    unfold kTc at h
    split at h
    · rename_i e1; cases e1
    · rename_i e1
      cases e1
      simp only [Bool.and_eq_true, decide_eq_true_eq] at h
      obtain ⟨⟨⟨⟨h1, h2⟩, h3⟩, h4⟩, h5⟩ := h
      subst h1
      refine .cons ⟨gl_of h2 i, (nm_of h3).1, .inl (by rw [F.eg i]; exact (o _ List.mem_cons_self).here)⟩ (fun a oe cls d pn _ _ => ?_) (hds_ok i h5 fun x hx => o x (List.mem_cons_of_mem _ hx))
      split at h4
      · have h4 := of_decide_eq_true h4
        subst h4
        exact pss_one (ps_ret pe_int)
      · have h4 := of_decide_eq_true h4
        subst h4
        exact pss_one (ps_ret pe_bl)
      · cases h4
    · cases h
theorem many_ok {Wout : WX} {DD : Ends} {C : Str} {σ : L2.St} {𝓗 : Hp} {Q : Dt → Prop} {R : Prop} : ∀ {hs : List (Str × Dt)}, (∀ h ∈ hs, PySem.W.exmOne K (.ref (ca C)) (.ref (ca h.1)) = some (subE C h.1)) → hsQ subE C hs Q R → (∀ h ∈ hs, Q h.2 → DD.rt (vOf h.2) 𝓗) → (R → Wout (.ref (ca C)) none σ 𝓗) → wMany K Wout DD (hs.map fun h => (Value.ref (ca h.1), fun _ _ _ => tRet (tC (vOf h.2)))) (.ref (ca C)) none σ 𝓗
  | [], _, q, _, r => r q
  | (x, d) :: hs, e, q, k, r => by
    refine ⟨_, e _ List.mem_cons_self, fun z a _ => ?_, fun z => ?_⟩
    · unfold hsQ at q
      rw [if_pos z] at q
      exact k _ List.mem_cons_self q
    · unfold hsQ at q
      rw [if_neg (by rw [z]; exact Bool.false_ne_true)] at q
      exact many_ok (fun h hh => e h (List.mem_cons_of_mem _ hh)) q (fun h hh => k h (List.mem_cons_of_mem _ hh)) r
theorem da_vOf {H : Hp} {d : Dt} (h : vOf d ≠ .non) : DA K H d (vOf d) := by
  cases d <;> first | (unfold DA; rfl) | exact absurd rfl h
theorem ktc_dat : ∀ {hs : List (Str × Dt)} {hds : List ExceptHandler}, kTc sc hs hds = true → ∀ h ∈ hs, vOf h.2 ≠ .non
  | [], _, _, h, hh => nomatch hh
  | (n, d) :: hs, hds, k, h, hh => by
    unfold kTc at k
    split at k
    · rename_i e1; cases e1
    · rename_i e1
      cases e1
      simp only [Bool.and_eq_true, decide_eq_true_eq] at k
      rcases List.mem_cons.mp hh with z | z
      · subst z
        have k4 := k.1.2
        split at k4
        · exact (show V.int _ ≠ V.non from fun z => by cases z)
        · exact (show V.bl _ ≠ V.non from fun z => by cases z)
        · cases k4
      · exact ktc_dat k.2 h z
    · cases k
theorem ss_tri {L : List Str} {b : Ss} {hs : List (Str × Dt)} (hb : SSs P w K mg base ca b) : SS P w K mg base ca (.tri L b hs) where
  go := fun F st ρ M v X Po D kp ρ0 h hr he hk hx hD hw => by
    rw [mS, Bool.and_eq_true] at h
    obtain ⟨hkp, h⟩ := h
    have hkp : kp = [] := List.isEmpty_iff.mp hkp
    subst hkp
    unfold kTri at h
    split at h
    rotate_left
    · cases h
    simp only [Bool.and_eq_true] at h
    obtain ⟨⟨h1, h2⟩, h3⟩ := h
    obtain ⟨r1, r2, r3⟩ := hr
    refine s_try hD.fs (fun i => hds_ok i h3 r2) fun H 𝓗 c => ?_
    refine hb.go (F.tr H _) _ ρ M v (fun C u => C ∈ L ∧ hsQ subE C hs (fun d => Po.rt (.dat d) u) (X C u)) Po D [] ρ0 h2 r1 he hk ?_ ⟨hD.nx, hD.rt, hD.bk, hD.ct, fun z x e => hD.fc z.1.1 x e, fun z => hD.fs z.1.1⟩ hw
    rintro C u ρ1 M1 ⟨hC, hq⟩ he1
    refine ⟨M1, Sub.refl _, fun H1 𝓗1 σ1 c1 e1 => ?_⟩
    refine many_ok (fun h hh => r3 C hC h hh) hq (fun h hh q => ?_) fun q => ?_
    · obtain ⟨fp, a1, a2⟩ := he1
      obtain ⟨M2, b1, b2⟩ := hD.rt (.dat h.2) M1 (.dat h.2) [] u ρ1 fp .dat a1 (by simpa using a2) (fun i hi => nomatch hi) q
      exact ⟨.dat h.2, M2, H1, (cxt_up c c1).less b1, da_vOf (ktc_dat h3 h hh), b2⟩
    · obtain ⟨M2, b1, b2⟩ := hx C u ρ1 M1 q he1
      exact ⟨_, ρ1, M2, H1, rfl, rfl, (cxt_up c c1).less b1, e1, b2⟩
theorem rq_hb {C : Str} : ∀ {b : HB}, rqHB (Wd P w K mg base ca) C b → qHB K mg ca C b
  | .ins _, h => h
  | .bi _, h => h
  | .inT _, h => h
  | .not a, h => rq_hb (b := a) h
  | .and a b, h => ⟨rq_hb (b := a) h.1, rq_hb (b := b) h.2⟩
  | .ne a b, h => ⟨rq_hb (b := a) h.1, rq_hb (b := b) h.2⟩
  | .cnt _, _ => trivial
theorem rq_hs {C : Str} : ∀ {b : HS}, rqHS (Wd P w K mg base ca) C b → qHS K mg ca C b
  | .ret _, h => rq_hb h
  | .ifF a b, h => ⟨rq_hb h.1, rq_hs (b := b) h.2⟩
  | .kinds _ _ b, h => ⟨h.1, rq_hs (b := b) h.2⟩
/-- try .. except X as e: a suite that asks for e's class -/
theorem ss_tas {L : List Str} {b : Ss} {i : Nat} {x : Str} {h : HS} (hb : SSs P w K mg base ca b) : SS P w K mg base ca (.tas L b i x h) where
  go := fun {N sc} F st ρ M v X Po D kp ρ0 h hr he hk hx hD hw => by
    rename_i hh
    rw [mS, Bool.and_eq_true] at h
    obtain ⟨hkp, h⟩ := h
    have hkp : kp = [] := List.isEmpty_iff.mp hkp
    subst hkp
    unfold kTas at h
    split at h
    rotate_left
    · cases h
    simp only [Bool.and_eq_true, decide_eq_true_eq] at h
    obtain ⟨⟨⟨⟨⟨⟨⟨h1, h2⟩, h3⟩, h4⟩, h5⟩, h6⟩, h7⟩, h8⟩ := h
    replace h3 := h3.symm
    subst h3
    have h7 := eq_of_beq h7
    obtain ⟨r1, r2, r3, r4⟩ := hr
    have ox : OwnE K mg _ (ca _) := r2
    have mi : mg "isinstance" = none := r3
    refine s_tryAs (i := i) (c := .ref (ca _)) (ts := fun a cls d D σ H => ∃ C, cls = .ref (ca C) ∧ d = none ∧ Ec K (ca C) ∧ qHS K mg ca C hh ∧ (∃ σ0 : L2.St, σ = σ0.set i (some (.ref a))) ∧ ∀ H', Hnew H H' → D.rt (.bl (vHS (subE C) [] hh)) H') hD.fs h6 h7 (fun j => ⟨gl_of h4 j, (nm_of h5).1, .inl (by rw [F.eg j]; exact ox.here)⟩) (fun j a oe cls d pn hz hf => ⟨fun pins s σ H D I ⟨C, e1, e2, e3, e4, ⟨σ0, e5⟩, e6⟩ => ?_⟩) fun H 𝓗 c => ?_
    · subst e1 e2
      have hlen : σ.length = (F.X j).N.length := I.len
      refine (hs_ok (ys := []) h6 h7 e3 hz hf mi e4 h8).run pins s σ H D I ⟨?_, (fun k z => nomatch z), e6⟩
      rw [F.eN j] at hlen
      have hi := (List.getElem?_eq_some_iff.mp h6).1
      rw [← hlen, e5, List.length_set] at hi
      rw [e5, List.getElem?_set_self hi]
    refine hb.go (F.tr H _) _ ρ M v _ Po D [] ρ0 h2 r1 he hk ?_ ⟨hD.nx, hD.rt, hD.bk, hD.ct, fun z x e => hD.fc z.1.1 x e, fun z => hD.fs z.1.1⟩ hw
    rintro C u ρ1 M1 ⟨hC, q1, q2⟩ he1
    refine ⟨M1, Sub.refl _, fun H1 𝓗1 σ1 c1 e1 => ?_⟩
    obtain ⟨w1, w2, w3⟩ := r4 C hC
    refine ⟨subE C _, w1, fun z a ha => ⟨C, rfl, rfl, w2, rq_hs w3, ⟨σ1, rfl⟩, fun H2 n2 => ?_⟩, fun z => ?_⟩
    · obtain ⟨fp, a1, a2⟩ := he1
      obtain ⟨M2, b1, b2⟩ := hD.rt (.dat (.bl (vHS (subE C) [] hh))) M1 (.dat (.bl (vHS (subE C) [] hh))) [] u ρ1 fp .dat a1 (by simpa using a2) (fun i hi => nomatch hi) (q1 z)
      obtain ⟨H3, c3, s3⟩ := cxt_nw (cxt_up c c1) n2
      exact ⟨.dat (.bl _), M2, H3, c3.less b1, (show DA K H3 _ _ from daB), b2⟩
    · obtain ⟨M2, b1, b2⟩ := hx C u ρ1 M1 (q2 z) he1
      exact ⟨_, ρ1, M2, H1, rfl, rfl, (cxt_up c c1).less b1, e1, b2⟩
/-! ### all statements -/
theorem sss_nil : SSs P w K mg base ca .nil where
  go := fun F sts ρ M v X Po D kp ρ0 h hr he hk hx hD hw => by
    cases sts with
    | nil => exact sx_nil (hD.nx ρ M v he hk hw)
    | cons a b => rw [mSs] at h; cases h
theorem sss_frz {i : Nat} {ss : Ss} (hb : SSs P w K mg base ca ss) : SSs P w K mg base ca (.cons (.frz i) ss) where
  go := fun F sts ρ M v X Po D kp ρ0 h hr he hk hx hD hw => by
    rw [mSs, Bool.and_eq_true, Bool.not_eq_true'] at h
    obtain ⟨ts, w1, w2⟩ := (show atO v [i] _ from hw)
    have w1 : v[i]? = some (.own ts) := w1
    refine sx_frzT he w1 fun M' ρ' he' hj => hb.go F sts ρ' M' _ X Po D kp ρ0 h.2 hr.2 he' (fun j hj' => ?_) hx hD w2
    rw [hj j fun z => ?_]
    · exact hk j hj'
    · subst z
      have := h.1
      simp [hj'] at this
theorem sss_cons {s : S} {ss : Ss} (ha : SS P w K mg base ca s) (hb : SSs P w K mg base ca ss) (hf : ∀ i, s ≠ .frz i) : SSs P w K mg base ca (.cons s ss) where
  go := fun {N sc} F sts ρ M v X Po D kp ρ0 h hr he hk hx hD hw => by
    have h : kCons (fun y => mS N F.lv sc kp s y) (fun y => mSs N F.lv sc kp ss y) sts = true := by
      rw [mSs] at h
      · exact h
      · exact hf
    unfold kCons at h
    split at h
    rotate_left
    · cases h
    rw [Bool.and_eq_true] at h
    have hw : wpS X v s { Po with nx := fun u => wpSs X u ss Po } := hw
    exact sx_cons (ha.go F _ ρ M v X { Po with nx := fun u => wpSs X u ss Po } _ kp ρ0 h.1 hr.1 he hk hx ⟨fun ρ2 M2 u2 a1 a2 a3 => hb.go F _ ρ2 M2 u2 X Po D kp ρ0 h.2 hr.2 a1 a2 hx hD a3, hD.rt, hD.bk, hD.ct, hD.fc, hD.fs⟩ hw)
theorem ss_frz {i : Nat} : SS P w K mg base ca (.frz i) where
  go := fun F st ρ M v X Po D kp ρ0 h hr he hk hx hD hw => by rw [mS] at h; cases h
mutual
theorem allS : ∀ s : S, SS P w K mg base ca s
  | .set _ _ => ss_set
  | .own _ _ => ss_own
  | .mov _ _ => ss_mov
  | .aug _ _ => ss_aug
  | .app _ _ => ss_app
  | .appPop _ _ _ => ss_appPop
  | .rev _ => ss_rev
  | .clr _ => ss_clr
  | .put _ _ _ => ss_put
  | .augPut _ _ _ => ss_augPut
  | .expr _ => ss_expr
  | .ite _ a b => ss_ite (allSs a) (allSs b)
  | .for _ _ b => ss_for (allSs b)
  | .whl _ b => ss_whl (allSs b)
  | .ret _ => ss_ret
  | .retN _ => ss_retN
  | .ret0 => ss_ret0
  | .pas => ss_pas
  | .brk => ss_brk
  | .ctn => ss_ctn
  | .rai _ _ => ss_rai
  | .frz _ => ss_frz
  | .tri _ b _ => ss_tri (allSs b)
  | .tas _ b _ _ _ => ss_tas (allSs b)
theorem allSs : ∀ s : Ss, SSs P w K mg base ca s
  | .nil => sss_nil
  | .cons s ss => match s with
    | .frz _ => sss_frz (allSs ss)
    | .set p e => sss_cons (allS (.set p e)) (allSs ss) (fun _ z => by cases z)
    | .own i n => sss_cons (allS (.own i n)) (allSs ss) (fun _ z => by cases z)
    | .mov i n => sss_cons (allS (.mov i n)) (allSs ss) (fun _ z => by cases z)
    | .aug i n => sss_cons (allS (.aug i n)) (allSs ss) (fun _ z => by cases z)
    | .app i n => sss_cons (allS (.app i n)) (allSs ss) (fun _ z => by cases z)
    | .appPop i j e => sss_cons (allS (.appPop i j e)) (allSs ss) (fun _ z => by cases z)
    | .rev i => sss_cons (allS (.rev i)) (allSs ss) (fun _ z => by cases z)
    | .clr i => sss_cons (allS (.clr i)) (allSs ss) (fun _ z => by cases z)
    | .put i j e => sss_cons (allS (.put i j e)) (allSs ss) (fun _ z => by cases z)
    | .augPut i j e => sss_cons (allS (.augPut i j e)) (allSs ss) (fun _ z => by cases z)
    | .expr i => sss_cons (allS (.expr i)) (allSs ss) (fun _ z => by cases z)
    | .ite i j e => sss_cons (allS (.ite i j e)) (allSs ss) (fun _ z => by cases z)
    | .for i j e => sss_cons (allS (.for i j e)) (allSs ss) (fun _ z => by cases z)
    | .whl i j => sss_cons (allS (.whl i j)) (allSs ss) (fun _ z => by cases z)
    | .ret i => sss_cons (allS (.ret i)) (allSs ss) (fun _ z => by cases z)
    | .retN i => sss_cons (allS (.retN i)) (allSs ss) (fun _ z => by cases z)
    | .ret0 => sss_cons (allS .ret0) (allSs ss) (fun _ z => by cases z)
    | .pas => sss_cons (allS .pas) (allSs ss) (fun _ z => by cases z)
    | .brk => sss_cons (allS .brk) (allSs ss) (fun _ z => by cases z)
    | .ctn => sss_cons (allS .ctn) (allSs ss) (fun _ z => by cases z)
    | .rai x e => sss_cons (allS (.rai x e)) (allSs ss) (fun _ z => by cases z)
    | .tas L b i x h => sss_cons (allS (.tas L b i x h)) (allSs ss) (fun _ z => by cases z)
    | .tri L b hs => sss_cons (allS (.tri L b hs)) (allSs ss) (fun _ z => by cases z)
end
end
end DD
namespace DD
open PySem PySem.Spec PyProof.Rows L2 DL
/-! ### defs -/
def startV (n : Nat) (as : List Tr) : Env := as ++ List.replicate (n - as.length) .un
/-- the arguments behind a body: a list of its own may have changed -/
def outs : List Tr → Env → List Tr
  | [], _ => []
  | .own _ :: as, u :: us => u :: outs as us
  | a :: as, _ :: us => a :: outs as us
  | a :: as, [] => a :: as
def keepsO : List Tr → Env → Bool
  | [], _ => true
  | .own _ :: as, u :: us => isO u && keepsO as us
  | a :: as, _ :: us => keepsO as us
  | _ :: _, [] => false
def endsOf (g : Sg) (as : List Tr) : Po := { nx := fun u => keepsO as u = true ∧ g.post as (.dat .non) (outs as u), rt := fun t u => keepsO as u = true ∧ g.post as t (outs as u), bk := fun _ => False, ct := fun _ => False }
/-- a body keeps its promise -/
def FnD (g : Sg) (np n : Nat) (kp : List Nat) (body : Ss) : Prop := ∀ as, g.pre as → as.length = np ∧ (∀ (i : Nat) (ts : List Tr), as[i]? = some (Tr.own ts) → i ∈ kp) ∧ wpSs (fun C _ => g.err as C) (startV n as) body (endsOf g as)
theorem fnd_kp {g : Sg} {np n : Nat} {kp kp' : List Nat} {b : Ss} (h : FnD g np n kp b) (k : kp.all (fun i => kp'.contains i) = true) : FnD g np n kp' b := fun as ha => ⟨(h as ha).1, fun i ts e => by
  have := List.all_eq_true.mp k i ((h as ha).2.1 i ts e)
  simpa using this, (h as ha).2.2⟩
section
variable {P : Program} {w : World} {K : PySem.W.Frag} {mg : Str → Option Value} {base : Heap} {N : List Str} {sc : Scope} {F : Fm P w K mg base N sc} {ca : Str → Addr}
variable {ρ : Rho} {M : OH} {v : Env}
theorem env_un (M : OH) : ∀ n : Nat, EnvR M (List.replicate n .un) (List.replicate n Sl.un) []
  | 0 => .nil
  | n + 1 => .un (env_un M n)
theorem startV_ok {n : Nat} {as : List Tr} {rs : List Sl} {fp : List Addr} (h : TrsR M as rs fp) (hn : N.length = n) : EnvR M (startV n as) (startR N rs) fp := by
  have hl := h.length
  show EnvR M (as ++ List.replicate (n - as.length) .un) (rs ++ List.replicate (N.length - rs.length) .un) fp
  rw [hn, hl]
  generalize n - as.length = m
  clear hl
  induction as generalizing rs fp with
  | nil => cases h; exact env_un M m
  | cons a as ih => cases h with | cons h1 h2 => exact .cons h1 (ih h2)
/-- what the arguments are behind a body -/
theorem outs_ok {M0 : OH} : ∀ {as : List Tr} {rs : List Sl} {fp0 : List Addr} {v : Env} {ρ : Rho} {fp : List Addr}, TrsR M0 as rs fp0 → EnvR M v ρ fp → (∀ (i : Nat) (ts : List Tr), as[i]? = some (Tr.own ts) → ρ[i]? = rs[i]?) → keepsO as v = true → ∃ fp', TrsR M (outs as v) rs fp' ∧ fp'.Sublist fp
  | [], _, _, _, _, fp, .nil, _, _, _ => ⟨[], .nil, List.nil_sublist _⟩
  | a :: as, _, _, v, ρ, fp, .cons (s := s) (ss := ss) h1 h2, he, hk, hq => by
    cases v with
    | nil => simp [keepsO] at hq
    | cons u us =>
      have hk2 : ∀ {ρ2 : Rho} {s2 : Sl}, ρ = s2 :: ρ2 → ∀ (i : Nat) (ts : List Tr), as[i]? = some (Tr.own ts) → ρ2[i]? = ss[i]? := fun e i ts z => by
        have := hk (i + 1) ts (by simpa using z)
        rw [e] at this
        simpa using this
      cases h1 with
      | dat =>
        cases he with
        | un he =>
          obtain ⟨f, a1, a2⟩ := outs_ok h2 he (hk2 rfl) hq
          exact ⟨[] ++ f, .cons .dat a1, a2⟩
        | cons hu he =>
          obtain ⟨f, a1, a2⟩ := outs_ok h2 he (hk2 rfl) hq
          exact ⟨[] ++ f, .cons .dat a1, a2.trans (List.sublist_append_right _ _)⟩
      | own e hs =>
        simp only [keepsO, Bool.and_eq_true] at hq
        cases he with
        | un he => cases hq.1
        | cons hu he =>
          obtain ⟨f, a1, a2⟩ := outs_ok h2 he (hk2 rfl) hq.2
          have e0 := hk 0 _ rfl
          simp at e0
          subst e0
          exact ⟨_, .cons hu a1, List.Sublist.append (List.Sublist.refl _) a2⟩
def onlyF (M : OH) (f : List Addr) : OH := fun a => if a ∈ f then M a else none
theorem onlyF_sub {f : List Addr} : Sub (onlyF M f) M := fun p xs h => by
  unfold onlyF at h
  split at h
  · exact h
  · cases h
theorem onlyF_in {f : List Addr} {a : Addr} (h : a ∈ f) : onlyF M f a = M a := if_pos h
theorem fin_ok {g : Sg} {as : List Tr} {rs : List Sl} {fp0 fp f : List Addr} {M0 : OH} {t : Tr} {r : Sl} (h0 : TrsR M0 as rs fp0) (hp : g.pre as) (hr : TrR M t r f) (he : EnvR M v ρ fp) (hn : (f ++ fp).Nodup) (hk : ∀ (i : Nat) (ts : List Tr), as[i]? = some (Tr.own ts) → ρ[i]? = rs[i]?) (hq : keepsO as v = true) (hpo : g.post as t (outs as v)) :
    ∃ M', Sub M' M ∧ (toPr ca g).post rs M0 r M' := by
  obtain ⟨fp', a1, a2⟩ := outs_ok h0 he hk hq
  refine ⟨onlyF M (f ++ fp'), onlyF_sub, as, fp0, t, outs as v, f, fp', h0, hp, hpo, hr.frame fun a ha => onlyF_in (List.mem_append_left _ ha), a1.frame fun a ha => onlyF_in (List.mem_append_right _ ha), ?_, fun a ha => ?_⟩
  · exact (List.Sublist.append (List.Sublist.refl f) a2).nodup hn
  · by_cases h : a ∈ f ++ fp'
    · exact h
    · exact absurd (if_neg h) ha
theorem fnY {x qual : Str} {st : Stmt} {f : Addr} {fd : FuncData} {N ps : List Str} {k : Nat} {p : Pr} (Fd : Fun K x qual st f fd) (S : FnScope N ps (defScope st)) (len : ∀ rs M, p.pre rs M → rs.length = ps.length)
    (body : ∀ cd A outer s H E hr B0 H0 rs M he, p.pre rs M → SX (fmX P w K mg base S qual f cd A outer s H E k hr B0 H0 (p.err rs M) he) (startR N rs) M (defBody st) { nx := fun _ M' => ∃ M'', Sub M'' M' ∧ p.post rs M (.dat .non) M'', rt := fun r M' => p.post rs M r M' }) :
    FnOk P w K mg base (L2.CX P w) (k + 1) f fd ps (spM K p) := by
  refine Fd.okX S (fun vs H Q E h => ?_) (fun cdv A outer s 𝓗 vs Q E hr h => ?_)
  · obtain ⟨H, B, M, rs, _, q, pre, _⟩ := h
    rw [q.length]; exact len rs M pre
  · obtain ⟨H, B, M, rs, c, q, pre, ret, he⟩ := h
    refine ⟨_, pss_u (F := fmX P w K mg base S qual f cdv A outer s 𝓗 E k hr B H (p.err rs M) he) (), ?_⟩
    refine ((body cdv A outer s 𝓗 E hr B H rs M he pre).run H 𝓗 (L2.start N vs) c (startR_ok q)).mono ⟨fun σ 𝓗' ⟨ρ', M', H', c', s', hE', M2, sb, po⟩ => ?_, fun v 𝓗' ⟨r, M', H', c', ok, po⟩ => ?_, fun σ 𝓗' ⟨ρ', M', H', c', s', hE', po⟩ => ?_, fun σ 𝓗' ⟨ρ', M', H', c', s', hE', po⟩ => ?_⟩
    · exact ret .non (.dat .non) H' 𝓗' M2 (c'.less sb) (by show DA K H' _ _; unfold DA; rfl) po
    · exact ret v r H' 𝓗' M' c' ok po
    · exact po.elim
    · exact po.elim
/-- a def keeps its promise -/
theorem def_mk {st : Stmt} {ps : List Str} (k : Nat) {g : Sg} {kp : List Nat} {body : Ss} (a : At K mg g.nm st ps) (S : FnScope N ps (defScope st)) (hlv : g.lv = k + 1) (D : FnD g ps.length N.length kp body) (m : mSs N k (defScope st) kp body (defBody st) = true) (rq : rqSs (Wd P w K mg base ca) body) :
    Def P w K mg base (L2.CX P w) g.lv g.nm ps (toPr ca g) := by
  obtain ⟨f, fd, Fd, hm, hb⟩ := a
  rw [hlv]
  refine ⟨f, fd, fnY Fd S (fun rs M ⟨as, fp, h1, _, h2⟩ => by rw [h1.length]; exact (D as h2).1) fun cd A outer s H E hr B0 H0 rs M he ⟨as, fp, h1, hn, h2⟩ => ?_, hm, Fd.kp, hb⟩
  obtain ⟨d1, d2, d3⟩ := D as h2
  have hkk : ∀ ρ : Rho, Kp kp (startR N rs) ρ → ∀ (i : Nat) (ts : List Tr), as[i]? = some (Tr.own ts) → ρ[i]? = rs[i]? := fun ρ hk i ts z => by
    rw [hk i (d2 i ts z)]
    have hi := (List.getElem?_eq_some_iff.mp z).1
    rw [← h1.length] at hi
    exact List.getElem?_append_left hi
  refine (allSs body).go _ (defBody st) (startR N rs) M (startV N.length as) (fun C _ => g.err as C) (endsOf g as) _ kp (startR N rs) m rq ⟨fp, startV_ok h1 rfl, hn⟩ (fun i _ => rfl) ?_ ⟨?_, ?_, ?_, ?_, fun _ _ _ => rfl, fun _ => ⟨rfl, rfl⟩⟩ d3
  · exact fun C v ρ M' hx _ => ⟨OH0, fun _ _ z => (by cases z), rfl, as, fp, C, h1, h2, hx, rfl⟩
  · rintro ρ M' v ⟨fp', e1, e2⟩ hk ⟨q1, q2⟩
    exact fin_ok (ca := ca) h1 h2 .dat e1 (by simpa using e2) (hkk ρ hk) q1 q2
  · rintro r M' t f v ρ fp' e1 e2 e3 hk ⟨q1, q2⟩
    exact fin_ok (ca := ca) h1 h2 e1 e2 e3 (hkk ρ hk) q1 q2
  · intro _ _ _ _ _ z; exact z.elim
  · intro _ _ _ _ _ z; exact z.elim
/-- the law's body -/
def LawD (n : Nat) (body : Ss) : Prop := ∀ ns : List Int, ns.length ≤ 63 → wpSs noX (startV n [.dat (.scr (ns.map .int))]) body { nx := fun _ => False, rt := fun t _ => t = .dat (.bl true), bk := fun _ => False, ct := fun _ => False }
theorem law_mk {st : Stmt} {f : Addr} {fd : FuncData} {x : Str} {k : Nat} {body : Ss} (Fd : Fun K x x st f fd) (S : FnScope N ["_law_script"] (defScope st)) (D : LawD N.length body) (m : mSs N k (defScope st) [] body (defBody st) = true) (rq : rqSs (Wd P w K mg base ca) body) :
    FnOk P w K mg base CX0 (k + 1) f fd ["_law_script"] (spM K prLaw) := by
  refine fn0 Fd S (fun rs M ⟨_, ns, e, _⟩ => by rw [e]; rfl) fun cd A outer s H E hr B0 H0 rs M ⟨e1, ns, e2, e3⟩ => ?_
  subst e1 e2
  refine (allSs body).go _ (defBody st) _ OH0 (startV N.length _) noX _ _ [] _ m rq ⟨_, startV_ok (.cons .dat .nil) rfl, List.nodup_nil⟩ (fun i _ => rfl) exNo ⟨?_, ?_, ?_, ?_, fun _ _ _ => rfl, fun _ => ⟨rfl, rfl⟩⟩ (D ns e3)
  · intro _ _ _ _ _ z; exact z.elim
  · rintro r M' t f v ρ fp' e1 e2 e3 hk q
    have q : t = .dat (.bl true) := q
    subst q
    cases e1
    exact ⟨M', Sub.refl _, rfl⟩
  · intro _ _ _ _ _ z; exact z.elim
  · intro _ _ _ _ _ z; exact z.elim
end
end DD
namespace DD
open PySem PySem.Spec PyProof.Rows L2 DL
/-! ### the class of four fields -/
def spHall (C : Addr) : Sp := fun vs H Q _ => ∃ o a b c d dx, vs = [V.ref o, a, b, c, d] ∧ H o = some (.ins C dx []) ∧ ∀ H', H' = upd H o (.ins C dx [("gates", a), ("rows", b), ("stands", c), ("stores", d)]) → Q .non H'
def tInit (K : PySem.W.Frag) : TS := tSeq (sFld K (tVar 0) (tVar 1) "gates") (tSeq (sFld K (tVar 0) (tVar 2) "rows") (tSeq (sFld K (tVar 0) (tVar 3) "stands") (sFld K (tVar 0) (tVar 4) "stores")))
abbrev hallN : List Str := ["self", "gates", "rows", "stands", "stores"]
theorem f1 (a : V) : putF "gates" a [] = ([("gates", a)] : List (Str × V)) := rfl
theorem n12 : ¬ (("gates" : Str) = "rows") := by decide +kernel
theorem n13 : ¬ (("gates" : Str) = "stands") := by decide +kernel
theorem n14 : ¬ (("gates" : Str) = "stores") := by decide +kernel
theorem n23 : ¬ (("rows" : Str) = "stands") := by decide +kernel
theorem n24 : ¬ (("rows" : Str) = "stores") := by decide +kernel
theorem n34 : ¬ (("stands" : Str) = "stores") := by decide +kernel
theorem f2 (a b : V) : putF "rows" b [("gates", a)] = ([("gates", a), ("rows", b)] : List (Str × V)) := by
  show (if ("gates" : Str) = "rows" then _ else (("gates" : Str), a) :: _) = _
  rw [if_neg n12]
  rfl
theorem f3 (a b c : V) : putF "stands" c [("gates", a), ("rows", b)] = ([("gates", a), ("rows", b), ("stands", c)] : List (Str × V)) := by
  show (if ("gates" : Str) = "stands" then _ else (("gates" : Str), a) :: (if ("rows" : Str) = "stands" then _ else (("rows" : Str), b) :: _)) = _
  rw [if_neg n13, if_neg n23]
  rfl
theorem f4 (a b c d : V) : putF "stores" d [("gates", a), ("rows", b), ("stands", c)] = ([("gates", a), ("rows", b), ("stands", c), ("stores", d)] : List (Str × V)) := by
  show (if ("gates" : Str) = "stores" then _ else (("gates" : Str), a) :: (if ("rows" : Str) = "stores" then _ else (("rows" : Str), b) :: (if ("stands" : Str) = "stores" then _ else (("stands" : Str), c) :: _))) = _
  rw [if_neg n14, if_neg n24, if_neg n34]
  rfl
section
variable {P : Program} {w : World} {K : PySem.W.Frag} {mg : Str → Option Value} {base : Heap}
theorem pure_init {C : Addr} (cl : Cls K C) (na : ∀ f, f ∈ hallF → NoAttr K C f) (vs : List V) (H : Hp) (Q : VK) (E : XK) (h : spHall C vs H Q E) : tInit K { nx := fun _ H' => Q .non H', rt := Q } (start hallN vs) H := by
  obtain ⟨o, a, b, c, d, dx, rfl, hp, k⟩ := h
  refine ⟨_, rfl, _, rfl, o, C, dx, [], rfl, hp, cl, na _ (by simp [hallF]), (by show 0 < 1000; decide), ?_⟩
  refine ⟨_, rfl, _, rfl, o, C, dx, _, rfl, upd_same, cl, na _ (by simp [hallF]), (by show 1 < 1000; decide), ?_⟩
  refine ⟨_, rfl, _, rfl, o, C, dx, _, rfl, upd_same, cl, na _ (by simp [hallF]), (by rw [f1, f2]; show 2 < 1000; decide), ?_⟩
  refine ⟨_, rfl, _, rfl, o, C, dx, _, rfl, upd_same, cl, na _ (by simp [hallF]), (by rw [f1, f2, f3]; show 3 < 1000; decide), ?_⟩
  refine k _ ?_
  rw [f1, f2, f3, f4, upd_upd, upd_upd, upd_upd]
theorem kls_mk {x : Str} {C : Addr} {st : Stmt} {f : Addr} {od : Option Addr} {oc kV dc pm cd ct : Value} {an : Option Addr} {sl : Array (Option Value)} (hm : mg x = some (.ref C)) (pg : PySem.W.plainGet K C Str.empty = true) (hd : PySem.W.hasDictIn K C = true) (po : PySem.W.plainOver K C = true) (sa : PySem.W.findIn K (.ref C) "__setattr__" = some (some (.builtin "object.__setattr__"))) (mk : PySem.W.makesIn K C = true) (kc : PySem.W.keepIn K (.ref C) = true)
    (a : PySem.W.findIn K (.ref C) "__init__" = some (some (.ref f))) (i : PySem.W.isFn K (.ref f) = true) (l : K.lookup f = some ⟨oc, od, .func (PySem.W.fnOf "__init__" "Hall.__init__" (defArgs st) (defBody st) (defScope st) .none kV dc pm an cd ct), sl⟩) (c : PySem.W.codeIn K cd "Hall.__init__" = true) (k : PySem.W.keepIn K (.ref f) = true)
    (g1 : PySem.W.findIn K (.ref C) "gates" = some none) (g2 : PySem.W.findIn K (.ref C) "rows" = some none) (g3 : PySem.W.findIn K (.ref C) "stands" = some none) (g4 : PySem.W.findIn K (.ref C) "stores" = some none)
    (is1 : PySem.W.findIn K (.ref C) "__class__" = some (some (.builtin "object.__class__"))) (is2 : PySem.W.specialIn K (.builtin "object.__class__") "__get__" = some (some (.builtin "getset_descriptor.__get__"))) (is3 : PySem.W.takesIn K (.builtin "object.__class__") = some true) (is4 : PySem.W.mroIn K C (.type "object") = some true)
    (S : FnScope hallN hallN (defScope st)) (hb : ∀ (kV doc pm : Value) (an : Option Addr) (cdv ct : Value) (us : List Value), us.length = hallN.length → bindArgs (PySem.W.fnOf "__init__" "Hall.__init__" (defArgs st) (defBody st) (defScope st) .none kV doc pm an cdv ct) ⟨us, []⟩ = pure (hallN.zip us))
    (body : ∀ X : Cx, X.N = hallN → X.env.scope = defScope st → X.K = K → PSs X (defBody st) (tInit K)) : Kls P w K mg base x C := by
  have cl : Cls K C := ⟨pg, hd, po, sa⟩
  have na : ∀ f, f ∈ hallF → NoAttr K C f := fun f hf => by
    simp only [hallF, List.mem_cons, List.not_mem_nil, or_false] at hf
    rcases hf with rfl | rfl | rfl | rfl
    · exact g1
    · exact g2
    · exact g3
    · exact g4
  have F := fun_mk (x := "__init__") (qual := "Hall.__init__") (st := st) l c k
  have bi := F.binds (ps := hallN) hb
  exact {
    here := hm, cls := cl, na := na, is1 := is1, is2 := is2, is3 := is3, is4 := is4
    mak := ⟨⟨f, _, hallN, [], ⟨mk, a, i, kc⟩, F.ok (k := 0) (sp := spHall C) S (fun vs H Q E ⟨o, a, b, c, d, dx, e, _⟩ => by rw [e]; rfl) fun cdv A outer s H vs Q E hr h => ⟨tInit K, body _ rfl rfl rfl, pure_init cl na vs H Q E h⟩, hm, bi, .nil⟩⟩ }
def Wd0 (K : PySem.W.Frag) (mg : Str → Option Value) (ca : Str → Addr) (x : Str) : Prop := OwnE K mg x (ca x)
variable {ca : Str → Addr}
theorem con_int {x : Str} {i : Int} {t : Tok} (h : mg x = some (.int i t)) : Wd P w K mg base ca (.c x (.int i)) := ⟨.int i, .int i t, h, ⟨t, rfl⟩, fun H => by unfold DA; rfl⟩
theorem con_str {x s : Str} {t : Tok} (h : mg x = some (.str s t)) : Wd P w K mg base ca (.c x (.str s)) := ⟨.str s, .str s t, h, ⟨t, rfl⟩, fun H => by unfold DA; rfl⟩
theorem con_tup {x : Str} {ds : List Dt} {vs : List V} {t : Addr} {o : Obj} {its : Array Value} {n : Nat} (h : mg x = some (.ref t)) (hl : K.lookup t = some o) (h1 : o.cls = .type "tuple") (h2 : o.data = .seq its n) (h3 : its.size ≤ sizeLine) (h4 : Vals vs its.toList) (h5 : ∀ H, DAs K H ds vs) : Wd P w K mg base ca (.c x (.tup ds)) := ⟨.ref t, .ref t, h, rfl, fun H => by
  unfold DA
  exact ⟨t, vs, rfl, .inr ⟨o, its, n, hl, h1, h2, h3, h4⟩, h5 H⟩⟩
theorem con_words {x : Str} {t : Addr} {t2 t3 : Tok} {od : Option Addr} {n : Nat} {sl : Array (Option Value)} (h : mg x = some (.ref t)) (hl : K.lookup t = some ⟨.type "tuple", od, .seq #[.str "count" t2, .str "row" t3] n, sl⟩) : Wd P w K mg base ca (.c x (.tup [.str "count", .str "row"])) :=
  con_tup (vs := [.str "count", .str "row"]) h hl rfl rfl (by show 2 ≤ sizeLine; decide) (.cons ⟨_, rfl⟩ (.cons ⟨_, rfl⟩ .nil)) fun H => by
    unfold DAs; refine ⟨.str "count", _, rfl, by unfold DA; rfl, ?_⟩
    unfold DAs; refine ⟨.str "row", _, rfl, by unfold DA; rfl, ?_⟩
    unfold DAs; rfl
theorem con_start {x : Str} {t : Addr} {t1 t2 t3 : Tok} {od : Option Addr} {n : Nat} {sl : Array (Option Value)} (h : mg x = some (.ref t)) (hl : K.lookup t = some ⟨.type "tuple", od, .seq #[.int 0 t1, .str "come" t2, .int 0 t3] n, sl⟩) : Wd P w K mg base ca (.c x (.tup [.int 0, .str "come", .int 0])) :=
  con_tup (vs := [.int 0, .str "come", .int 0]) h hl rfl rfl (by show 3 ≤ sizeLine; decide) (.cons ⟨_, rfl⟩ (.cons ⟨_, rfl⟩ (.cons ⟨_, rfl⟩ .nil))) fun H => by
    unfold DAs; refine ⟨.int 0, _, rfl, by unfold DA; rfl, ?_⟩
    unfold DAs; refine ⟨.str "come", _, rfl, by unfold DA; rfl, ?_⟩
    unfold DAs; refine ⟨.int 0, _, rfl, by unfold DA; rfl, ?_⟩
    unfold DAs; rfl
end
end DD
/-! what is asked may be weakened -/
namespace DD
open PySem DL
section
variable {X X' : Str → Env → Prop} {v : Env} {Q Q' : Tr → Prop} {t : Tr}
theorem asI_mono {k k' : Int → Prop} (h : asI k t) (m : ∀ i, k i → k' i) : asI k' t := by
  cases t <;> first | exact h | skip
  rename_i d; cases d <;> first | exact h | exact m _ h
theorem asB_mono {k k' : Bool → Prop} (h : asB k t) (m : ∀ i, k i → k' i) : asB k' t := by
  cases t <;> first | exact h | skip
  rename_i d; cases d <;> first | exact h | exact m _ h
theorem asD_mono {k k' : Dt → Prop} (h : asD k t) (m : ∀ i, k i → k' i) : asD k' t := by
  cases t <;> first | exact h | exact m _ h
theorem asL_mono {k k' : List Tr → Prop} (h : asL k t) (m : ∀ i, k i → k' i) : asL k' t := by
  cases t <;> first | exact h | exact m _ h | skip
  rename_i d; cases d <;> first | exact h | exact m _ h
theorem asC_mono {k k' : List Tr → Prop} (h : asC k t) (m : ∀ i, k i → k' i) : asC k' t := by
  cases t <;> first | exact h | exact m _ h | skip
  rename_i d; cases d <;> first | exact h | exact m _ h
theorem asQ_mono {k k' : List Tr → Prop} (h : asQ k t) (m : ∀ i, k i → k' i) : asQ k' t := by
  cases t <;> first | exact h | exact m _ h | skip
  rename_i d; cases d <;> first | exact h | exact m _ h
theorem asM_mono {k k' : List Tr → Prop} (h : asM k t) (m : ∀ i, k i → k' i) : asM k' t := by
  cases t <;> first | exact h | exact m _ h | skip
  rename_i d; cases d <;> first | exact h | exact m _ h
theorem asW_mono {k k' : List Dt → Prop} (h : asW k t) (m : ∀ i, k i → k' i) : asW k' t := by
  cases t <;> first | exact h | skip
  rename_i d; cases d <;> first | exact h | exact m _ h
theorem asWt_mono {k k' : List Dt → Prop} (h : asWt k t) (m : ∀ i, k i → k' i) : asWt k' t := by
  cases t <;> first | exact h | skip
  rename_i d; cases d <;> first | exact h | exact m _ h
theorem getV_mono {i : Nat} (h : getV v i Q) (m : ∀ t, Q t → Q' t) : getV v i Q' := by
  unfold getV at h ⊢
  split at h
  · exact m _ h
  · exact m _ h
  · exact h
theorem binQ_mono {o : Bo} {x y : Tr} (h : binQ o Q x y) (m : ∀ t, Q t → Q' t) : binQ o Q' x y := by
  unfold binQ at h ⊢
  split at h
  · cases o <;> first | exact m _ h | exact ⟨h.1, m _ h.2⟩
  · cases o <;> first | exact h | exact ⟨h.1, m _ h.2⟩
  · cases o <;> first | exact h | exact ⟨h.1, h.2.1, h.2.2.1, m _ h.2.2.2⟩
  · exact h
theorem cmpQ_mono {o : Co} {x y : Tr} (h : cmpQ o Q x y) (m : ∀ t, Q t → Q' t) : cmpQ o Q' x y := by
  cases o
  · exact asI_mono h fun i h => asI_mono h fun j h => m _ h
  · exact asI_mono h fun i h => asI_mono h fun j h => m _ h
  · exact asI_mono h fun i h => asI_mono h fun j h => m _ h
  · exact asI_mono h fun i h => asI_mono h fun j h => m _ h
  · exact ⟨h.1, h.2.1, h.2.2.1, h.2.2.2.1, m _ h.2.2.2.2⟩
  · exact ⟨h.1, h.2.1, h.2.2.1, h.2.2.2.1, m _ h.2.2.2.2⟩
theorem ixQ_mono {l : List Tr} {i : Int} (h : ixQ l i Q) (m : ∀ t, Q t → Q' t) : ixQ l i Q' := by
  obtain ⟨h1, t, h2, h3⟩ := h
  exact ⟨h1, t, h2, m _ h3⟩
theorem f1Q_mono {f : F1} (h : f1Q f Q t) (m : ∀ t, Q t → Q' t) : f1Q f Q' t := by
  cases f <;> unfold f1Q at h ⊢ <;> dsimp only at h ⊢
  · exact asQ_mono h fun l h => m _ h
  · exact asL_mono h fun l h => ⟨h.1, m _ h.2⟩
  · exact asL_mono h fun l h => ⟨h.1, h.2.1, fun k a b => m _ (h.2.2 k a b)⟩
  · exact asL_mono h fun l h => ⟨h.1, m _ h.2⟩
  · exact asL_mono h fun l h => ⟨h.1, m _ h.2⟩
  · exact asB_mono h fun l h => m _ h
  · exact asL_mono h fun l h => ⟨h.1, m _ h.2⟩
  · exact asL_mono h fun l h => ⟨h.1, m _ h.2⟩
  · exact asL_mono h fun l h => ⟨h.1, h.2.1, m _ h.2.2⟩
theorem cutO_mono {lo hi : Option Int} {l : List Tr} {Q Q' : List Tr → Prop} (h : cutO lo hi l Q) (m : ∀ t, Q t → Q' t) : cutO lo hi l Q' := ⟨h.1, h.2.1, m _ h.2.2⟩
mutual
theorem asg_mono : ∀ (p : Pt) {d : Dt} {v : Env} {Q Q' : Env → Prop}, asg p d v Q → (∀ u, Q u → Q' u) → asg p d v Q'
  | .v i, d, v, Q, Q', h, m => m _ h
  | .t ps, d, v, Q, Q', h, m => by
    unfold asg at h ⊢
    split at h
    · exact asgs_mono ps h m
    · exact h
theorem asgs_mono : ∀ (p : Pts) {d : List Dt} {v : Env} {Q Q' : Env → Prop}, asgs p d v Q → (∀ u, Q u → Q' u) → asgs p d v Q'
  | .nil, d, v, Q, Q', h, m => by
    unfold asgs at h ⊢
    exact ⟨h.1, m _ h.2⟩
  | .cons p ps, d, v, Q, Q', h, m => by
    unfold asgs at h ⊢
    split at h
    · exact asg_mono p h fun u h => asgs_mono ps h m
    · exact h
end
theorem compL_mono {f f' : Dt → (List Tr → Prop) → Prop} (hf : ∀ d K K', f d K → (∀ o, K o → K' o) → f' d K') : ∀ {ds : List Dt} {Q Q' : List Tr → Prop}, compL f ds Q → (∀ t, Q t → Q' t) → compL f' ds Q'
  | [], Q, Q', h, m => m _ h
  | d :: ds, Q, Q', h, m => hf d _ _ h fun o h => compL_mono hf h fun t h => m _ h
mutual
theorem wpE_mono : ∀ (e : E) {X X' : Str → Env → Prop} {v : Env} {Q Q' : Tr → Prop}, wpE X v e Q → (∀ t, Q t → Q' t) → (∀ C, X C v → X' C v) → wpE X' v e Q'
  | .var i, X, X', v, Q, Q', h, m, x => getV_mono h m
  | .int i, X, X', v, Q, Q', h, m, x => m _ h
  | .str i, X, X', v, Q, Q', h, m, x => m _ h
  | .bl i, X, X', v, Q, Q', h, m, x => m _ h
  | .non, X, X', v, Q, Q', h, m, x => m _ h
  | .con _ _, X, X', v, Q, Q', h, m, x => m _ h
  | .bin o a b, X, X', v, Q, Q', h, m, x => wpE_mono a h (fun t h => wpE_mono b h (fun t h => binQ_mono h m) x) x
  | .neg a, X, X', v, Q, Q', h, m, x => wpE_mono a h (fun t h => asI_mono h fun i h => m _ h) x
  | .cmp o a b, X, X', v, Q, Q', h, m, x => wpE_mono a h (fun t h => wpE_mono b h (fun t h => cmpQ_mono h m) x) x
  | .le3 a b c, X, X', v, Q, Q', h, m, x => wpE_mono a h (fun t h => asI_mono h fun i h => wpE_mono b h (fun t h => asI_mono h fun j h => ⟨fun z => wpE_mono c (h.1 z) (fun t h => asI_mono h fun k h => m _ h) x, fun z => m _ (h.2 z)⟩) x) x
  | .isN p a, X, X', v, Q, Q', h, m, x => wpE_mono a h (fun t h => m _ h) x
  | .mem p a b, X, X', v, Q, Q', h, m, x => wpE_mono a h (fun t h => asD_mono h fun d h => wpE_mono b h (fun t h => asQ_mono h fun l h => ⟨h.1, h.2.1, m _ h.2.2⟩) x) x
  | .memR p a b, X, X', v, Q, Q', h, m, x => wpE_mono a h (fun t h => asI_mono h fun d h => wpE_mono b h (fun t h => asI_mono h fun l h => m _ h) x) x
  | .not a, X, X', v, Q, Q', h, m, x => wpE_mono a h (fun t h => asB_mono h fun i h => m _ h) x
  | .and a b, X, X', v, Q, Q', h, m, x => wpE_mono a h (fun t h => asB_mono h fun i h => ⟨fun z => wpE_mono b (h.1 z) (fun t h => asB_mono h fun i h => m _ h) x, fun z => m _ (h.2 z)⟩) x
  | .or a b, X, X', v, Q, Q', h, m, x => wpE_mono a h (fun t h => asB_mono h fun i h => ⟨fun z => wpE_mono b (h.1 z) (fun t h => asB_mono h fun i h => m _ h) x, fun z => m _ (h.2 z)⟩) x
  | .ite c a b, X, X', v, Q, Q', h, m, x => wpE_mono c h (fun t h => asB_mono h fun i h => ⟨fun z => wpE_mono a (h.1 z) (fun t h => asD_mono h fun i h => m _ h) x, fun z => wpE_mono b (h.2 z) (fun t h => asD_mono h fun i h => m _ h) x⟩) x
  | .tup es, X, X', v, Q, Q', h, m, x => wpEs_mono es h (fun t h => ⟨h.1, m _ h.2⟩) x
  | .new n, X, X', v, Q, Q', h, m, x => wpN_mono n h (fun t h => ⟨h.1, m _ h.2⟩) x
  | .ix a b, X, X', v, Q, Q', h, m, x => wpE_mono a h (fun t h => asQ_mono h fun l h => wpE_mono b h (fun t h => asI_mono h fun i h => ixQ_mono h m) x) x
  | .slT a lo hi, X, X', v, Q, Q', h, m, x => wpE_mono a h (fun t h => by
      split at h
      · exact wpO_mono lo h (fun i h => wpO_mono hi h (fun j h => cutO_mono h fun l h => m _ h) x) x
      · exact wpO_mono lo h (fun i h => wpO_mono hi h (fun j h => cutO_mono h fun l h => m _ h) x) x
      · exact h.elim) x
  | .f1 f a, X, X', v, Q, Q', h, m, x => wpE_mono a h (fun t h => f1Q_mono h m) x
  | .max2 a b, X, X', v, Q, Q', h, m, x => wpE_mono a h (fun t h => asI_mono h fun i h => wpE_mono b h (fun t h => asI_mono h fun i h => m _ h) x) x
  | .cnt a b, X, X', v, Q, Q', h, m, x => wpE_mono a h (fun t h => asM_mono h fun i h => wpE_mono b h (fun t h => asI_mono h fun i h => ⟨h.1, m _ h.2⟩) x) x
  | .idx a b, X, X', v, Q, Q', h, m, x => wpE_mono a h (fun t h => asM_mono h fun i h => wpE_mono b h (fun t h => asI_mono h fun i ⟨h1, j, h2, h3⟩ => ⟨h1, j, h2, m _ h3⟩) x) x
  | .isi a B, X, X', v, Q, Q', h, m, x => wpE_mono a h (fun t ⟨T, k, h1, h2, h3⟩ => ⟨T, k, h1, h2, m _ h3⟩) x
  | .isiC a _ C, X, X', v, Q, Q', h, m, x => wpE_mono a h (fun t h => asD_mono h fun d h => by
      split at h
      · exact ⟨h.1, m _ h.2⟩
      · exact h.elim) x
  | .attr a f _ C, X, X', v, Q, Q', h, m, x => wpE_mono a h (fun t h => asD_mono h fun d h => by
      split at h
      · obtain ⟨h1, h2, y, h3, h4⟩ := h
        exact ⟨h1, h2, y, h3, m _ h4⟩
      · exact h.elim) x
  | .mk _ C es, X, X', v, Q, Q', h, m, x => wpEs_mono es h (fun t h => ⟨h.1, by
      have h2 := h.2
      split at h2
      · exact m _ h2
      · exact h2.elim⟩) x
  | .fstr es, X, X', v, Q, Q', h, m, x => wpFs_mono es h (fun h s => m _ (h s)) x
  | .call g es, X, X', v, Q, Q', h, m, x => wpEs_mono es h (fun t ⟨h1, h2, h3, h4, h5⟩ => ⟨h1, h2, h3, fun r as' z => ⟨(h4 r as' z).1, (h4 r as' z).2.1, m _ (h4 r as' z).2.2⟩, fun C z => ⟨(h5 C z).1, x C (h5 C z).2⟩⟩) x
theorem wpEs_mono : ∀ (e : Es) {X X' : Str → Env → Prop} {v : Env} {Q Q' : List Tr → Prop}, wpEs X v e Q → (∀ t, Q t → Q' t) → (∀ C, X C v → X' C v) → wpEs X' v e Q'
  | .nil, X, X', v, Q, Q', h, m, x => m _ h
  | .cons e es, X, X', v, Q, Q', h, m, x => wpE_mono e h (fun t h => wpEs_mono es h (fun ts h => m _ h) x) x
theorem wpFs_mono : ∀ (e : Es) {X X' : Str → Env → Prop} {v : Env} {Q Q' : Prop}, wpFs X v e Q → (Q → Q') → (∀ C, X C v → X' C v) → wpFs X' v e Q'
  | .nil, X, X', v, Q, Q', h, m, x => m h
  | .cons e es, X, X', v, Q, Q', h, m, x => wpE_mono e h (fun t h => ⟨h.1, wpFs_mono es h.2 m x⟩) x
theorem wpO_mono : ∀ (e : Op) {X X' : Str → Env → Prop} {v : Env} {Q Q' : Option Int → Prop}, wpO X v e Q → (∀ t, Q t → Q' t) → (∀ C, X C v → X' C v) → wpO X' v e Q'
  | .no, X, X', v, Q, Q', h, m, x => m _ h
  | .so e, X, X', v, Q, Q', h, m, x => wpE_mono e h (fun t h => asI_mono h fun i h => m _ h) x
theorem wpN_mono : ∀ (e : Nw) {X X' : Str → Env → Prop} {v : Env} {Q Q' : List Tr → Prop}, wpN X v e Q → (∀ t, Q t → Q' t) → (∀ C, X C v → X' C v) → wpN X' v e Q'
  | .lst is, X, X', v, Q, Q', h, m, x => wpIs_mono is h m x
  | .rep a b, X, X', v, Q, Q', h, m, x => wpE_mono a h (fun t h => asC_mono h fun l h => wpE_mono b h (fun t h => asI_mono h fun j h => ⟨h.1, h.2.1, h.2.2.1, h.2.2.2.1, m _ h.2.2.2.2⟩) x) x
  | .cat a b, X, X', v, Q, Q', h, m, x => wpE_mono a h (fun t h => asC_mono h fun l h => wpE_mono b h (fun t h => asC_mono h fun j h => ⟨h.1, h.2.1, h.2.2.1, m _ h.2.2.2⟩) x) x
  | .sl a lo hi, X, X', v, Q, Q', h, m, x => wpE_mono a h (fun t h => asL_mono h fun l h => wpO_mono lo h (fun i h => wpO_mono hi h (fun j h => ⟨h.1, cutO_mono h.2 m⟩) x) x) x
  | .cp a, X, X', v, Q, Q', h, m, x => wpE_mono a h (fun t h => asQ_mono h fun l h => ⟨h.1, m _ h.2⟩) x
  | .rng a, X, X', v, Q, Q', h, m, x => wpE_mono a h (fun t h => asI_mono h fun l h => ⟨h.1, h.2.1, m _ h.2.2⟩) x
  | .comp p s c i, X, X', v, Q, Q', h, m, x => wpSr_mono s h (fun ds h => by
      refine ⟨h.1, compL_mono ?_ h.2 m⟩
      intro d K K' h mk
      refine asg_mono p h ?_
      intro u h
      refine wpC_mono c h ?_ (fun _ z => z)
      intro b h
      exact ⟨fun z => wpI_mono i (h.1 z) (fun t h => mk _ h) (fun _ z => z), fun z => mk _ (h.2 z)⟩) x
theorem wpI_mono : ∀ (e : It) {X X' : Str → Env → Prop} {v : Env} {Q Q' : Tr → Prop}, wpI X v e Q → (∀ t, Q t → Q' t) → (∀ C, X C v → X' C v) → wpI X' v e Q'
  | .v e, X, X', v, Q, Q', h, m, x => wpE_mono e h (fun t h => asD_mono h fun d h => m _ h) x
  | .n n, X, X', v, Q, Q', h, m, x => wpN_mono n h (fun t h => m _ h) x
theorem wpIs_mono : ∀ (e : Is) {X X' : Str → Env → Prop} {v : Env} {Q Q' : List Tr → Prop}, wpIs X v e Q → (∀ t, Q t → Q' t) → (∀ C, X C v → X' C v) → wpIs X' v e Q'
  | .nil, X, X', v, Q, Q', h, m, x => m _ h
  | .cons i is, X, X', v, Q, Q', h, m, x => wpI_mono i h (fun t h => wpIs_mono is h (fun ts h => m _ h) x) x
theorem wpSr_mono : ∀ (e : Src) {X X' : Str → Env → Prop} {v : Env} {Q Q' : List Dt → Prop}, wpSr X v e Q → (∀ t, Q t → Q' t) → (∀ C, X C v → X' C v) → wpSr X' v e Q'
  | .l e, X, X', v, Q, Q', h, m, x => wpE_mono e h (fun t h => asWt_mono h fun l h => m _ h) x
  | .r e, X, X', v, Q, Q', h, m, x => wpE_mono e h (fun t h => asI_mono h fun l h => ⟨h.1, h.2.1, m _ h.2.2⟩) x
  | .en e, X, X', v, Q, Q', h, m, x => wpE_mono e h (fun t h => asW_mono h fun l h => m _ h) x
  | .zp a b, X, X', v, Q, Q', h, m, x => wpE_mono a h (fun t h => asW_mono h fun l h => wpE_mono b h (fun t h => asW_mono h fun l h => ⟨h.1, m _ h.2⟩) x) x
  | .rv e, X, X', v, Q, Q', h, m, x => wpE_mono e h (fun t h => asI_mono h fun l h => ⟨h.1, h.2.1, m _ h.2.2⟩) x
theorem wpC_mono : ∀ (e : Op) {X X' : Str → Env → Prop} {v : Env} {Q Q' : Bool → Prop}, wpC X v e Q → (∀ t, Q t → Q' t) → (∀ C, X C v → X' C v) → wpC X' v e Q'
  | .no, X, X', v, Q, Q', h, m, x => m _ h
  | .so e, X, X', v, Q, Q', h, m, x => wpE_mono e h (fun t h => asB_mono h fun i h => m _ h) x
end
end
end DD
namespace DD
open PySem DL
structure PoLe (P P' : Po) : Prop where
  nx : ∀ u, P.nx u → P'.nx u
  rt : ∀ t u, P.rt t u → P'.rt t u
  bk : ∀ u, P.bk u → P'.bk u
  ct : ∀ u, P.ct u → P'.ct u
theorem wpPl_mono {X X' : Str → Env → Prop} {v : Env} (x : ∀ C, X C v → X' C v) : ∀ (p : Pl) {Q Q' : List Nat → Prop}, wpPl X v p Q → (∀ t, Q t → Q' t) → wpPl X' v p Q'
  | .v i, Q, Q', h, m => getV_mono h fun _ h => m _ h
  | .x p e, Q, Q', h, m => wpPl_mono x p h fun pa ⟨ts, h1, h2⟩ => ⟨ts, h1, wpE_mono e h2 (fun t h => asI_mono h fun i h => ⟨h.1, h.2.1, m _ h.2.2⟩) x⟩
theorem hsQ_mono {sub : Str → Str → Bool} {C : Str} {Q Q' : Dt → Prop} {R R' : Prop} : ∀ {hs : List (Str × Dt)}, hsQ sub C hs Q R → (∀ d, Q d → Q' d) → (R → R') → hsQ sub C hs Q' R'
  | [], h, _, m => m h
  | (x, d) :: r, h, k, m => by
    unfold hsQ at h ⊢
    split at h
    · rename_i z; rw [if_pos z]; exact k d h
    · rename_i z; rw [if_neg z]; exact hsQ_mono h k m
mutual
theorem wpS_mono : ∀ (s : S) {X X' : Str → Env → Prop} {v : Env} {P P' : Po}, wpS X v s P → PoLe P P' → (∀ C u, X C u → X' C u) → wpS X' v s P'
  | .set p e, X, X', v, P, P', h, m, x => wpE_mono e h (fun t h => asD_mono h fun d h => asg_mono p h m.nx) fun C => x C v
  | .own i n, X, X', v, P, P', h, m, x => wpN_mono n h (fun t h => m.nx _ h) fun C => x C v
  | .mov i j, X, X', v, P, P', ⟨ts, h1, h2, h3⟩, m, x => ⟨ts, h1, h2, m.nx _ h3⟩
  | .aug i e, X, X', v, P, P', h, m, x => getV_mono h fun t h => asI_mono h fun n h => wpE_mono e h (fun t h => asI_mono h fun k h => m.nx _ h) fun C => x C v
  | .app p i, X, X', v, P, P', h, m, x => wpPl_mono (fun C => x C v) p h fun pa ⟨ts, h1, h2, h3⟩ => ⟨ts, h1, h2, wpI_mono i h3 (fun t h => m.nx _ h) fun C => x C v⟩
  | .appPop i j e, X, X', v, P, P', ⟨ts, h1, us, h2, h3⟩, m, x => ⟨ts, h1, us, h2, wpE_mono e h3 (fun t h => asI_mono h fun k ⟨a1, a2, a3, a4, d, a5, a6⟩ => ⟨a1, a2, a3, a4, d, a5, m.nx _ a6⟩) fun C => x C v⟩
  | .rev p, X, X', v, P, P', h, m, x => wpPl_mono (fun C => x C v) p h fun pa ⟨ts, h1, h2⟩ => ⟨ts, h1, m.nx _ h2⟩
  | .clr p, X, X', v, P, P', h, m, x => wpPl_mono (fun C => x C v) p h fun pa ⟨ts, h1, h2⟩ => ⟨ts, h1, m.nx _ h2⟩
  | .put p e i, X, X', v, P, P', h, m, x => wpI_mono i h (fun t h => wpPl_mono (fun C => x C v) p h fun pa h => wpE_mono e h (fun t h => asI_mono h fun k ⟨ts, h1, h2, h3, h4⟩ => ⟨ts, h1, h2, h3, m.nx _ h4⟩) fun C => x C v) fun C => x C v
  | .augPut p e a, X, X', v, P, P', h, m, x => wpPl_mono (fun C => x C v) p h fun pa h => wpE_mono e h (fun t h => asI_mono h fun k ⟨ts, h1, h2, n, h3, h4⟩ => ⟨ts, h1, h2, n, h3, wpE_mono a h4 (fun t h => asI_mono h fun k h => m.nx _ h) fun C => x C v⟩) fun C => x C v
  | .expr e, X, X', v, P, P', h, m, x => wpE_mono e h (fun t h => m.nx _ h) fun C => x C v
  | .ite c a b, X, X', v, P, P', h, m, x => wpE_mono c h (fun t h => asB_mono h fun k h => ⟨fun z => wpSs_mono a (h.1 z) m x, fun z => wpSs_mono b (h.2 z) m x⟩) fun C => x C v
  | .for p s b, X, X', v, P, P', h, m, x => wpSr_mono s h (fun ds ⟨I, h1, h2, h3⟩ => ⟨I, h1, fun k d u a1 a2 => asg_mono p (h2 k d u a1 a2) fun u h => wpSs_mono b h ⟨fun _ z => z, m.rt, m.nx, fun _ z => z⟩ x, fun u a => m.nx _ (h3 u a)⟩) fun C => x C v
  | .whl c b, X, X', v, P, P', ⟨W, m0, h1, h2⟩, m, x => ⟨W, m0, h1, fun k u a => wpE_mono c (h2 k u a) (fun t h => asB_mono h fun k h => ⟨fun z => wpSs_mono b (h.1 z) ⟨fun _ z => z, m.rt, m.nx, fun _ z => z⟩ x, fun z => m.nx _ (h.2 z)⟩) fun C => x C u⟩
  | .ret e, X, X', v, P, P', h, m, x => wpE_mono e h (fun t h => asD_mono h fun d h => m.rt _ _ h) fun C => x C v
  | .retN n, X, X', v, P, P', h, m, x => wpN_mono n h (fun t h => m.rt _ _ h) fun C => x C v
  | .ret0, X, X', v, P, P', h, m, x => m.rt _ _ h
  | .pas, X, X', v, P, P', h, m, x => m.nx _ h
  | .brk, X, X', v, P, P', h, m, x => m.bk _ h
  | .ctn, X, X', v, P, P', h, m, x => m.ct _ h
  | .rai n e, X, X', v, P, P', h, m, x => wpE_mono e h (fun t h => x _ _ h) fun C => x C v
  | .frz i, X, X', v, P, P', ⟨ts, h1, h2⟩, m, x => ⟨ts, h1, m.nx _ h2⟩
  | .tri L b hs, X, X', v, P, P', h, m, x => wpSs_mono b h m fun C u ⟨h1, h2⟩ => ⟨h1, hsQ_mono h2 (fun d => m.rt _ u) (x C u)⟩
  | .tas L b i y hh, X, X', v, P, P', h, m, x => wpSs_mono b h m fun C u ⟨h1, h2, h3⟩ => ⟨h1, fun z => m.rt _ u (h2 z), fun z => x C u (h3 z)⟩
theorem wpSs_mono : ∀ (s : Ss) {X X' : Str → Env → Prop} {v : Env} {P P' : Po}, wpSs X v s P → PoLe P P' → (∀ C u, X C u → X' C u) → wpSs X' v s P'
  | .nil, X, X', v, P, P', h, m, x => m.nx _ h
  | .cons s ss, X, X', v, P, P', h, m, x => wpS_mono s h ⟨fun u h => wpSs_mono ss h m x, m.rt, m.bk, m.ct⟩ x
end
section
variable {X : Str → Env → Prop} {v : Env} {P : Po}
/-- a word between a statement and the rest -/
theorem wp_cut {s : S} {ss : Ss} (Mid : Env → Prop) (h : wpS X v s { P with nx := Mid }) (k : ∀ u, Mid u → wpSs X u ss P) : wpSs X v (.cons s ss) P := wpS_mono s h ⟨k, fun _ _ z => z, fun _ z => z, fun _ z => z⟩ fun _ _ z => z
/-- a test by its truth -/
theorem wp_if {c : E} {a b : Ss} {p : Prop} [Decidable p] (h : wpE X v c (asB fun k => k = decide p)) (h1 : p → wpSs X v a P) (h2 : ¬ p → wpSs X v b P) : wpS X v (.ite c a b) P :=
  wpE_mono c h (fun t h => asB_mono h fun k e => ⟨fun z => h1 (of_decide_eq_true (e ▸ z)), fun z => h2 (of_decide_eq_false (e ▸ z))⟩) fun _ z => z
theorem wp_ite {c : E} {a b ss : Ss} {p : Prop} [Decidable p] (h : wpE X v c (asB fun k => k = decide p)) (h1 : p → wpSs X v a { P with nx := fun u => wpSs X u ss P }) (h2 : ¬ p → wpSs X v b { P with nx := fun u => wpSs X u ss P }) : wpSs X v (.cons (.ite c a b) ss) P := wp_if h h1 h2
theorem wp_if1 {c : E} {a ss : Ss} {p : Prop} [Decidable p] (h : wpE X v c (asB fun k => k = decide p)) (h1 : p → wpSs X v a { P with nx := fun u => wpSs X u ss P }) (h2 : ¬ p → wpSs X v ss P) : wpSs X v (.cons (.ite c a .nil) ss) P := wp_ite h h1 h2
theorem wp_for {p : Pt} {s : Src} {b ss : Ss} (ds : List Dt) (hs : wpSr X v s fun z => z = ds) (I : Nat → Env → Prop) (h0 : I 0 v) (ht : ∀ k d u, ds[k]? = some d → I k u → asg p d u fun u' => wpSs X u' b { nx := I (k + 1), ct := I (k + 1), bk := fun u => wpSs X u ss P, rt := P.rt }) (hd : ∀ u, I ds.length u → wpSs X u ss P) : wpSs X v (.cons (.for p s b) ss) P :=
  wpSr_mono s hs (fun z e => by subst e; exact ⟨I, h0, ht, hd⟩) fun _ z => z
theorem wp_whl {c : E} {b ss : Ss} (W : Nat → Env → Prop) (m0 : Nat) (h0 : W m0 v) (ht : ∀ m u, W m u → wpE X u c (asB fun k => (k = true → wpSs X u b { nx := fun u' => ∃ m', m' < m ∧ W m' u', ct := fun u' => ∃ m', m' < m ∧ W m' u', bk := fun u => wpSs X u ss P, rt := P.rt }) ∧ (k = false → wpSs X u ss P))) : wpSs X v (.cons (.whl c b) ss) P := ⟨W, m0, h0, ht⟩
/-- a test of a loop -/
theorem wp_test {c : E} {A B p : Prop} [Decidable p] (h : wpE X v c (asB fun k => k = decide p)) (h1 : p → A) (h2 : ¬ p → B) : wpE X v c (asB fun k => (k = true → A) ∧ (k = false → B)) :=
  wpE_mono c h (fun t h => asB_mono h fun k e => ⟨fun z => h1 (of_decide_eq_true (e ▸ z)), fun z => h2 (of_decide_eq_false (e ▸ z))⟩) fun _ z => z
/-- a value by its wish -/
theorem wpE.as {e : E} {Q : Tr → Prop} (d : Tr) (h : wpE X v e fun t => t = d) (q : Q d) : wpE X v e Q := wpE_mono e h (fun t z => z ▸ q) fun _ z => z
end
end DD
/-! halls as plain things, and how they stand in the text's data -/
namespace LB
open PySem DL DD
inductive Wo | come | fill | turn | look | tell | hear | pass deriving DecidableEq
def wS : Wo → Str
  | .come => "come" | .fill => "fill" | .turn => "turn" | .look => "look" | .tell => "tell" | .hear => "hear" | .pass => "pass"
structure Sd where
  d : Nat
  w : Wo
  t : Nat
inductive Bx | cnt (l s : Int) | row (bs : List (List Int))
structure HM where
  gates : List (Bool × List Nat)
  rows : List (List Nat)
  stands : List Sd
  stores : List Bx
def iD (n : Nat) : Dt := .int n
def kS (r : Bool) : Str := if r then "row" else "count"
def gateD (g : Bool × List Nat) : Dt := .tup [.str (kS g.1), .nup (g.2.map iD)]
def gateL (g : Bool × List Nat) : Dt := .tup [.str (kS g.1), .lst (g.2.map iD)]
def rowD (r : List Nat) : Dt := .nup (r.map iD)
def rowL (r : List Nat) : Dt := .lst (r.map iD)
def sdD (s : Sd) : Dt := .tup [iD s.d, .str (wS s.w), iD s.t]
def bxD : Bx → Dt
  | .cnt l s => .tup [.int l, .int s]
  | .row bs => .tup (bs.map fun b => .tup (b.map .int))
def hallD (C : Addr) (h : HM) : Dt := .ins C hallF [.tup (h.gates.map gateD), .tup (h.rows.map rowD), .tup (h.stands.map sdD), .tup (h.stores.map bxD)]
/-- data in, data out, no error -/
def fnS (nm : Str) (lv : Nat) {α : Type} (enc : α → List Dt) (ok : α → Prop) (r : α → Dt → Prop) : Sg := { nm := nm, lv := lv, pre := fun as => ∃ a, as = (enc a).map .dat ∧ ok a, post := fun as t as' => as' = as ∧ ∃ a d, as = (enc a).map .dat ∧ ok a ∧ t = .dat d ∧ r a d, err := fun _ _ => False }
/-- the same, with errors -/
def fnX (nm : Str) (lv : Nat) {α : Type} (enc : α → List Dt) (ok : α → Prop) (r : α → Dt → Prop) (x : α → Str → Prop) : Sg := { nm := nm, lv := lv, pre := fun as => ∃ a, as = (enc a).map .dat ∧ ok a, post := fun as t as' => as' = as ∧ ∃ a d, as = (enc a).map .dat ∧ ok a ∧ t = .dat d ∧ r a d, err := fun as C => ∃ a, as = (enc a).map .dat ∧ ok a ∧ x a C }
theorem no_own {ds : List Dt} {kp : List Nat} : ∀ (i : Nat) (ts : List Tr), (ds.map Tr.dat)[i]? = some (.own ts) → i ∈ kp := fun i ts h => by
  rw [List.getElem?_map] at h
  cases e : ds[i]? <;> rw [e] at h <;> cases h
theorem outs_dat : ∀ {ds : List Dt} {u : DD.Env}, outs (ds.map Tr.dat) u = ds.map Tr.dat
  | [], u => by cases u <;> rfl
  | d :: ds, [] => rfl
  | d :: ds, t :: u => by
    show Tr.dat d :: outs (ds.map .dat) u = _
    rw [outs_dat]
    rfl
theorem keepsO_dat : ∀ {ds : List Dt} {u : DD.Env}, ds.length ≤ u.length → keepsO (ds.map Tr.dat) u = true
  | [], u, _ => by cases u <;> rfl
  | d :: ds, [], h => by simp at h
  | d :: ds, t :: u, h => by
    show keepsO (ds.map .dat) u = true
    exact keepsO_dat (by simpa using h)
theorem fnS_ok {nm : Str} {lv : Nat} {α : Type} {enc : α → List Dt} {ok : α → Prop} {r : α → Dt → Prop} {np n : Nat} {b : Ss} (len : ∀ a, (enc a).length = np)
    (h : ∀ a, ok a → ∀ P : Po, (∀ d u, np ≤ u.length → r a d → P.rt (.dat d) u) → (∀ u, np ≤ u.length → r a .non → P.nx u) → wpSs noX (startV n ((enc a).map .dat)) b P) : FnD (fnS nm lv enc ok r) np n [] b := by
  rintro as ⟨a, rfl, ha⟩
  refine ⟨by rw [List.length_map, len], no_own, ?_⟩
  exact wpSs_mono b (h a ha (endsOf (fnS nm lv enc ok r) ((enc a).map .dat)) (fun d u hu hr => ⟨keepsO_dat (by rw [len]; exact hu), outs_dat, a, d, rfl, ha, rfl, hr⟩) (fun u hu hr => ⟨keepsO_dat (by rw [len]; exact hu), outs_dat, a, .non, rfl, ha, rfl, hr⟩)) ⟨fun _ z => z, fun _ _ z => z, fun _ z => z, fun _ z => z⟩ fun C u z => z.elim
theorem fnX_ok {nm : Str} {lv : Nat} {α : Type} {enc : α → List Dt} {ok : α → Prop} {r : α → Dt → Prop} {x : α → Str → Prop} {np n : Nat} {b : Ss} (len : ∀ a, (enc a).length = np)
    (h : ∀ a, ok a → ∀ (P : Po) (X : Str → DD.Env → Prop), (∀ d u, np ≤ u.length → r a d → P.rt (.dat d) u) → (∀ u, np ≤ u.length → r a .non → P.nx u) → (∀ C u, x a C → X C u) → wpSs X (startV n ((enc a).map .dat)) b P) : FnD (fnX nm lv enc ok r x) np n [] b := by
  rintro as ⟨a, rfl, ha⟩
  refine ⟨by rw [List.length_map, len], no_own, ?_⟩
  exact h a ha _ _ (fun d u hu hr => ⟨keepsO_dat (by rw [len]; exact hu), outs_dat, a, d, rfl, ha, rfl, hr⟩) (fun u hu hr => ⟨keepsO_dat (by rw [len]; exact hu), outs_dat, a, .non, rfl, ha, rfl, hr⟩) fun C u z => ⟨a, rfl, ha, z⟩
end LB
local macro_rules | `(tactic| walk_at "wps") => `(tactic| simp only [DD.wpSs, DD.wpS, DD.wpE, DD.wpEs, DD.wpFs, DD.wpO, DD.wpN, DD.wpI, DD.wpIs, DD.wpSr, DD.wpC, DD.wpPl, DD.asI, DD.asB, DD.asD, DD.asL, DD.asC, DD.asQ, DD.asM, DD.asW, DD.asWt, DD.asg, DD.asgs, DD.getV, DD.startV, DD.binQ, DD.cmpQ, DD.f1Q, LB.iD, List.map_cons, List.map_nil, List.cons_append, List.nil_append, List.length_cons, List.length_nil, List.replicate, List.set_cons_succ, List.set_cons_zero, List.getElem?_cons_zero, List.getElem?_cons_succ, Nat.reduceAdd, Nat.reduceSub, Nat.zero_add])
namespace LB
open PySem DL DD
/-! rounds -/
def rds (n : Nat) : Nat := if n ≤ 1 then 0 else (n - 1).log2 + 1
theorem rds_lt {n t : Nat} : 2 ^ t < n ↔ t < rds n := by
  unfold rds
  by_cases h : n ≤ 1
  · rw [if_pos h]
    constructor
    · intro z; have := Nat.two_pow_pos t; omega
    · intro z; omega
  · rw [if_neg h, Nat.lt_succ_iff, ← Nat.not_lt, Nat.log2_lt (by omega)]
    omega
theorem rds_le {n : Nat} (h : n ≤ 1000) : rds n ≤ 10 := by
  have := @rds_lt n 10
  have : ¬ 10 < rds n := fun z => by have := this.mpr z; omega
  omega
def g_rounds (C : Addr) : Sg := fnS "rounds" 1 (fun n : Nat => [iD n]) (fun n => n ≤ 1000) fun n d => d = iD (rds n)
def b_rounds (C : Addr) : Ss := .cons (.set (.v 1) (.int 0)) (.cons (.whl (.cmp .lt (.bin .shl (.int 1) (.var 1)) (.var 0)) (.cons (.aug 1 (.int 1)) .nil)) (.cons (.ret (.var 1)) .nil))
theorem ok_rounds (C : Addr) : FnD (g_rounds C) 1 2 [] (b_rounds C) := fnS_ok (fun _ => rfl) fun n hn P rt nx => by
  unfold b_rounds
  walk_at "wps"
  refine ⟨fun m u => ∃ t : Nat, u = [.dat (iD n), .dat (iD t)] ∧ t ≤ rds n ∧ m = rds n - t, rds n, ⟨0, rfl, by omega, by omega⟩, ?_⟩
  rintro m u ⟨t, rfl, h1, rfl⟩
  have h2 := rds_le hn
  walk_at "wps"
  have e : ((1 : Int) * 2 ^ (t : Int).toNat < (n : Int)) ↔ t < rds n := by
    rw [← rds_lt, Int.toNat_natCast, Int.one_mul]
    norm_cast
  refine ⟨⟨by omega, by omega, by decide⟩, fun h => ?_, fun h => ?_⟩
  · have := e.mp (of_decide_eq_true h)
    refine ⟨rds n - (t + 1), ?_, t + 1, ?_, ?_, ?_⟩
    · omega
    · simp [iD]
    · omega
    · rfl
  · have : ¬ t < rds n := fun z => of_decide_eq_false h (e.mpr z)
    have e2 : t = rds n := by omega
    subst e2
    exact rt _ _ (by simp) rfl
end LB
namespace LB
open PySem L2 DL DD
/-! ### small tools -/
theorem eqD_ii {i j : Int} : eqD (.int i) (.int j) = decide (i = j) := by
  unfold eqD
  show PyData.eqv (.int i) (.int j) = _
  simp only [PyData.eqv]
  rfl
theorem eqD_ss {i j : Str} : eqD (.str i) (.str j) = decide (i = j) := by
  unfold eqD
  show PyData.eqv (.str i) (.str j) = _
  simp only [PyData.eqv]
  rfl
theorem eqD_ni {i : Int} : eqD .non (.int i) = false := by
  unfold eqD
  show PyData.eqv .none (.int i) = _
  simp [PyData.eqv]
theorem eqD_in {i : Int} : eqD (.int i) .non = false := by
  unfold eqD
  show PyData.eqv (.int i) .none = _
  simp [PyData.eqv]
theorem eqD_bb {i j : Bool} : eqD (.bl i) (.bl j) = decide (i = j) := by
  unfold eqD
  show PyData.eqv (.bool i) (.bool j) = _
  cases i <;> cases j <;> rfl
theorem inD_str {i : Str} {ns : List Str} : inD (.str i) (ns.map .str) = decide (i ∈ ns) := by
  unfold inD inV
  rw [List.map_map, List.any_map]
  induction ns with
  | nil => rfl
  | cons n ns ih =>
    rw [List.any_cons, ih]
    have : (eqV (vD (.str n)) (vD (.str i))) = decide (i = n) := by
      show decide _ = _
      by_cases h : n = i
      · subst h; simp
      · rw [decide_eq_false h, decide_eq_false fun e => h e.symm]
    show (eqV (vD (.str n)) (vD (.str i)) || _) = _
    rw [this]
    simp [List.mem_cons]
theorem all_isI (ms : List Int) : ((ms.map Dt.int).map Tr.dat).all isI = true := by simp [isI]
theorem map_toI (ms : List Int) : ((ms.map Dt.int).map Tr.dat).map toI = ms := by
  rw [List.map_map, List.map_map]
  exact List.map_id'' (fun _ => rfl) ms
theorem all_isB (ms : List Bool) : ((ms.map Dt.bl).map Tr.dat).all isB = true := by simp [isB]
theorem map_toB (ms : List Bool) : ((ms.map Dt.bl).map Tr.dat).map toB = ms := by
  rw [List.map_map, List.map_map]
  exact List.map_id'' (fun _ => rfl) ms
theorem all_isD (ds : List Dt) : (ds.map Tr.dat).all isD = true := by simp [isD]
theorem map_toD (ds : List Dt) : (ds.map Tr.dat).map toD = ds := by
  rw [List.map_map]
  exact List.map_id'' (fun _ => rfl) ds
theorem all_flatI (ms : List Int) : ((ms.map Dt.int).map Tr.dat).all flatT = true := by simp [flatT, flatD]
theorem all_flatS (ms : List Str) : ((ms.map Dt.str).map Tr.dat).all flatT = true := by simp [flatT, flatD]
theorem compL_map {f : Dt → (List Tr → Prop) → Prop} (g : Dt → Tr) : ∀ {ds : List Dt} {Q : List Tr → Prop}, (∀ d ∈ ds, ∀ K : List Tr → Prop, K [g d] → f d K) → Q (ds.map g) → compL f ds Q
  | [], Q, h, q => q
  | d :: ds, Q, h, q => h d List.mem_cons_self _ (compL_map g (fun e he => h e (List.mem_cons_of_mem _ he)) q)
theorem compL_fil {f : Dt → (List Tr → Prop) → Prop} (g : Dt → List Tr) : ∀ {ds : List Dt} {Q : List Tr → Prop}, (∀ d ∈ ds, ∀ K : List Tr → Prop, K (g d) → f d K) → Q (ds.flatMap g) → compL f ds Q
  | [], Q, h, q => q
  | d :: ds, Q, h, q => h d List.mem_cons_self _ (compL_fil g (fun e he => h e (List.mem_cons_of_mem _ he)) (by rw [List.flatMap_cons] at q; exact q))
/-- over a list of our own things -/
theorem compL_mapE {α : Type} {f : Dt → (List Tr → Prop) → Prop} (c : α → Dt) (g : α → Tr) {as : List α} {Q : List Tr → Prop} (h : ∀ a ∈ as, ∀ K : List Tr → Prop, K [g a] → f (c a) K) (q : Q (as.map g)) : compL f (as.map c) Q := by
  induction as generalizing Q with
  | nil => exact q
  | cons a as ih => exact h a List.mem_cons_self _ (ih (fun e he => h e (List.mem_cons_of_mem _ he)) q)
theorem compL_filE {α : Type} {f : Dt → (List Tr → Prop) → Prop} (c : α → Dt) (g : α → List Tr) {as : List α} {Q : List Tr → Prop} (h : ∀ a ∈ as, ∀ K : List Tr → Prop, K (g a) → f (c a) K) (q : Q (as.flatMap g)) : compL f (as.map c) Q := by
  induction as generalizing Q with
  | nil => exact q
  | cons a as ih => exact h a List.mem_cons_self _ (ih (fun e he => h e (List.mem_cons_of_mem _ he)) (by rw [List.flatMap_cons] at q; exact q))
section
variable {v : DD.Env} {es : Es} {nm : Str} {lv : Nat} {α : Type} {enc : α → List Dt} {ok : α → Prop} {r : α → Dt → Prop} {x : α → Str → Prop} {Q : Tr → Prop} {X : Str → DD.Env → Prop}
theorem mapdat_inj : ∀ {as bs : List Dt}, as.map Tr.dat = bs.map Tr.dat → as = bs := fun {as bs} h => by
  have := congrArg (List.map toD) h
  rwa [map_toD, map_toD] at this
/-- a call -/
theorem callX (a : α) {as : List Tr} (e : as = (enc a).map .dat) (ho : ownRoots v es = []) (ha : ok a) (inj : ∀ b, enc b = enc a → b = a) (hQ : ∀ d, r a d → Q (.dat d)) (hX : ∀ C, x a C → X C v) :
    (ownRoots v es).Nodup ∧ as.all flatO = true ∧ (fnX nm lv enc ok r x).pre as ∧ (∀ t as', (fnX nm lv enc ok r x).post as t as' → as' = as ∧ isD t = true ∧ Q t) ∧ ∀ C, (fnX nm lv enc ok r x).err as C → as.all isD = true ∧ X C v := by
  subst e
  refine ⟨by rw [ho]; exact List.nodup_nil, by simp [flatO], ⟨a, rfl, ha⟩, ?_, ?_⟩
  · rintro t as' ⟨rfl, b, d, e, hb, rfl, hr⟩
    obtain rfl := inj b (mapdat_inj e).symm
    exact ⟨rfl, rfl, hQ d hr⟩
  · rintro C ⟨b, e, hb, hx⟩
    obtain rfl := inj b (mapdat_inj e).symm
    exact ⟨all_isD _, hX C hx⟩
theorem callS (a : α) {as : List Tr} (e : as = (enc a).map .dat) (ho : ownRoots v es = []) (ha : ok a) (inj : ∀ b, enc b = enc a → b = a) (hQ : ∀ d, r a d → Q (.dat d)) :
    (ownRoots v es).Nodup ∧ as.all flatO = true ∧ (fnS nm lv enc ok r).pre as ∧ (∀ t as', (fnS nm lv enc ok r).post as t as' → as' = as ∧ isD t = true ∧ Q t) ∧ ∀ C, (fnS nm lv enc ok r).err as C → as.all isD = true ∧ X C v := by
  subst e
  refine ⟨by rw [ho]; exact List.nodup_nil, by simp [flatO], ⟨a, rfl, ha⟩, ?_, fun C z => z.elim⟩
  rintro t as' ⟨rfl, b, d, e, hb, rfl, hr⟩
  obtain rfl := inj b (mapdat_inj e).symm
  exact ⟨rfl, rfl, hQ d hr⟩
end
theorem int_inj {a b : List Int} (h : a.map Dt.int = b.map Dt.int) : a = b := by
  have := congrArg (List.map fun d => match d with | .int i => i | _ => 0) h
  rw [List.map_map, List.map_map] at this
  simpa [Function.comp_def] using this
theorem iD_inj {a b : List Nat} (h : a.map iD = b.map iD) : a = b := by
  have := congrArg (List.map fun d => match d with | .int i => i.toNat | _ => 0) h
  rw [List.map_map, List.map_map] at this
  simpa [Function.comp_def, iD] using this
theorem natI {n : Nat} {m : Nat} (h : iD n = iD m) : n = m := by
  have h : Dt.int n = .int m := h
  injection h with h
  exact Int.ofNat.inj h
end LB
namespace LB
open PySem L2 DL DD
/-! check_gate -/
def gOk (g : Str × List Int) (n : Nat) : Prop := (g.1 = "count" ∨ g.1 = "row") ∧ g.2 ≠ [] ∧ (∀ m ∈ g.2, 0 ≤ m ∧ m < (n : Int)) ∧ distinct g.2 = g.2.length
instance (g : Str × List Int) (n : Nat) : Decidable (gOk g n) := by unfold gOk; infer_instance
def g_check_gate (C : Addr) : Sg := fnX "check_gate" 1 (fun a : (Str × List Int) × Nat => [.str a.1.1, .lst (a.1.2.map .int), iD a.2]) (fun a => a.1.2.length ≤ 4000) (fun a d => gOk a.1 a.2 ∧ d = .non) fun a C => ¬ gOk a.1 a.2 ∧ C = "NoGate"
def b_check_gate (C : Addr) : Ss := (.cons (.ite (.mem false (.var 0) (.con "WORDS" (.tup [.str "count", .str "row"]))) (.cons (.rai "NoGate" (.str "a gate's word is another text")) .nil) .nil) (.cons (.ite (.cmp .eq (.f1 .len (.var 1)) (.int 0)) (.cons (.rai "NoGate" (.str "a gate has no members")) .nil) .nil) (.cons (.ite (.f1 .any (.new (.comp (.v 3) (.l (.var 1)) .no (.v (.memR false (.var 3) (.var 2)))))) (.cons (.rai "NoGate" (.str "a gate has a member that is no walker")) .nil) .nil) (.cons (.ite (.cmp .lt (.f1 .lenSet (.var 1)) (.f1 .len (.var 1))) (.cons (.rai "NoGate" (.str "a gate has a member twice")) .nil) .nil) .nil))))
theorem ok_check_gate (C : Addr) : FnD (g_check_gate C) 3 4 [] (b_check_gate C) := fnX_ok (fun _ => rfl) fun ⟨⟨w, ms⟩, n⟩ hl P X rt nx hx => by
  have hl : ms.length ≤ 4000 := hl
  have bad : ∀ u, ¬ gOk (w, ms) n → X "NoGate" u := fun u h => hx _ _ ⟨h, rfl⟩
  unfold b_check_gate
  refine wp_if1 (p := ¬ (w = "count" ∨ w = "row")) ?_ (fun h => ?_) (fun h1 => ?_)
  · walk_at "wps"
    refine ⟨rfl, rfl, ?_⟩
    show (!inD (.str w) ([("count" : Str), "row"].map .str)) = _
    rw [inD_str]
    simp
  · walk_at "wps"
    exact bad _ fun z => h z.1
  refine wp_if1 (p := ms = []) ?_ (fun h => ?_) (fun h2 => ?_)
  · walk_at "wps"
    refine ⟨rfl, rfl, .inl trivial, .inl trivial, ?_⟩
    rw [show valT _ = .int _ from rfl, show valT _ = .int _ from rfl, eqD_ii]
    simp
  · walk_at "wps"
    exact bad _ fun z => z.2.1 h
  refine wp_if1 (p := ¬ ∀ m ∈ ms, 0 ≤ m ∧ m < (n : Int)) ?_ (fun h => ?_) (fun h3 => ?_)
  · walk_at "wps"
    refine ⟨by rw [List.length_map]; omega, compL_mapE Dt.int (fun m => .dat (.bl (!decide (0 ≤ m ∧ m < (n : Int))))) (fun m hm K k => ?_) ?_⟩
    · dsimp only [slots, wipeV]
      walk_at "wps"
      exact ⟨fun _ => k, fun z => (by cases z)⟩
    · have e : (ms.map fun m => Tr.dat (.bl (!decide (0 ≤ m ∧ m < (n : Int))))) = (((ms.map fun m => !decide (0 ≤ m ∧ m < (n : Int))).map Dt.bl).map Tr.dat) := by rw [List.map_map, List.map_map]; rfl
      rw [e, map_toD]
      refine ⟨all_isD _, all_isB _, ?_⟩
      rw [map_toB, Bool.eq_iff_iff]
      simp only [List.any_map, List.any_eq_true, decide_eq_true_eq, Function.comp_def, id, Bool.not_eq_true', decide_eq_false_iff_not]
      constructor
      · rintro ⟨m, h1, h2⟩ z; exact h2 (z m h1)
      · intro z
        refine Classical.byContradiction fun y => z fun m hm => Classical.byContradiction fun q => y ⟨m, hm, q⟩
  · walk_at "wps"
    exact bad _ fun z => h z.2.2.1
  refine wp_if1 (p := distinct ms ≠ ms.length) ?_ (fun h => ?_) (fun h4 => ?_)
  · walk_at "wps"
    refine ⟨all_isI _, by simpa using hl, ?_⟩
    rw [map_toI, List.length_map, List.length_map]
    have := distinct_le ms
    exact decide_eq_decide.mpr (by omega)
  · walk_at "wps"
    exact bad _ fun z => h z.2.2.2
  walk_at "wps"
  exact nx _ (by simp) ⟨⟨Classical.not_not.mp h1, h2, Classical.not_not.mp h3, Classical.not_not.mp h4⟩, rfl⟩
end LB
namespace LB
open PySem L2 DL DD
/-! check_row -/
abbrev RG := Str × List Int
def gL (g : RG) : Dt := .tup [.str g.1, .lst (g.2.map .int)]
def rL (r : List Int) : Dt := .lst (r.map .int)
def rowErrs (gs : List RG) (w : Int) : List Int → Option Str
  | [] => none
  | g :: r => if 0 ≤ g ∧ g < (gs.length : Int) then (if w ∈ (gs.getD g.toNat ("", [])).2 then rowErrs gs w r else some "Stranger") else some "NoRow"
def rowErr (gs : List RG) (w : Int) (row : List Int) : Option Str := if 40 < row.length then some "NoRow" else rowErrs gs w row
theorem rowErrs_app {gs : List RG} {w : Int} : ∀ {a b : List Int}, rowErrs gs w a = none → rowErrs gs w (a ++ b) = rowErrs gs w b
  | [], b, h => rfl
  | g :: a, b, h => by
    rw [rowErrs] at h
    rw [List.cons_append, rowErrs]
    split at h
    · rename_i h1
      split at h
      · rename_i h2
        rw [if_pos h1, if_pos h2]
        exact rowErrs_app h
      · cases h
    · cases h
def small (i : Int) : Prop := i.natAbs < 2 ^ 100
instance (i : Int) : Decidable (small i) := by unfold small; infer_instance
theorem small_ok {i : Int} (h : small i) : fsOk (.dat (.int i)) := .inl ⟨i, rfl, by
  rcases Nat.eq_zero_or_pos i.natAbs with z | z
  · rw [z]; decide
  · have := (Nat.log2_lt (by omega) (n := i.natAbs) (k := 100)).mpr h
    omega⟩
theorem str_ok {s : Str} (h : s.length ≤ 2000) : fsOk (.dat (.str s)) := .inr ⟨s, rfl, h⟩
def g_check_row (C : Addr) : Sg := fnX "check_row" 1 (fun a : List RG × Int × List Int => [.lst (a.1.map gL), .int a.2.1, rL a.2.2]) (fun a => small a.2.1 ∧ ∀ i ∈ a.2.2, small i) (fun a d => rowErr a.1 a.2.1 a.2.2 = none ∧ d = .non) fun a C => rowErr a.1 a.2.1 a.2.2 = some C
def b_check_row (C : Addr) : Ss := (.cons (.ite (.cmp .gt (.f1 .len (.var 2)) (.con "LONGEST_ROW" (.int 40))) (.cons (.rai "NoRow" (.fstr (.cons (.str "the row of walker ") (.cons (.var 1) (.cons (.str " has more than ") (.cons (.con "LONGEST_ROW" (.int 40)) (.cons (.str " numbers") .nil))))))) .nil) .nil) (.cons (.for (.v 3) (.l (.var 2)) (.cons (.ite (.memR false (.var 3) (.f1 .len (.var 0))) (.cons (.rai "NoRow" (.fstr (.cons (.str "the row of walker ") (.cons (.var 1) (.cons (.str " names ") (.cons (.var 3) (.cons (.str ", which is no gate") .nil))))))) .nil) .nil) (.cons (.ite (.mem false (.var 1) (.ix (.ix (.var 0) (.var 3)) (.int 1))) (.cons (.rai "Stranger" (.fstr (.cons (.str "walker ") (.cons (.var 1) (.cons (.str " is no member of gate ") (.cons (.var 3) .nil)))))) .nil) .nil) .nil))) .nil))
theorem take_snoc {α : Type} {l : List α} {k : Nat} {x : α} (h : l[k]? = some x) : l.take (k + 1) = l.take k ++ [x] := by
  rw [List.take_add_one, h]; rfl
theorem drop_hd {α : Type} {l : List α} {k : Nat} {x : α} (h : l[k]? = some x) : l.drop k = x :: l.drop (k + 1) := by
  have hk := (List.getElem?_eq_some_iff.mp h).1
  rw [List.drop_eq_getElem_cons hk, (List.getElem?_eq_some_iff.mp h).2]
theorem map_get {α β : Type} {f : α → β} {l : List α} {k : Nat} {d : β} (h : (l.map f)[k]? = some d) : ∃ x, l[k]? = some x ∧ d = f x := by
  rw [List.getElem?_map] at h
  cases e : l[k]? with
  | none => rw [e] at h; cases h
  | some x => rw [e] at h; exact ⟨x, rfl, (Option.some.inj h).symm⟩
theorem ok_check_row (C : Addr) : FnD (g_check_row C) 3 4 [] (b_check_row C) := fnX_ok (fun _ => rfl) fun ⟨gs, w, row⟩ ⟨hw, hr⟩ P X rt nx hx => by
  have hw : small w := hw
  have hr : ∀ i ∈ row, small i := hr
  unfold b_check_row rL
  refine wp_if1 (p := 40 < row.length) ?_ (fun h => ?_) (fun h1 => ?_)
  · walk_at "wps"
    rw [List.length_map, List.length_map]
    exact decide_eq_decide.mpr (by omega)
  · walk_at "wps"
    refine ⟨str_ok (by decide +kernel), small_ok hw, str_ok (by decide +kernel), small_ok (by decide), str_ok (by decide +kernel), fun s => hx _ _ ?_⟩
    show rowErr gs w row = _
    unfold rowErr; rw [if_pos h]
  refine wp_for (row.map .int) ?_ (fun k u => ∃ t, u = [.dat (.lst (gs.map gL)), .dat (.int w), .dat (.lst (row.map .int)), t] ∧ rowErrs gs w (row.take k) = none) ⟨_, rfl, rfl⟩ ?_ ?_
  · walk_at "wps"
  · rintro k d u hk ⟨t, rfl, h2⟩
    obtain ⟨g, hg, rfl⟩ := map_get hk
    have hgm : small g := hr g (List.mem_of_getElem? hg)
    have go : ∀ e, rowErrs gs w (g :: row.drop (k + 1)) = some e → rowErr gs w row = some e := fun e he => by
      unfold rowErr
      rw [if_neg h1, ← List.take_append_drop k row, rowErrs_app h2, drop_hd hg]
      exact he
    simp only [asg, List.set_cons_succ, List.set_cons_zero]
    refine wp_if1 (p := ¬ (0 ≤ g ∧ g < (gs.length : Int))) ?_ (fun h => ?_) (fun h3 => ?_)
    · walk_at "wps"
      rw [List.length_map, List.length_map]
      exact decide_not.symm
    · walk_at "wps"
      refine ⟨str_ok (by decide +kernel), small_ok hw, str_ok (by decide +kernel), small_ok hgm, str_ok (by decide +kernel), fun s => hx _ _ (go _ ?_)⟩
      rw [rowErrs, if_neg h]
    have h3 := Classical.not_not.mp h3
    obtain ⟨x, hx1⟩ : ∃ x, gs[g.toNat]? = some x := ⟨_, List.getElem?_eq_getElem (by omega)⟩
    have hx2 : gs.getD g.toNat ("", []) = x := by rw [List.getD_eq_getElem?_getD, hx1]; rfl
    refine wp_if1 (p := ¬ w ∈ x.2) ?_ (fun h => ?_) (fun h4 => ?_)
    · walk_at "wps"
      refine ⟨h3.1, .dat (gL x), by rw [List.getElem?_map, List.getElem?_map, hx1]; rfl, ?_⟩
      unfold gL
      walk_at "wps"
      refine ⟨by decide, .dat (.lst (x.2.map .int)), rfl, ?_⟩
      walk_at "wps"
      refine ⟨rfl, all_flatI _, ?_⟩
      rw [map_toD, inD_int]
      exact decide_not.symm
    · walk_at "wps"
      refine ⟨str_ok (by decide +kernel), small_ok hw, str_ok (by decide +kernel), small_ok hgm, fun s => hx _ _ (go _ ?_)⟩
      rw [rowErrs, if_pos h3, hx2, if_neg h]
    walk_at "wps"
    refine ⟨_, rfl, ?_⟩
    rw [take_snoc hg, rowErrs_app h2, rowErrs, if_pos h3, hx2, if_pos (Classical.not_not.mp h4)]
    rfl
  · rintro u ⟨t, rfl, h2⟩
    rw [List.length_map, List.take_length] at h2
    exact nx _ (by simp) ⟨by show rowErr gs w row = none; unfold rowErr; rw [if_neg h1]; exact h2, rfl⟩
end LB
namespace LB
open PySem L2 DL DD
/-! check_lists -/
def gatesErr (n : Nat) : List RG → Option Str
  | [] => none
  | g :: r => if gOk g n then gatesErr n r else some "NoGate"
def rowsErr (gs : List RG) : Nat → List (List Int) → Option Str
  | _, [] => none
  | i, r :: rs => match rowErr gs i r with
    | some e => some e
    | none => rowsErr gs (i + 1) rs
def listsErr (gs : List RG) (rs : List (List Int)) : Option Str :=
  if ¬ (1 ≤ rs.length ∧ rs.length ≤ 12) then some "NoHall" else if ¬ (1 ≤ gs.length ∧ gs.length ≤ 12) then some "NoHall" else
  match gatesErr rs.length gs with
  | some e => some e
  | none => rowsErr gs 0 rs
theorem gatesErr_app {n : Nat} : ∀ {a b : List RG}, gatesErr n a = none → gatesErr n (a ++ b) = gatesErr n b
  | [], b, h => rfl
  | g :: a, b, h => by
    rw [gatesErr] at h
    rw [List.cons_append, gatesErr]
    split at h
    · rename_i h1
      rw [if_pos h1]
      exact gatesErr_app h
    · cases h
theorem rowsErr_app {gs : List RG} : ∀ {a b : List (List Int)} {i : Nat}, rowsErr gs i a = none → rowsErr gs i (a ++ b) = rowsErr gs (i + a.length) b
  | [], b, i, h => rfl
  | r :: a, b, i, h => by
    rw [rowsErr] at h
    rw [List.cons_append, rowsErr]
    split at h
    · cases h
    · rename_i h1
      rw [List.length_cons, show i + (a.length + 1) = (i + 1) + a.length by omega]
      exact rowsErr_app h
structure LOk (gs : List RG) (rs : List (List Int)) : Prop where
  g : ∀ g ∈ gs, g.2.length ≤ 4000
  r : ∀ r ∈ rs, ∀ i ∈ r, small i
  gl : gs.length ≤ 4000
  rl : rs.length ≤ 4000
def lsD (a : List RG × List (List Int)) : List Dt := [.lst (a.1.map gL), .lst (a.2.map rL)]
def g_check_lists (C : Addr) : Sg := fnX "check_lists" 2 lsD (fun a => LOk a.1 a.2) (fun a d => listsErr a.1 a.2 = none ∧ d = .non) fun a C => listsErr a.1 a.2 = some C
def b_check_lists (C : Addr) : Ss := (.cons (.ite (.not (.le3 (.int 1) (.f1 .len (.var 1)) (.con "MOST_WALKERS" (.int 12)))) (.cons (.rai "NoHall" (.fstr (.cons (.str "a hall has 1 to ") (.cons (.con "MOST_WALKERS" (.int 12)) (.cons (.str " walkers, not ") (.cons (.f1 .len (.var 1)) .nil)))))) .nil) .nil) (.cons (.ite (.not (.le3 (.int 1) (.f1 .len (.var 0)) (.con "MOST_GATES" (.int 12)))) (.cons (.rai "NoHall" (.fstr (.cons (.str "a hall has 1 to ") (.cons (.con "MOST_GATES" (.int 12)) (.cons (.str " gates, not ") (.cons (.f1 .len (.var 0)) .nil)))))) .nil) .nil) (.cons (.for (.t (.cons (.v 2) (.cons (.v 3) .nil))) (.l (.var 0)) (.cons (.expr (.call (g_check_gate C) (.cons (.var 2) (.cons (.var 3) (.cons (.f1 .len (.var 1)) .nil))))) .nil)) (.cons (.for (.t (.cons (.v 4) (.cons (.v 5) .nil))) (.en (.var 1)) (.cons (.expr (.call (g_check_row C) (.cons (.var 0) (.cons (.var 4) (.cons (.var 5) .nil))))) .nil)) .nil))))
theorem str_inj {a b : Str} (h : Dt.str a = .str b) : a = b := by injection h
theorem gL_inj {a b : RG} (h : gL a = gL b) : a = b := by
  obtain ⟨a1, a2⟩ := a
  obtain ⟨b1, b2⟩ := b
  unfold gL at h
  injection h with h
  injection h with h1 h2
  injection h2 with h2 _
  injection h1 with h1
  injection h2 with h2
  dsimp only at h1 h2
  rw [h1, int_inj h2]
theorem rL_inj {a b : List Int} (h : rL a = rL b) : a = b := by
  unfold rL at h
  injection h with h
  exact int_inj h
theorem map_inj {α β : Type} {f : α → β} (hf : ∀ a b, f a = f b → a = b) : ∀ {as bs : List α}, as.map f = bs.map f → as = bs
  | [], [], _ => rfl
  | [], _ :: _, h => by cases h
  | _ :: _, [], h => by cases h
  | a :: as, b :: bs, h => by
    rw [List.map_cons, List.map_cons] at h
    injection h with h1 h2
    rw [hf _ _ h1, map_inj hf h2]
theorem lsD_inj (a b : List RG × List (List Int)) (h : lsD a = lsD b) : a = b := by
  obtain ⟨a1, a2⟩ := a
  obtain ⟨b1, b2⟩ := b
  unfold lsD at h
  injection h with h1 h2
  injection h2 with h2 _
  injection h1 with h1
  injection h2 with h2
  have h1 : a1 = b1 := map_inj (fun _ _ => gL_inj) h1
  have h2 : a2 = b2 := map_inj (fun _ _ => rL_inj) h2
  rw [h1, h2]
theorem enumD_get : ∀ {ds : List Dt} {i k : Nat} {d : Dt}, (enumD i ds)[k]? = some d → ∃ e, ds[k]? = some e ∧ d = .tup [.int ((i + k : Nat) : Int), e]
  | [], i, k, d, h => by simp [enumD] at h
  | e :: ds, i, 0, d, h => by
    rw [enumD] at h
    exact ⟨e, rfl, (Option.some.inj h).symm⟩
  | e :: ds, i, k + 1, d, h => by
    rw [enumD] at h
    obtain ⟨e', h1, h2⟩ := enumD_get (ds := ds) (i := i + 1) (k := k) (by simpa using h)
    exact ⟨e', by simpa using h1, by rw [h2, show i + 1 + k = i + (k + 1) by omega]⟩
theorem enumD_len : ∀ {ds : List Dt} {i : Nat}, (enumD i ds).length = ds.length
  | [], i => rfl
  | e :: ds, i => by rw [enumD, List.length_cons, enumD_len, List.length_cons]
theorem small_nat {n : Nat} (h : n ≤ 100000) : small (n : Int) := by
  have : n < 2 ^ 100 := Nat.lt_of_le_of_lt h (by decide)
  unfold small; simpa using this
theorem ok_check_lists (C : Addr) : FnD (g_check_lists C) 2 6 [] (b_check_lists C) := fnX_ok (fun _ => rfl) fun ⟨gs, rs⟩ hk P X rt nx hx => by
  have hk : LOk gs rs := hk
  have hx : ∀ C u, listsErr gs rs = some C → X C u := hx
  unfold b_check_lists lsD
  refine wp_if1 (p := ¬ (1 ≤ rs.length ∧ rs.length ≤ 12)) ?_ (fun h => ?_) (fun h1 => ?_)
  · walk_at "wps"
    rw [List.length_map, List.length_map]
    refine ⟨fun z => ?_, fun z => ?_⟩
    · rw [← decide_not]; exact decide_eq_decide.mpr (by omega)
    · rw [Bool.not_false]; exact (decide_eq_true (by omega)).symm
  · walk_at "wps"
    refine ⟨str_ok (by decide +kernel), small_ok (by decide), str_ok (by decide +kernel), small_ok ?_, fun s => hx _ _ ?_⟩
    · rw [List.length_map, List.length_map]; exact small_nat (by have := hk.rl; omega)
    · unfold listsErr; rw [if_pos h]
  refine wp_if1 (p := ¬ (1 ≤ gs.length ∧ gs.length ≤ 12)) ?_ (fun h => ?_) (fun h2 => ?_)
  · walk_at "wps"
    rw [List.length_map, List.length_map]
    refine ⟨fun z => ?_, fun z => ?_⟩
    · rw [← decide_not]; exact decide_eq_decide.mpr (by omega)
    · rw [Bool.not_false]; exact (decide_eq_true (by omega)).symm
  · walk_at "wps"
    refine ⟨str_ok (by decide +kernel), small_ok (by decide), str_ok (by decide +kernel), small_ok ?_, fun s => hx _ _ ?_⟩
    · rw [List.length_map, List.length_map]; exact small_nat (by have := hk.gl; omega)
    · unfold listsErr; rw [if_neg h1, if_pos h]
  refine wp_for (gs.map gL) (by walk_at "wps") (fun k u => ∃ a b, u = [.dat (.lst (gs.map gL)), .dat (.lst (rs.map rL)), a, b, .un, .un] ∧ gatesErr rs.length (gs.take k) = none) ⟨_, _, rfl, rfl⟩ ?_ ?_
  · rintro k d u hd ⟨a, b, rfl, h3⟩
    obtain ⟨g, hg, rfl⟩ := map_get hd
    have e : gs = gs.take k ++ g :: gs.drop (k + 1) := by rw [← drop_hd hg, List.take_append_drop]
    unfold gL
    simp only [asg, asgs, List.set_cons_succ, List.set_cons_zero]
    refine ⟨trivial, ?_⟩
    walk_at "wps"
    refine callX ((g.1, g.2), rs.length) (by rw [List.length_map, List.length_map]; rfl) rfl (hk.g g (List.mem_of_getElem? hg)) ?_ ?_ ?_
    · rintro ⟨⟨b1, b2⟩, b3⟩ h
      injection h with h1 h2
      injection h2 with h2 h3
      injection h3 with h3 _
      injection h2 with h2
      have h1 : b1 = g.1 := str_inj h1
      have h2 : b2 = g.2 := int_inj h2
      have h3 : b3 = rs.length := natI h3
      rw [h1, h2, h3]
    · rintro d ⟨q, _⟩
      refine ⟨_, _, rfl, ?_⟩
      rw [take_snoc hg, gatesErr_app h3, gatesErr, if_pos q]
      rfl
    · rintro x ⟨q, rfl⟩
      refine hx _ _ ?_
      have : gatesErr rs.length gs = some ("NoGate" : Str) := by rw [e, gatesErr_app h3, gatesErr, if_neg q]
      unfold listsErr
      rw [if_neg h1, if_neg h2, this]
  rintro u ⟨a, b, rfl, h3⟩
  rw [List.length_map, List.take_length] at h3
  refine wp_for (enumD 0 (rs.map rL)) (by walk_at "wps") (fun k u => ∃ a b c d, u = [.dat (.lst (gs.map gL)), .dat (.lst (rs.map rL)), a, b, c, d] ∧ rowsErr gs 0 (rs.take k) = none) ⟨_, _, _, _, rfl, rfl⟩ ?_ ?_
  · rintro k d u hd ⟨a, b, c, d', rfl, h4⟩
    obtain ⟨e, he, rfl⟩ := enumD_get hd
    obtain ⟨r, hr, rfl⟩ := map_get he
    have hkl := (List.getElem?_eq_some_iff.mp hr).1
    have e : rs = rs.take k ++ r :: rs.drop (k + 1) := by rw [← drop_hd hr, List.take_append_drop]
    have el : (rs.take k).length = k := by rw [List.length_take]; omega
    simp only [asg, asgs, List.set_cons_succ, List.set_cons_zero]
    refine ⟨trivial, ?_⟩
    walk_at "wps"
    refine callX (gs, (k : Int), r) rfl rfl ⟨small_nat (by omega), hk.r r (List.mem_of_getElem? hr)⟩ ?_ ?_ ?_
    · rintro ⟨b1, b2, b3⟩ h
      injection h with h1 h2
      injection h2 with h2 h3
      injection h3 with h3 _
      injection h1 with h1
      injection h2 with h2
      have h1 : b1 = gs := map_inj (fun _ _ => gL_inj) h1
      have h2 : b2 = (k : Int) := h2
      have h3 : b3 = r := rL_inj h3
      rw [h1, h2, h3]
    · rintro d ⟨q, _⟩
      refine ⟨_, _, _, _, rfl, ?_⟩
      have q : rowErr gs (k : Int) r = none := q
      rw [take_snoc hr, rowsErr_app h4, el, Nat.zero_add, rowsErr, q]
      rfl
    · intro x q
      have q : rowErr gs (k : Int) r = some x := q
      refine hx _ _ ?_
      have : rowsErr gs 0 rs = some x := by rw [e, rowsErr_app h4, el, Nat.zero_add, rowsErr, q]
      unfold listsErr
      rw [if_neg h1, if_neg h2, h3]
      exact this
  rintro u ⟨a, b, c, d, rfl, h4⟩
  rw [enumD_len, List.length_map, List.take_length] at h4
  refine nx _ (by simp) ⟨?_, rfl⟩
  show listsErr gs rs = none
  unfold listsErr
  rw [if_neg h1, if_neg h2, h3]
  exact h4
end LB
namespace LB
open PySem L2 DL DD
/-! first_boxes, begun -/
def fbD (w : Str) (n : Nat) : Dt := if w = "count" then .tup [iD n, .int 0] else .tup (List.replicate n (.tup (List.replicate (2 * rds n) (.int 0))))
def g_first_boxes (C : Addr) : Sg := fnS "first_boxes" 2 (fun a : Str × Nat => [.str a.1, iD a.2]) (fun a => a.2 ≤ 1000 ∧ PyData.canLay0 (.str a.1) = true) fun a d => d = fbD a.1 a.2
def b_first_boxes (C : Addr) : Ss := (.cons (.ite (.cmp .eq (.var 0) (.con "COUNT" (.str "count"))) (.cons (.ret (.tup (.cons (.var 1) (.cons (.int 0) .nil)))) .nil) .nil) (.cons (.ret (.bin .mul (.tup (.cons (.bin .mul (.tup (.cons (.int 0) .nil)) (.bin .mul (.int 2) (.call (g_rounds C) (.cons (.var 1) .nil)))) .nil)) (.var 1))) .nil))
theorem flat_rep {α : Type} (n : Nat) (x : α) : (List.replicate n [x]).flatten = List.replicate n x := by
  induction n with
  | zero => rfl
  | succ n ih => rw [List.replicate_succ, List.flatten_cons, ih]; rfl
theorem ok_first_boxes (C : Addr) : FnD (g_first_boxes C) 2 2 [] (b_first_boxes C) := fnS_ok (fun _ => rfl) fun ⟨w, n⟩ ⟨hn, hw⟩ P rt nx => by
  have hn : n ≤ 1000 := hn
  have hw : PyData.canLay0 (.str w) = true := hw
  unfold b_first_boxes
  refine wp_if1 (p := w = "count") ?_ (fun h => ?_) (fun h1 => ?_)
  · walk_at "wps"
    refine ⟨rfl, rfl, .inl hw, .inl (by show PyData.canLay0 (.str "count") = true; decide +kernel), ?_⟩
    exact eqD_ss
  · walk_at "wps"
    refine ⟨rfl, rt _ _ (by simp) ?_⟩
    show _ = fbD w n
    unfold fbD; rw [if_pos h]
    rfl
  · walk_at "wps"
    have hr := rds_le hn
    refine ⟨rfl, ?_⟩
    refine callS n rfl rfl (by exact hn) (fun b h => by injection h with h; exact natI h) ?_
    rintro d rfl
    unfold iD
    walk_at "wps"
    refine ⟨.inl ⟨by decide, by decide⟩, by omega, by omega, by decide, rfl, by omega, by omega, by decide, rt _ _ (by simp) ?_⟩
    show _ = fbD w n
    unfold fbD
    simp only [if_neg h1, toD, flat_rep, iD, Int.toNat_natCast, show ((2 : Int) * (rds n : Int)).toNat = 2 * rds n by omega]
def gN (g : RG) : Dt := .tup [.str g.1, .nup (g.2.map .int)]
def rN (r : List Int) : Dt := .nup (r.map .int)
def startD : Dt := .tup [.int 0, .str "come", .int 0]
def hallR (C : Addr) (gs : List RG) (rs : List (List Int)) : Dt := .ins C hallF [.tup (gs.map gN), .tup (rs.map rN), .tup (List.replicate rs.length startD), .tup (gs.map fun g => fbD g.1 g.2.length)]
def g_begun (C : Addr) : Sg := fnX "begun" 3 lsD (fun a => LOk a.1 a.2) (fun a d => listsErr a.1 a.2 = none ∧ d = hallR C a.1 a.2) fun a C => listsErr a.1 a.2 = some C
def b_begun (C : Addr) : Ss := (.cons (.expr (.call (g_check_lists C) (.cons (.var 0) (.cons (.var 1) .nil)))) (.cons (.ret (.mk "Hall" C (.cons (.f1 .tuple (.new (.comp (.t (.cons (.v 2) (.cons (.v 3) .nil))) (.l (.var 0)) .no (.v (.tup (.cons (.var 2) (.cons (.f1 .tupleN (.var 3)) .nil))))))) (.cons (.f1 .tuple (.new (.comp (.v 4) (.l (.var 1)) .no (.v (.f1 .tupleN (.var 4)))))) (.cons (.bin .mul (.tup (.cons (.con "START" (.tup [.int 0, .str "come", .int 0])) .nil)) (.f1 .len (.var 1))) (.cons (.f1 .tuple (.new (.comp (.t (.cons (.v 2) (.cons (.v 3) .nil))) (.l (.var 0)) .no (.v (.call (g_first_boxes C) (.cons (.var 2) (.cons (.f1 .len (.var 3)) .nil))))))) .nil)))))) .nil))
theorem gatesErr_all {n : Nat} : ∀ {gs : List RG}, gatesErr n gs = none → ∀ g ∈ gs, gOk g n
  | [], _, g, h => by cases h
  | a :: gs, e, g, h => by
    rw [gatesErr] at e
    split at e
    · rename_i h1
      rcases List.mem_cons.mp h with rfl | h
      · exact h1
      · exact gatesErr_all e g h
    · cases e
/-- what lists are that are kept -/
structure RawOk (gs : List RG) (rs : List (List Int)) : Prop where
  rl : 1 ≤ rs.length ∧ rs.length ≤ 12
  gl : 1 ≤ gs.length ∧ gs.length ≤ 12
  g : ∀ g ∈ gs, gOk g rs.length
  r : rowsErr gs 0 rs = none
theorem raw_of {gs : List RG} {rs : List (List Int)} (h : listsErr gs rs = none) : RawOk gs rs := by
  unfold listsErr at h
  split at h
  · cases h
  rename_i h1
  split at h
  · cases h
  rename_i h2
  split at h
  · cases h
  rename_i h3
  exact ⟨Classical.not_not.mp h1, Classical.not_not.mp h2, gatesErr_all h3, h⟩
theorem map_map' {α β γ : Type} (f : β → γ) (g : α → β) (l : List α) : (l.map g).map f = l.map fun x => f (g x) := by rw [List.map_map]; rfl
theorem nd_le : ∀ (n : Nat) (l : List Nat), l.Nodup → (∀ x ∈ l, x < n) → l.length ≤ n
  | 0, l, _, h => by
    cases l with
    | nil => exact Nat.le_refl 0
    | cons a l => exact absurd (h a List.mem_cons_self) (Nat.not_lt_zero _)
  | n + 1, l, hn, h => by
    have h1 := nd_le n (l.erase n) (hn.erase n) fun x hx => by
      have := h x (List.mem_of_mem_erase hx)
      have : x ≠ n := fun e => by
        subst e
        exact (List.Nodup.not_mem_erase hn) hx
      omega
    rw [List.length_erase] at h1
    split at h1 <;> omega
theorem distinct_nodup {ms : List Int} (h : distinct ms = ms.length) : ms.Nodup := by
  show List.Pairwise _ _
  rw [List.pairwise_iff_getElem]
  intro i j hi hj hij e
  exact distinct_new h j _ (List.getElem?_eq_getElem hj) i hij (by rw [← e]; exact List.getElem?_eq_getElem hi)
theorem toNat_nodup {ms : List Int} (nd : ms.Nodup) (hm : ∀ m ∈ ms, 0 ≤ m) : (ms.map Int.toNat).Nodup := by
  show List.Pairwise _ _
  rw [List.pairwise_map]
  refine List.Pairwise.imp_of_mem (fun {a b} ha hb hab e => hab ?_) nd
  have := hm a ha
  have := hm b hb
  omega
theorem distinct_nd {ms : List Int} (h : distinct ms = ms.length) {n : Nat} (hm : ∀ m ∈ ms, 0 ≤ m ∧ m < (n : Int)) : ms.length ≤ n := by
  have := nd_le n (ms.map Int.toNat) (toNat_nodup (distinct_nodup h) fun m hmm => (hm m hmm).1) fun x hx => by
    obtain ⟨m, hm1, rfl⟩ := List.mem_map.mp hx
    have := hm m hm1
    omega
  simpa using this
theorem ok_begun (C : Addr) : FnD (g_begun C) 2 5 [] (b_begun C) := fnX_ok (fun _ => rfl) fun ⟨gs, rs⟩ hk P X rt nx hx => by
  have hk : LOk gs rs := hk
  have hx : ∀ C u, listsErr gs rs = some C → X C u := hx
  unfold b_begun lsD
  refine wp_cut (fun u => u = startV 5 [.dat (.lst (gs.map gL)), .dat (.lst (rs.map rL))] ∧ listsErr gs rs = none) ?_ ?_
  · walk_at "wps"
    refine callX (gs, rs) rfl rfl hk (fun b h => lsD_inj _ _ h) ?_ ?_
    · rintro d ⟨q, _⟩
      exact ⟨trivial, q⟩
    · intro x q
      exact hx _ _ q
  rintro u ⟨rfl, he⟩
  have hr := raw_of he
  have hlen : ∀ g ∈ gs, g.2.length ≤ 12 := fun g hg => Nat.le_trans (distinct_nd (hr.g g hg).2.2.2 (hr.g g hg).2.2.1) hr.rl.2
  have e1 : ∀ (f : RG → Dt), (gs.map fun g => Tr.dat (f g)) = (gs.map f).map Tr.dat := fun f => (map_map' _ _ _).symm
  have e2 : ∀ (f : List Int → Dt), (rs.map fun g => Tr.dat (f g)) = (rs.map f).map Tr.dat := fun f => (map_map' _ _ _).symm
  walk_at "wps"
  refine ⟨by rw [List.length_map]; have := hr.gl; omega, compL_mapE gL (fun g => .dat (gN g)) (fun g hg K k => ?_) ?_⟩
  · unfold gL
    dsimp only [slots, slotss, List.cons_append, List.nil_append, wipeV]
    walk_at "wps"
    refine ⟨trivial, fun _ => ⟨all_isD _, rfl, ?_⟩, fun z => (by cases z)⟩
    rw [map_toD]
    exact k
  rw [e1, map_toD]
  refine ⟨all_isD _, all_isD _, ?_, compL_mapE rL (fun g => .dat (rN g)) (fun g hg K k => ?_) ?_⟩
  · rw [List.length_map]; have := hr.rl; omega
  · unfold rL
    dsimp only [slots, slotss, List.cons_append, List.nil_append, wipeV]
    walk_at "wps"
    refine ⟨fun _ => ⟨all_isD _, ?_⟩, fun z => (by cases z)⟩
    rw [map_toD]
    exact k
  rw [e2, map_toD]
  refine ⟨all_isD _, all_isD _, (by first | trivial | rfl), ?_⟩
  rw [List.length_map, List.length_map]
  refine ⟨by omega, by have := hr.rl; omega, by decide, by rw [List.length_map]; have := hr.gl; omega, compL_mapE gL (fun g => .dat (fbD g.1 g.2.length)) (fun g hg K k => ?_) ?_⟩
  · unfold gL
    dsimp only [slots, slotss, List.cons_append, List.nil_append, wipeV]
    walk_at "wps"
    refine ⟨trivial, fun _ => ?_, fun z => (by cases z)⟩
    refine callS (g.1, g.2.length) (by rw [List.length_map, List.length_map]; rfl) rfl ⟨(by have := hlen g hg; show g.2.length ≤ 1000; omega), by rcases (hr.g g hg).1 with h | h <;> (show PyData.canLay0 (.str g.1) = true; rw [h]; decide +kernel)⟩ ?_ ?_
    · rintro ⟨b1, b2⟩ h
      injection h with h1 h2
      injection h2 with h2 _
      have h1 : b1 = g.1 := str_inj h1
      have h2 : b2 = g.2.length := natI h2
      rw [h1, h2]
    · rintro d rfl
      exact k
  rw [e1, map_toD]
  refine ⟨all_isD _, all_isD _, (by first | trivial | rfl), ?_⟩
  refine rt _ _ (by simp [startV]) ⟨he, ?_⟩
  rw [map_toD, map_toD, map_toD, Int.toNat_natCast, show ∀ x, [toD (Tr.dat x)] = [x] from fun _ => rfl, flat_rep]
  rfl
end LB
namespace LB
open PySem L2 DL DD
/-- things in (lists of its own among them), data out; what came in stays -/
def fnT (nm : Str) (lv : Nat) {α : Type} (enc : α → List Tr) (ok : α → Prop) (r : α → Dt → Prop) : Sg := { nm := nm, lv := lv, pre := fun as => ∃ a, as = enc a ∧ ok a, post := fun as t as' => as' = as ∧ ∃ a d, as = enc a ∧ ok a ∧ t = .dat d ∧ r a d, err := fun _ _ => False }
theorem fnT_ok {nm : Str} {lv : Nat} {α : Type} {enc : α → List Tr} {ok : α → Prop} {r : α → Dt → Prop} {np n : Nat} {kp : List Nat} {b : Ss} (len : ∀ a, (enc a).length = np) (own : ∀ a (i : Nat) (ts : List Tr), (enc a)[i]? = some (.own ts) → i ∈ kp)
    (h : ∀ a, ok a → ∀ P : Po, (∀ d u, keepsO (enc a) u = true → outs (enc a) u = enc a → r a d → P.rt (.dat d) u) → (∀ u, keepsO (enc a) u = true → outs (enc a) u = enc a → r a .non → P.nx u) → wpSs noX (startV n (enc a)) b P) : FnD (fnT nm lv enc ok r) np n kp b := by
  rintro as ⟨a, rfl, ha⟩
  refine ⟨len a, own a, ?_⟩
  exact wpSs_mono b (h a ha (endsOf (fnT nm lv enc ok r) (enc a)) (fun d u hu ho hr => ⟨hu, ho, a, d, rfl, ha, rfl, hr⟩) (fun u hu ho hr => ⟨hu, ho, a, .non, rfl, ha, rfl, hr⟩)) ⟨fun _ z => z, fun _ _ z => z, fun _ z => z, fun _ z => z⟩ fun C u z => z.elim
section
variable {v : DD.Env} {es : Es} {nm : Str} {lv : Nat} {α : Type} {enc : α → List Tr} {ok : α → Prop} {r : α → Dt → Prop} {x : α → Str → Prop} {Q : Tr → Prop} {X : Str → DD.Env → Prop}
theorem callT (a : α) {as : List Tr} (e : as = enc a) (ho : (ownRoots v es).Nodup) (hf : (enc a).all flatO = true) (ha : ok a) (inj : ∀ b, enc b = enc a → b = a) (hQ : ∀ d, r a d → Q (.dat d)) :
    (ownRoots v es).Nodup ∧ as.all flatO = true ∧ (fnT nm lv enc ok r).pre as ∧ (∀ t as', (fnT nm lv enc ok r).post as t as' → as' = as ∧ isD t = true ∧ Q t) ∧ ∀ C, (fnT nm lv enc ok r).err as C → as.all isD = true ∧ X C v := by
  subst e
  refine ⟨ho, hf, ⟨a, rfl, ha⟩, ?_, fun C z => z.elim⟩
  rintro t as' ⟨rfl, b, d, e, hb, rfl, hr⟩
  obtain rfl := inj b e.symm
  exact ⟨rfl, rfl, hQ d hr⟩
theorem callSN {encd : α → List Dt} (a : α) {as : List Tr} (e : as = (encd a).map .dat) (ho : (ownRoots v es).Nodup) (ha : ok a) (inj : ∀ b, encd b = encd a → b = a) (hQ : ∀ d, r a d → Q (.dat d)) :
    (ownRoots v es).Nodup ∧ as.all flatO = true ∧ (fnS nm lv encd ok r).pre as ∧ (∀ t as', (fnS nm lv encd ok r).post as t as' → as' = as ∧ isD t = true ∧ Q t) ∧ ∀ C, (fnS nm lv encd ok r).err as C → as.all isD = true ∧ X C v := by
  subst e
  refine ⟨ho, by simp [flatO], ⟨a, rfl, ha⟩, ?_, fun C z => z.elim⟩
  rintro t as' ⟨rfl, b, d, e, hb, rfl, hr⟩
  obtain rfl := inj b (mapdat_inj e).symm
  exact ⟨rfl, rfl, hQ d hr⟩
end
/-! next_gate, all_ahead -/
def nxD (r : List Int) (k : Nat) : Dt := match r[k]? with
  | some x => .int x
  | none => .non
def g_next_gate (C : Addr) : Sg := fnS "next_gate" 1 (fun a : List Int × Nat => [rL a.1, iD a.2]) (fun a => a.2 ≤ a.1.length) fun a d => d = nxD a.1 a.2
def b_next_gate (C : Addr) : Ss := (.cons (.ite (.cmp .eq (.var 1) (.f1 .len (.var 0))) (.cons (.ret .non) .nil) .nil) (.cons (.ret (.ix (.var 0) (.var 1))) .nil))
theorem dI8 (i : Int) : DOk 8 (.int i) := .inl trivial
theorem dN8 : DOk 8 .non := .inl trivial
theorem ok_next_gate (C : Addr) : FnD (g_next_gate C) 2 2 [] (b_next_gate C) := fnS_ok (fun _ => rfl) fun ⟨r, k⟩ hk P rt nx => by
  have hk : k ≤ r.length := hk
  have rt : ∀ u, 2 ≤ u.length → P.rt (.dat (nxD r k)) u := fun u hu => rt _ u hu rfl
  unfold b_next_gate rL
  refine wp_if1 (p := k = r.length) ?_ (fun h => ?_) (fun h1 => ?_)
  · walk_at "wps"
    refine ⟨rfl, rfl, dI8 _, dI8 _, ?_⟩
    rw [show valT _ = .int _ from rfl, show valT _ = .int _ from rfl, eqD_ii, List.length_map, List.length_map]
    exact decide_eq_decide.mpr (by omega)
  · walk_at "wps"
    have := rt [.dat (.lst (r.map .int)), .dat (.int k)] (by simp)
    unfold nxD at this
    rw [h, List.getElem?_eq_none (Nat.le_refl _)] at this
    rw [h]
    exact this
  · walk_at "wps"
    have hl : k < r.length := by omega
    refine ⟨by omega, .dat (.int r[k]), by rw [Int.toNat_natCast, List.getElem?_map, List.getElem?_map, List.getElem?_eq_getElem hl]; rfl, ?_⟩
    have := rt [.dat (.lst (r.map .int)), .dat (.int k)] (by simp)
    unfold nxD at this
    rw [List.getElem?_eq_getElem hl] at this
    exact this
/-- what a walker's row names next -/
def nxt (rs : List (List Int)) (dn : List Nat) (m : Nat) : Option Int := (rs.getD m [])[dn.getD m 0]?
def allAhead (rs : List (List Int)) (dn : List Nat) (k : Int) (ms : List Int) : Bool := ms.all fun m => decide (nxt rs dn m.toNat = some k)
structure DnOk (rs : List (List Int)) (dn : List Nat) : Prop where
  l : dn.length = rs.length
  d : ∀ (m k : Nat), dn[m]? = some k → k ≤ (rs.getD m []).length
abbrev oN (dn : List Nat) : Tr := .own (dn.map fun n => .dat (iD n))
def g_all_ahead (C : Addr) : Sg := fnT "all_ahead" 2 (fun a : List (List Int) × List Nat × Int × List Int => [.dat (.lst (a.1.map rL)), oN a.2.1, .dat (.int a.2.2.1), .dat (.lst (a.2.2.2.map .int))]) (fun a => DnOk a.1 a.2.1 ∧ a.2.2.2.length ≤ 4000 ∧ ∀ m ∈ a.2.2.2, 0 ≤ m ∧ m < (a.1.length : Int)) fun a d => d = .bl (allAhead a.1 a.2.1 a.2.2.1 a.2.2.2)
def b_all_ahead (C : Addr) : Ss := (.cons (.ret (.f1 .all (.new (.comp (.v 4) (.l (.var 3)) .no (.v (.cmp .eq (.call (g_next_gate C) (.cons (.ix (.var 0) (.var 4)) (.cons (.ix (.var 1) (.var 4)) .nil))) (.var 2))))))) .nil)
theorem nxD_eq (r : List Int) (k : Nat) (g : Int) : flatD (nxD r k) = true ∧ DOk 8 (nxD r k) ∧ eqD (nxD r k) (.int g) = decide (r[k]? = some g) := by
  unfold nxD
  cases e : r[k]? with
  | none => exact ⟨rfl, dN8, by rw [eqD_ni]; simp⟩
  | some x => exact ⟨rfl, dI8 _, by rw [eqD_ii]; simp⟩
theorem ok_all_ahead (C : Addr) : FnD (g_all_ahead C) 4 5 [1] (b_all_ahead C) := fnT_ok (fun _ => rfl) (fun a i ts h => by
    match i, h with
    | 0, h => cases h
    | 1, h => simp
    | 2, h => cases h
    | 3, h => cases h
    | i + 4, h => simp at h) fun ⟨rs, dn, g, ms⟩ ⟨h1, h2, h3⟩ P rt nx => by
  have h1 : DnOk rs dn := h1
  have h2 : ms.length ≤ 4000 := h2
  have h3 : ∀ m ∈ ms, 0 ≤ m ∧ m < (rs.length : Int) := h3
  unfold b_all_ahead
  walk_at "wps"
  refine ⟨by rw [List.length_map]; omega, compL_mapE Dt.int (fun m => .dat (.bl (decide (nxt rs dn m.toNat = some g)))) (fun m hm K k => ?_) ?_⟩
  · have hm3 := h3 m hm
    obtain ⟨r, hr⟩ : ∃ r, rs[m.toNat]? = some r := ⟨_, List.getElem?_eq_getElem (by omega)⟩
    obtain ⟨c, hc⟩ : ∃ c, dn[m.toNat]? = some c := ⟨_, List.getElem?_eq_getElem (by have := h1.l; omega)⟩
    have hrg : rs.getD m.toNat [] = r := by rw [List.getD_eq_getElem?_getD, hr]; rfl
    have hcg : dn.getD m.toNat 0 = c := by rw [List.getD_eq_getElem?_getD, hc]; rfl
    have hd := h1.d _ _ hc
    rw [hrg] at hd
    dsimp only [slots, wipeV]
    walk_at "wps"
    refine ⟨fun _ => ?_, fun z => (by cases z)⟩
    refine ⟨hm3.1, .dat (rL r), by rw [List.getElem?_map, List.getElem?_map, hr]; rfl, hm3.1, .dat (iD c), by rw [List.getElem?_map, hc]; rfl, ?_⟩
    refine callSN (r, c) rfl (by simp [ownRoots, rootE]) hd ?_ ?_
    · rintro ⟨b1, b2⟩ h
      injection h with q1 q2
      injection q2 with q2 _
      have q1 : b1 = r := rL_inj q1
      have q2 : b2 = c := natI q2
      rw [q1, q2]
    · rintro d rfl
      obtain ⟨q1, q2, q3⟩ := nxD_eq r c g
      refine ⟨rfl, rfl, q2, dI8 _, ?_⟩
      rw [show valT (Tr.dat (nxD (r, c).1 (r, c).2)) = nxD r c from rfl, show valT (Tr.dat (Dt.int g)) = .int g from rfl, q3]
      unfold nxt at k
      rw [hrg, hcg] at k
      exact k
  · have e : (ms.map fun m => Tr.dat (.bl (decide (nxt rs dn m.toNat = some g)))) = (((ms.map fun m => decide (nxt rs dn m.toNat = some g)).map Dt.bl).map Tr.dat) := by rw [List.map_map, List.map_map]; rfl
    rw [e, map_toD]
    refine ⟨all_isD _, all_isB _, ?_⟩
    rw [map_toB]
    refine rt _ _ rfl rfl ?_
    show _ = Dt.bl (allAhead rs dn g ms)
    unfold allAhead
    rw [List.all_map]
    rfl
end LB
namespace LB
open PySem L2 DL DD
/-! foretold -/
def inc (dn : List Nat) (m : Nat) : List Nat := dn.set m (dn.getD m 0 + 1)
def incs : List Nat → List Int → List Nat
  | dn, [] => dn
  | dn, m :: ms => incs (inc dn m.toNat) ms
inductive Reach (gs : List RG) (rs : List (List Int)) : List Nat → Prop
  | zero : Reach gs rs (List.replicate rs.length 0)
  | fire {dn : List Nat} {k : Nat} {g : RG} : Reach gs rs dn → gs[k]? = some g → allAhead rs dn (k : Int) g.2 = true → Reach gs rs (incs dn g.2)
def Stuck (gs : List RG) (rs : List (List Int)) (dn : List Nat) : Prop := ∀ (k : Nat) (g : RG), gs[k]? = some g → allAhead rs dn (k : Int) g.2 = false
theorem inc_len {dn : List Nat} {m : Nat} : (inc dn m).length = dn.length := List.length_set
theorem incs_len : ∀ {ms : List Int} {dn : List Nat}, (incs dn ms).length = dn.length
  | [], _ => rfl
  | m :: ms, dn => by rw [incs, incs_len, inc_len]
theorem incs_snoc : ∀ {ms : List Int} {dn : List Nat} {m : Int}, incs dn (ms ++ [m]) = inc (incs dn ms) m.toNat
  | [], _, _ => rfl
  | a :: ms, dn, m => by rw [List.cons_append, incs, incs_snoc]; rfl
theorem inc_get {dn : List Nat} {m i : Nat} (h : i < dn.length) : (inc dn m).getD i 0 = dn.getD i 0 + (if i = m then 1 else 0) := by
  unfold inc
  rw [List.getD_eq_getElem?_getD, List.getD_eq_getElem?_getD]
  by_cases e : i = m
  · subst e
    rw [List.getElem?_set_self h, if_pos rfl, List.getD_eq_getElem?_getD]
    rfl
  · rw [List.getElem?_set_ne (fun z => e z.symm), if_neg e]; rfl
theorem incs_get : ∀ {ms : List Int} {dn : List Nat} {i : Nat}, i < dn.length → (incs dn ms).getD i 0 = dn.getD i 0 + (ms.map Int.toNat).count i
  | [], dn, i, h => rfl
  | m :: ms, dn, i, h => by
    rw [incs, incs_get (by rw [inc_len]; exact h), inc_get h, List.map_cons, List.count_cons]
    by_cases e : i = m.toNat
    · rw [if_pos e, if_pos (by rw [e]; exact beq_self_eq_true _)]; omega
    · rw [if_neg e, if_neg (fun z => e (beq_iff_eq.mp z).symm)]; omega
theorem sum_set : ∀ {dn : List Nat} {m : Nat}, m < dn.length → (inc dn m).sum = dn.sum + 1
  | [], m, h => by simp at h
  | d :: dn, 0, h => by
    show (d + 1) + dn.sum = d + dn.sum + 1
    omega
  | d :: dn, m + 1, h => by
    have := sum_set (dn := dn) (m := m) (by simpa using h)
    unfold inc at this ⊢
    rw [List.set_cons_succ, List.sum_cons, List.sum_cons]
    have e : (d :: dn).getD (m + 1) 0 = dn.getD m 0 := by simp [List.getD_eq_getElem?_getD]
    rw [e, this]
    omega
theorem incs_sum : ∀ {ms : List Int} {dn : List Nat}, (∀ m ∈ ms, m.toNat < dn.length) → (incs dn ms).sum = dn.sum + ms.length
  | [], dn, h => rfl
  | m :: ms, dn, h => by
    rw [incs, incs_sum (fun x hx => by rw [inc_len]; exact h x (List.mem_cons_of_mem _ hx)), sum_set (h m List.mem_cons_self), List.length_cons]
    omega
theorem sum_le : ∀ {a b : List Nat}, a.length = b.length → (∀ i, i < a.length → a.getD i 0 ≤ b.getD i 0) → a.sum ≤ b.sum
  | [], b, _, _ => by simp
  | x :: a, [], h, _ => by simp at h
  | x :: a, y :: b, h, k => by
    have h1 := k 0 (by simp)
    have h2 := sum_le (a := a) (b := b) (by simpa using h) fun i hi => by
      have := k (i + 1) (by simpa using hi)
      simpa [List.getD_eq_getElem?_getD] using this
    rw [List.sum_cons, List.sum_cons]
    simp at h1
    omega
theorem getD_some {α : Type} {l : List α} {i : Nat} {x d : α} (h : l[i]? = some x) : l.getD i d = x := by rw [List.getD_eq_getElem?_getD, h]; rfl
theorem ms_nd {gs : List RG} {rs : List (List Int)} (ok : RawOk gs rs) {g : RG} (h : g ∈ gs) : (g.2.map Int.toNat).Nodup := toNat_nodup (distinct_nodup (ok.g g h).2.2.2) fun m hm => ((ok.g g h).2.2.1 m hm).1
theorem reach_ok {gs : List RG} {rs : List (List Int)} (ok : RawOk gs rs) {dn : List Nat} (h : Reach gs rs dn) : dn.length = rs.length ∧ ∀ i, i < dn.length → dn.getD i 0 ≤ (rs.getD i []).length := by
  induction h with
  | zero =>
    refine ⟨List.length_replicate, fun i hi => ?_⟩
    rw [getD_some (List.getElem?_replicate_of_lt (by simpa using hi))]
    omega
  | @fire dn k g hr hg ha ih =>
    refine ⟨by rw [incs_len]; exact ih.1, fun i hi => ?_⟩
    rw [incs_len] at hi
    rw [incs_get hi]
    have nd := ms_nd ok (List.mem_of_getElem? hg)
    have hc : (g.2.map Int.toNat).count i ≤ 1 := List.nodup_iff_count.mp nd i
    by_cases hm : i ∈ g.2.map Int.toNat
    · obtain ⟨m, hm1, rfl⟩ := List.mem_map.mp hm
      have h2 := (List.all_eq_true.mp ha) m hm1
      have h2 : nxt rs dn m.toNat = some (k : Int) := of_decide_eq_true h2
      unfold nxt at h2
      have := (List.getElem?_eq_some_iff.mp h2).1
      omega
    · rw [List.count_eq_zero.mpr hm]
      exact ih.2 i hi
theorem reach_dn {gs : List RG} {rs : List (List Int)} (ok : RawOk gs rs) {dn : List Nat} (h : Reach gs rs dn) : DnOk rs dn := ⟨(reach_ok ok h).1, fun m k e => by
  have := (reach_ok ok h).2 m (List.getElem?_eq_some_iff.mp e).1
  rw [getD_some e] at this
  exact this⟩
def tot (rs : List (List Int)) : Nat := (rs.map List.length).sum
theorem reach_sum {gs : List RG} {rs : List (List Int)} (ok : RawOk gs rs) {dn : List Nat} (h : Reach gs rs dn) : dn.sum ≤ tot rs := by
  obtain ⟨h1, h2⟩ := reach_ok ok h
  refine sum_le (by rw [List.length_map]; exact h1) fun i hi => ?_
  have := h2 i hi
  have e : rs[i]? = some rs[i] := List.getElem?_eq_getElem (by omega)
  rw [getD_some e] at this
  rw [getD_some (show (rs.map List.length)[i]? = some rs[i].length by rw [List.getElem?_map, e]; rfl)]
  exact this
def g_foretold (C : Addr) : Sg := fnX "foretold" 3 lsD (fun a => LOk a.1 a.2) (fun a d => listsErr a.1 a.2 = none ∧ ∃ dn, d = .lst (dn.map iD) ∧ Reach a.1 a.2 dn ∧ Stuck a.1 a.2 dn) fun a C => listsErr a.1 a.2 = some C
def b_foretold (C : Addr) : Ss := (.cons (.expr (.call (g_check_lists C) (.cons (.var 0) (.cons (.var 1) .nil)))) (.cons (.own 2 (.rep (.new (.lst (.cons (.v (.int 0)) .nil))) (.f1 .len (.var 1)))) (.cons (.set (.v 3) (.bl true)) (.cons (.whl (.var 3) (.cons (.set (.v 3) (.bl false)) (.cons (.for (.t (.cons (.v 4) (.cons (.t (.cons (.v 5) (.cons (.v 6) .nil))) .nil))) (.en (.var 0)) (.cons (.ite (.call (g_all_ahead C) (.cons (.var 1) (.cons (.var 2) (.cons (.var 4) (.cons (.var 6) .nil))))) (.cons (.set (.v 3) (.bl true)) (.cons (.for (.v 7) (.l (.var 6)) (.cons (.augPut (.v 2) (.var 7) (.int 1)) .nil)) .nil)) .nil) .nil)) .nil))) (.cons (.frz 2) (.cons (.ret (.var 2)) .nil))))))
theorem oN_all (dn : List Nat) : (oN dn : Tr) = .own ((dn.map iD).map .dat) := by unfold oN; rw [List.map_map]; rfl
theorem oN_flat (dn : List Nat) : flatO (oN dn) = true := by
  show (dn.map fun n => Tr.dat (iD n)).all isD = true
  simp [isD]
theorem oN_inj {a b : List Nat} (h : oN a = oN b) : a = b := by
  rw [oN_all, oN_all] at h
  injection h with h
  exact iD_inj (mapdat_inj h)
theorem valDs_dat (ds : List Dt) : valDs (ds.map .dat) = ds := dts_map ds
theorem aa_inj (b a : List (List Int) × List Nat × Int × List Int) (h : ([.dat (.lst (b.1.map rL)), oN b.2.1, .dat (.int b.2.2.1), .dat (.lst (b.2.2.2.map .int))] : List Tr) = [.dat (.lst (a.1.map rL)), oN a.2.1, .dat (.int a.2.2.1), .dat (.lst (a.2.2.2.map .int))]) : b = a := by
  obtain ⟨a1, a2, a3, a4⟩ := a
  obtain ⟨b1, b2, b3, b4⟩ := b
  injection h with h1 h
  injection h with h2 h
  injection h with h3 h
  injection h with h4 _
  injection h1 with h1
  injection h1 with h1
  injection h3 with h3
  injection h3 with h3
  injection h4 with h4
  injection h4 with h4
  have h1 : b1 = a1 := map_inj (fun _ _ => rL_inj) h1
  have h2 : b2 = a2 := oN_inj h2
  have h3 : b3 = a3 := h3
  have h4 : b4 = a4 := int_inj h4
  rw [h1, h2, h3, h4]
end LB
namespace LB
open PySem L2 DL DD
theorem ok_foretold (C : Addr) : FnD (g_foretold C) 2 8 [] (b_foretold C) := fnX_ok (fun _ => rfl) fun ⟨gs, rs⟩ hk P X rt nx hx => by
  have hk : LOk gs rs := hk
  have hx : ∀ C u, listsErr gs rs = some C → X C u := hx
  unfold b_foretold lsD
  refine wp_cut (fun u => u = [.dat (.lst (gs.map gL)), .dat (.lst (rs.map rL)), .un, .un, .un, .un, .un, .un] ∧ listsErr gs rs = none) ?_ ?_
  · walk_at "wps"
    refine callX (gs, rs) rfl rfl hk (fun b h => lsD_inj _ _ h) ?_ ?_
    · rintro d ⟨q, _⟩
      exact ⟨trivial, q⟩
    · intro x q
      exact hx _ _ q
  rintro u ⟨rfl, he⟩
  have ok := raw_of he
  have hlen : ∀ g ∈ gs, g.2.length ≤ 12 := fun g hg => Nat.le_trans (distinct_nd (ok.g g hg).2.2.2 (ok.g g hg).2.2.1) ok.rl.2
  refine wp_cut (fun u => u = [.dat (.lst (gs.map gL)), .dat (.lst (rs.map rL)), oN (List.replicate rs.length 0), .un, .un, .un, .un, .un]) ?_ ?_
  · walk_at "wps"
    have := ok.rl
    rw [List.length_map, List.length_map]
    refine ⟨rfl, rfl, by omega, by omega, by rw [Int.toNat_natCast]; show 1 * rs.length ≤ 90000; omega, ?_⟩
    rw [flat_rep, Int.toNat_natCast]
    unfold oN
    rw [List.map_replicate]
    rfl
  rintro u rfl
  refine wp_cut (fun u => u = [.dat (.lst (gs.map gL)), .dat (.lst (rs.map rL)), oN (List.replicate rs.length 0), .dat (.bl true), .un, .un, .un, .un]) (by walk_at "wps") ?_
  rintro u rfl
  refine wp_whl (fun m u => ∃ dn go a b c d, u = [.dat (.lst (gs.map gL)), .dat (.lst (rs.map rL)), oN dn, .dat (.bl go), a, b, c, d] ∧ Reach gs rs dn ∧ (go = false → Stuck gs rs dn) ∧ m = 2 * (tot rs - dn.sum) + (if go = true then 1 else 0)) _ ⟨_, _, _, _, _, _, rfl, .zero, (fun z => by cases z), rfl⟩ ?_
  rintro m u ⟨dn, go, a, b, c, d, rfl, hr, hs, rfl⟩
  refine wp_test (p := go = true) ?_ (fun hgo => ?_) (fun hgo => ?_)
  · walk_at "wps"
    cases go <;> rfl
  · subst hgo
    refine wp_cut (fun u => u = [.dat (.lst (gs.map gL)), .dat (.lst (rs.map rL)), oN dn, .dat (.bl false), a, b, c, d]) (by walk_at "wps") ?_
    rintro u rfl
    refine wp_for (enumD 0 (gs.map gL)) (by walk_at "wps") (fun k u => ∃ dn' go a b c d, u = [.dat (.lst (gs.map gL)), .dat (.lst (rs.map rL)), oN dn', .dat (.bl go), a, b, c, d] ∧ Reach gs rs dn' ∧ (go = true → dn.sum < dn'.sum) ∧ (go = false → dn' = dn ∧ ∀ j, j < k → ∀ g, gs[j]? = some g → allAhead rs dn (j : Int) g.2 = false)) ⟨_, _, _, _, _, _, rfl, hr, (fun z => by cases z), fun _ => ⟨rfl, fun j hj => absurd hj (Nat.not_lt_zero _)⟩⟩ ?_ ?_
    · rintro k x u hx' ⟨dn', go, a, b, c, d, rfl, hr', h1, h2⟩
      obtain ⟨e, hge, rfl⟩ := enumD_get hx'
      obtain ⟨g, hg, rfl⟩ := map_get hge
      have hgm := List.mem_of_getElem? hg
      have hgo := ok.g g hgm
      rw [show gL g = .tup [.str g.1, .lst (g.2.map .int)] from rfl]
      simp only [asg, asgs, List.set_cons_succ, List.set_cons_zero, Nat.zero_add]
      refine ⟨trivial, trivial, ?_⟩
      refine wp_if1 (p := allAhead rs dn' (k : Int) g.2 = true) ?_ (fun h => ?_) (fun h => ?_)
      · walk_at "wps"
        refine callT (rs, dn', (k : Int), g.2) rfl (by simp [ownRoots, rootE]) (by show (true && (flatO (oN dn') && _)) = true; rw [oN_flat]; rfl) ⟨reach_dn ok hr', by have := hlen g hgm; show g.2.length ≤ 4000; omega, hgo.2.2.1⟩ (fun b h => aa_inj _ _ h) ?_
        rintro _ rfl
        show allAhead rs dn' (k : Int) g.2 = _
        cases allAhead rs dn' (k : Int) g.2 <;> rfl
      · have hr2 := Reach.fire hr' hg h
        have hml : ∀ m ∈ g.2, m.toNat < dn'.length := fun m hm => by
          have := hgo.2.2.1 m hm
          have := (reach_dn ok hr').l
          omega
        have hpos : 0 < g.2.length := List.length_pos_iff.mpr hgo.2.1
        have hsum := incs_sum hml
        refine wp_cut (fun u => ∃ a b d, u = [.dat (.lst (gs.map gL)), .dat (.lst (rs.map rL)), oN dn', .dat (.bl true), a, b, .dat (.lst (g.2.map .int)), d]) (by walk_at "wps"; exact ⟨_, _, _, rfl⟩) ?_
        rintro u ⟨a, b, d, rfl⟩
        refine wp_for (g.2.map .int) (by walk_at "wps") (fun j u => ∃ a b c d, u = [.dat (.lst (gs.map gL)), .dat (.lst (rs.map rL)), oN (incs dn' (g.2.take j)), .dat (.bl true), a, b, c, d]) ⟨_, _, _, _, rfl⟩ ?_ ?_
        · rintro j x u hxj ⟨a, b, c, d, rfl⟩
          obtain ⟨m, hm, rfl⟩ := map_get hxj
          have hmm := List.mem_of_getElem? hm
          have hm0 := (hgo.2.2.1 m hmm).1
          have hlt : m.toNat < (incs dn' (g.2.take j)).length := by rw [incs_len]; exact hml m hmm
          simp only [asg, List.set_cons_succ, List.set_cons_zero]
          generalize hdd : incs dn' (g.2.take j) = dd
          rw [hdd] at hlt
          walk_at "wps"
          refine ⟨dd.map fun n => .dat (iD n), rfl, hm0, (dd[m.toNat] : Int), by rw [List.getElem?_map, List.getElem?_eq_getElem hlt]; rfl, ?_⟩
          refine ⟨a, b, c, .dat (.int m), ?_⟩
          have e : oN (incs dn' (g.2.take (j + 1))) = .own ((dd.map fun n => Tr.dat (iD n)).set m.toNat (.dat (.int ((dd[m.toNat] : Int) + 1)))) := by
            rw [take_snoc hm, incs_snoc, hdd]
            unfold inc oN
            rw [List.map_set, getD_some (List.getElem?_eq_getElem hlt)]
            rfl
          rw [e]
          rfl
        · rintro u ⟨a, b, c, d, rfl⟩
          rw [List.length_map, List.take_length]
          refine ⟨_, _, _, _, _, _, rfl, hr2, fun _ => ?_, fun z => (by cases z)⟩
          rw [hsum]
          cases go with
          | true => have := h1 rfl; omega
          | false => rw [(h2 rfl).1]; omega
      · have h : allAhead rs dn' (k : Int) g.2 = false := by simpa using h
        refine ⟨_, _, _, _, _, _, rfl, hr', h1, fun z => ?_⟩
        obtain ⟨q1, q2⟩ := h2 z
        refine ⟨q1, fun j hj g' hg' => ?_⟩
        rcases Nat.lt_succ_iff_lt_or_eq.mp hj with z | z
        · exact q2 j z g' hg'
        · subst z
          rw [hg] at hg'
          cases hg'
          rw [← q1]
          exact h
    · rintro u ⟨dn', go, a, b, c, d, rfl, hr', h1, h2⟩
      have hb := reach_sum ok hr'
      have hb0 := reach_sum ok hr
      have fin : go = false → Stuck gs rs dn' := fun z j g hg => by
        obtain ⟨q1, q2⟩ := h2 z
        rw [q1]
        exact q2 j (by rw [enumD_len, List.length_map]; exact (List.getElem?_eq_some_iff.mp hg).1) g hg
      refine ⟨_, ?_, dn', go, a, b, c, d, rfl, hr', fin, rfl⟩
      cases go with
      | true =>
        have := h1 rfl
        simp only [if_true]
        omega
      | false =>
        rw [(h2 rfl).1]
        simp
  · have hgo : go = false := by simpa using hgo
    walk_at "wps"
    refine ⟨_, rfl, ?_⟩
    rw [show (dn.map fun n => Tr.dat (iD n)) = (dn.map iD).map .dat by rw [List.map_map]; rfl]
    dsimp only
    rw [valDs_dat]
    exact rt _ _ (by simp) ⟨he, dn, rfl, hr, hs hgo⟩
end LB
/-! how the laws draw a hall -/
namespace LB
open PySem L2 DL DD
def g__law_cell_at (C : Addr) : Sg := fnS "_law_cell_at" 1 (fun a : List Int × Nat => [.scr (a.1.map .int), iD a.2]) (fun _ => True) fun a d => d = .int (a.1.getD a.2 0)
def b__law_cell_at (C : Addr) : Ss := (.cons (.ite (.cmp .lt (.var 1) (.f1 .len (.var 0))) (.cons (.ret (.ix (.var 0) (.var 1))) .nil) .nil) (.cons (.ret (.int 0)) .nil))
theorem ok__law_cell_at (C : Addr) : FnD (g__law_cell_at C) 2 2 [] (b__law_cell_at C) := fnS_ok (fun _ => rfl) fun ⟨ns, k⟩ hk P rt nx => by
  have rt : ∀ d u, 2 ≤ u.length → d = .int (ns.getD k 0) → P.rt (.dat d) u := rt
  unfold b__law_cell_at
  refine wp_if1 (p := k < ns.length) ?_ (fun h => ?_) (fun h => ?_)
  · walk_at "wps"
    rw [List.length_map, List.length_map]
    exact decide_eq_decide.mpr (by omega)
  · walk_at "wps"
    refine ⟨by omega, .dat (.int ns[k]), by rw [Int.toNat_natCast, List.getElem?_map, List.getElem?_map, List.getElem?_eq_getElem h]; rfl, rt _ _ (by simp) ?_⟩
    rw [getD_some (List.getElem?_eq_getElem h)]
  · walk_at "wps"
    refine rt _ _ (by simp) ?_
    rw [List.getD_eq_getElem?_getD, List.getElem?_eq_none (by omega)]
    rfl
def mixF (c k : Int) : Int := ((c + 7919 * k) * 48271 % 2147483647) * ((c + 7919 * k) * 48271 % 2147483647) % 2147483647
theorem mixF_nn (c k : Int) : 0 ≤ mixF c k ∧ mixF c k < 2147483647 := ⟨Int.emod_nonneg _ (by decide), Int.emod_lt_of_pos _ (by decide)⟩
def g__law_mixed (C : Addr) : Sg := fnS "_law_mixed" 1 (fun a : Int × Int => [.int a.1, .int a.2]) (fun _ => True) fun a d => d = .int (mixF a.1 a.2)
def b__law_mixed (C : Addr) : Ss := (.cons (.set (.v 2) (.bin .mod (.bin .mul (.bin .add (.var 0) (.bin .mul (.int 7919) (.var 1))) (.int 48271)) (.int 2147483647))) (.cons (.ret (.bin .mod (.bin .mul (.var 2) (.var 2)) (.int 2147483647))) .nil))
theorem ok__law_mixed (C : Addr) : FnD (g__law_mixed C) 2 3 [] (b__law_mixed C) := fnS_ok (fun _ => rfl) fun ⟨c, k⟩ hk P rt nx => by
  unfold b__law_mixed
  walk_at "wps"
  refine ⟨.inl ⟨by decide, by decide⟩, .inr ⟨by decide, by decide⟩, by decide, .inl ?_, by decide, rt _ _ (by simp) rfl⟩
  have h1 := Int.emod_nonneg ((c + 7919 * k) * 48271) (show (2147483647 : Int) ≠ 0 by decide)
  have h2 := Int.emod_lt_of_pos ((c + 7919 * k) * 48271) (show (0 : Int) < 2147483647 by decide)
  exact ⟨by omega, by omega⟩
/-- what a gate's members are -/
structure MemOk (n : Nat) (ms : List Nat) : Prop where
  ne : ms ≠ []
  nd : ms.Nodup
  lt : ∀ m ∈ ms, m < n
def nL (ms : List Nat) : Dt := .lst (ms.map iD)
theorem nL_inj {a b : List Nat} (h : nL a = nL b) : a = b := by
  unfold nL at h
  injection h with h
  exact iD_inj h
def g__law_members (C : Addr) : Sg := fnS "_law_members" 2 (fun a : Int × Nat => [.int a.1, iD a.2]) (fun a => 1 ≤ a.2 ∧ a.2 ≤ 12) fun a d => ∃ ms, d = nL ms ∧ MemOk a.2 ms
def b__law_members (C : Addr) : Ss := (.cons (.own 2 (.lst .nil)) (.cons (.set (.v 3) (.bin .mod (.var 0) (.int 4095))) (.cons (.for (.v 4) (.r (.var 1)) (.cons (.ite (.or (.cmp .eq (.bin .mod (.var 3) (.int 2)) (.int 1)) (.cmp .eq (.bin .mod (.bin .div (.var 0) (.int 4095)) (.int 3)) (.int 1))) (.cons (.app (.v 2) (.v (.var 4))) .nil) .nil) (.cons (.set (.v 3) (.bin .div (.var 3) (.int 2))) .nil))) (.cons (.ite (.cmp .eq (.f1 .len (.var 2)) (.int 0)) (.cons (.own 2 (.lst (.cons (.v (.bin .mod (.bin .div (.var 0) (.int 4095)) (.var 1))) .nil))) .nil) .nil) (.cons (.ite (.cmp .eq (.bin .mod (.bin .div (.var 0) (.int 294840)) (.int 3)) (.int 1)) (.cons (.mov 3 2) (.cons (.own 2 (.lst .nil)) (.cons (.whl (.cmp .gt (.f1 .len (.var 3)) (.int 0)) (.cons (.appPop 2 3 (.bin .mod (.call (g__law_mixed C) (.cons (.var 0) (.cons (.f1 .len (.var 3)) .nil))) (.f1 .len (.var 3)))) .nil)) (.cons (.frz 3) .nil)))) .nil) (.cons (.set (.v 5) (.bin .mod (.bin .div (.var 0) (.int 12285)) (.f1 .len (.var 2)))) (.cons (.ite (.cmp .eq (.bin .mod (.bin .div (.var 0) (.int 147420)) (.int 2)) (.int 1)) (.cons (.rev (.v 2)) .nil) .nil) (.cons (.ret (.new (.cat (.new (.sl (.var 2) (.so (.var 5)) .no)) (.new (.sl (.var 2) .no (.so (.var 5))))))) .nil))))))))
theorem rngD_len (n : Nat) : (rngD n).length = n := by unfold rngD; rw [List.length_map, List.length_range]
theorem rngD_get {n k : Nat} {d : Dt} (h : (rngD n)[k]? = some d) : k < n ∧ d = iD k := by
  unfold rngD at h
  rw [List.getElem?_map] at h
  have hk : k < n := by
    rcases Nat.lt_or_ge k n with z | z
    · exact z
    · rw [List.getElem?_eq_none (by simpa using z)] at h; cases h
  rw [List.getElem?_range hk] at h
  exact ⟨hk, (Option.some.inj h).symm⟩
abbrev oL (ms : List Nat) : Tr := .own ((ms.map iD).map .dat)
theorem oL_snoc (ms : List Nat) (m : Nat) : ((ms.map iD).map Tr.dat) ++ [Tr.dat (iD m)] = ((ms ++ [m]).map iD).map .dat := by simp
theorem cut_hi {α : Type} (l : List α) (k : Nat) (h : k ≤ l.length) : cutN l none (some k) = l.take k := by
  unfold cutN
  simp [Nat.min_eq_left h]
theorem cut_lo {α : Type} (l : List α) (k : Nat) : cutN l (some k) none = l.drop k := by
  unfold cutN
  simp
  rw [List.take_of_length_le (by simp)]
theorem cut_map {α β : Type} (f : α → β) (l : List α) (a b : Option Nat) : cutN (l.map f) a b = (cutN l a b).map f := by
  unfold cutN
  simp [List.map_take, List.map_drop]
theorem cut_from {l : List Tr} {i : Int} {Q : List Tr → Prop} (h : 0 ≤ i) (q : Q (l.drop i.toNat)) : cutO (some i) none l Q := by
  refine ⟨fun j e => by cases e; exact h, fun j e => (by cases e), ?_⟩
  show Q (cutN l (some i.toNat) none)
  rw [cut_lo]; exact q
theorem cut_to {l : List Tr} {i : Int} {Q : List Tr → Prop} (h : 0 ≤ i) (h2 : i ≤ (l.length : Nat)) (q : Q (l.take i.toNat)) : cutO none (some i) l Q := by
  refine ⟨fun j e => (by cases e), fun j e => by cases e; exact h, ?_⟩
  show Q (cutN l none (some i.toNat))
  rw [cut_hi _ _ (by omega)]; exact q
/-- rotation keeps the members -/
theorem MemOk.rot {n k : Nat} {ms : List Nat} (h : MemOk n ms) : MemOk n (ms.drop k ++ ms.take k) := by
  have p : (ms.drop k ++ ms.take k).Perm ms := by
    refine List.perm_append_comm.trans ?_
    rw [List.take_append_drop]
  exact ⟨fun e => h.ne (List.perm_nil.mp (e ▸ p).symm), p.nodup_iff.mpr h.nd, fun m hm => h.lt m (p.mem_iff.mp hm)⟩
end LB
namespace LB
open PySem L2 DL DD
section
variable {X : Str → DD.Env → Prop} {v : DD.Env} {P : Po}
/-- a test of which nothing is asked -/
theorem wp_any {c : E} {a ss : Ss} (h : wpE X v c (asB fun _ => True)) (h1 : wpSs X v a { P with nx := fun u => wpSs X u ss P }) (h2 : wpSs X v ss P) : wpSs X v (.cons (.ite c a .nil) ss) P :=
  wpE_mono c h (fun t h => asB_mono h fun k _ => ⟨fun _ => h1, fun _ => h2⟩) fun _ z => z
theorem wp_any2 {c : E} {a b ss : Ss} (h : wpE X v c (asB fun _ => True)) (h1 : wpSs X v a { P with nx := fun u => wpSs X u ss P }) (h2 : wpSs X v b { P with nx := fun u => wpSs X u ss P }) : wpSs X v (.cons (.ite c a b) ss) P :=
  wpE_mono c h (fun t h => asB_mono h fun k _ => ⟨fun _ => h1, fun _ => h2⟩) fun _ z => z
end
/- closes what is plain -/
end LB
local macro_rules | `(tactic| walk_at "wpt") => `(tactic| repeat' (first | exact trivial | exact rfl | exact LB.dI8 _ | exact LB.dN8 | decide | omega | (refine And.intro ?_ ?_) | (intro _)))
namespace LB
open PySem L2 DL DD
theorem cm_inj (b a : Int × Int) (h : ([.int b.1, .int b.2] : List Dt) = [.int a.1, .int a.2]) : b = a := by
  obtain ⟨a1, a2⟩ := a
  obtain ⟨b1, b2⟩ := b
  injection h with h1 h
  injection h with h2 _
  injection h1 with h1
  injection h2 with h2
  dsimp only at h1 h2
  rw [h1, h2]
theorem oL_app (fs : List Nat) (k : Nat) : Tr.own (((fs.map iD).map Tr.dat) ++ [Tr.dat (Dt.int (k : Nat))]) = oL (fs ++ [k]) := by
  rw [show Tr.dat (Dt.int (k : Nat)) = Tr.dat (iD k) from rfl, oL_snoc]
theorem erase_map {α β : Type} (f : α → β) : ∀ (l : List α) (i : Nat), (l.map f).eraseIdx i = (l.eraseIdx i).map f
  | [], i => by simp
  | a :: l, 0 => rfl
  | a :: l, i + 1 => by
    show f a :: (l.map f).eraseIdx i = f a :: (l.eraseIdx i).map f
    rw [erase_map f l i]
theorem ok__law_members (C : Addr) : FnD (g__law_members C) 2 6 [] (b__law_members C) := fnS_ok (fun _ => rfl) fun ⟨c, n⟩ ⟨hn1, hn2⟩ P rt nx => by
  have hn1 : 1 ≤ n := hn1
  have hn2 : n ≤ 12 := hn2
  have rt : ∀ d u, 2 ≤ u.length → (∃ ms, d = nL ms ∧ MemOk n ms) → P.rt (.dat d) u := rt
  unfold b__law_members
  refine wp_cut (fun u => u = [.dat (.int c), .dat (iD n), oL [], .un, .un, .un]) (by walk_at "wps"; rfl) ?_
  rintro u rfl
  refine wp_cut (fun u => ∃ lf, u = [.dat (.int c), .dat (iD n), oL [], .dat (.int lf), .un, .un]) (by walk_at "wps"; exact ⟨by decide, _, rfl⟩) ?_
  rintro u ⟨lf, rfl⟩
  refine wp_for (rngD n) (by walk_at "wps"; exact ⟨by omega, by omega, by rw [Int.toNat_natCast]⟩) (fun k u => ∃ fs lf t, u = [.dat (.int c), .dat (iD n), oL fs, .dat (.int lf), t, .un] ∧ fs.Nodup ∧ (∀ x ∈ fs, x < k)) ⟨[], lf, .un, rfl, List.nodup_nil, fun x hx => nomatch hx⟩ ?_ ?_
  · rintro k d u hk ⟨fs, lf, t, rfl, nd, hlt⟩
    obtain ⟨hk, rfl⟩ := rngD_get hk
    have hfl : fs.length ≤ k := nd_le k fs nd hlt
    simp only [asg, List.set_cons_succ, List.set_cons_zero]
    refine wp_any (by walk_at "wps"; walk_at "wpt") ?_ ?_
    · walk_at "wps"
      refine ⟨_, rfl, by rw [List.length_map, List.length_map]; omega, ⟨by decide, by decide⟩, fs ++ [k], lf / 2, _, by rw [oL_app]; rfl, ?_, fun x hx => ?_⟩
      · exact List.nodup_append.mpr ⟨nd, by simp, fun a ha b hb e => by have := hlt a ha; simp at hb; omega⟩
      · rcases List.mem_append.mp hx with z | z
        · have := hlt x z; omega
        · simp at z; omega
    · walk_at "wps"
      exact ⟨⟨by decide, by decide⟩, fs, lf / 2, _, rfl, nd, fun x hx => by have := hlt x hx; omega⟩
  rintro u ⟨fs, lf, t, rfl, nd, hlt⟩
  rw [rngD_len] at hlt
  have hfl : fs.length ≤ n := nd_le n fs nd hlt
  -- at least one
  refine wp_cut (fun u => ∃ fs, u = [.dat (.int c), .dat (iD n), oL fs, .dat (.int lf), t, .un] ∧ MemOk n fs) ?_ ?_
  · refine wp_if (p := fs = []) ?_ (fun h => ?_) (fun h => ?_)
    · walk_at "wps"
      rw [List.length_map, List.length_map]
      refine ⟨rfl, rfl, dI8 _, dI8 _, ?_⟩
      rw [show valT _ = .int _ from rfl, show valT _ = .int _ from rfl, eqD_ii]
      refine decide_eq_decide.mpr ?_
      rw [← List.length_eq_zero_iff]
      omega
    · walk_at "wps"
      have h1 := Int.emod_nonneg (c / 4095) (show (n : Int) ≠ 0 by omega)
      have h2 := Int.emod_lt_of_pos (c / 4095) (show (0 : Int) < n by omega)
      refine ⟨⟨by decide, by decide⟩, by omega, [(c / 4095 % n).toNat], ?_, ⟨by simp, by simp, fun m hm => ?_⟩⟩
      · simp [iD, Int.toNat_of_nonneg h1]
      · simp at hm; omega
    · walk_at "wps"
      exact ⟨fs, rfl, h, nd, hlt⟩
  clear nd hlt hfl
  rintro u ⟨fs, rfl, hm⟩
  have hfl : fs.length ≤ n := nd_le n fs hm.nd hm.lt
  -- shuffled
  refine wp_cut (fun u => ∃ fs a b, u = [.dat (.int c), .dat (iD n), oL fs, a, b, .un] ∧ MemOk n fs) ?_ ?_
  · refine wp_if (p := (c / 294840 % 3 = 1)) ?_ (fun h => ?_) (fun h => ?_)
    · walk_at "wps"
      refine ⟨⟨by decide, by decide⟩, by decide, rfl, rfl, dI8 _, dI8 _, ?_⟩
      exact eqD_ii
    · refine wp_cut (fun u => u = [.dat (.int c), .dat (iD n), .un, oL fs, t, .un]) (by walk_at "wps"; exact ⟨_, rfl, by decide, rfl⟩) ?_
      rintro u rfl
      refine wp_cut (fun u => u = [.dat (.int c), .dat (iD n), oL [], oL fs, t, .un]) (by walk_at "wps"; rfl) ?_
      rintro u rfl
      refine wp_whl (fun m u => ∃ as bs, u = [.dat (.int c), .dat (iD n), oL as, oL bs, t, .un] ∧ (as ++ bs).Perm fs ∧ m = bs.length) _ ⟨[], fs, rfl, List.Perm.refl _, rfl⟩ ?_
      rintro m u ⟨as, bs, rfl, hp, rfl⟩
      have hpl : as.length + bs.length = fs.length := by have := hp.length_eq; simpa using this
      refine wp_test (p := 0 < bs.length) ?_ (fun h => ?_) (fun h => ?_)
      · walk_at "wps"
        rw [List.length_map, List.length_map]
        exact decide_eq_decide.mpr (by omega)
      · walk_at "wps"
        refine ⟨_, rfl, _, rfl, ?_⟩
        refine callSN (c, ((bs.length : Nat) : Int)) (by rw [List.length_map, List.length_map]; rfl) (by simp [ownRoots, rootE]) trivial (fun b h => cm_inj _ _ h) ?_
        rintro d rfl
        walk_at "wps"
        rw [List.length_map, List.length_map, List.length_map, List.length_map]
        have h1 := Int.emod_nonneg (mixF c (bs.length : Nat)) (show ((bs.length : Nat) : Int) ≠ 0 by omega)
        have h2 := Int.emod_lt_of_pos (mixF c (bs.length : Nat)) (show (0 : Int) < (bs.length : Nat) by omega)
        generalize hj : mixF c (bs.length : Nat) % (bs.length : Nat) = j at *
        obtain ⟨x, hx⟩ : ∃ x, bs[j.toNat]? = some x := ⟨_, List.getElem?_eq_getElem (by omega)⟩
        have hb : bs = bs.take j.toNat ++ x :: bs.drop (j.toNat + 1) := by rw [← drop_hd hx, List.take_append_drop]
        have he : bs.eraseIdx j.toNat = bs.take j.toNat ++ bs.drop (j.toNat + 1) := List.eraseIdx_eq_take_drop_succ _ _
        refine ⟨by omega, h1, by omega, by omega, by decide, iD x, by rw [List.getElem?_map, List.getElem?_map, hx]; rfl, (bs.eraseIdx j.toNat).length, ?_, as ++ [x], bs.eraseIdx j.toNat, ?_, ?_, rfl⟩
        · rw [List.length_eraseIdx]; split <;> omega
        · rw [oL_snoc]
          rw [erase_map, erase_map]
        · refine List.Perm.trans ?_ hp
          rw [he, List.append_assoc]
          refine List.Perm.append_left as ?_
          show (x :: (bs.take j.toNat ++ bs.drop (j.toNat + 1))).Perm bs
          conv => rhs; rw [hb]
          exact List.perm_middle.symm
      · have hb0 : bs = [] := List.length_eq_zero_iff.mp (by omega)
        subst hb0
        rw [List.append_nil] at hp
        walk_at "wps"
        refine ⟨_, rfl, as, _, _, rfl, fun e => hm.ne ?_, hp.nodup_iff.mpr hm.nd, fun m h => hm.lt m (hp.mem_iff.mp h)⟩
        rw [e] at hp
        exact List.perm_nil.mp hp.symm
    · walk_at "wps"
      exact ⟨fs, _, _, rfl, hm⟩
  clear hm hfl
  rintro u ⟨fs, a, b, rfl, hm⟩
  have hfl : fs.length ≤ n := nd_le n fs hm.nd hm.lt
  have hpos : 0 < fs.length := List.length_pos_iff.mpr hm.ne
  have h1 := Int.emod_nonneg (c / 12285) (show ((fs.length : Nat) : Int) ≠ 0 by omega)
  have h2 := Int.emod_lt_of_pos (c / 12285) (show (0 : Int) < (fs.length : Nat) by omega)
  refine wp_cut (fun u => u = [.dat (.int c), .dat (iD n), oL fs, a, b, .dat (.int (c / 12285 % (fs.length : Nat)))]) ?_ ?_
  · walk_at "wps"
    rw [List.length_map, List.length_map]
    exact ⟨⟨by decide, by decide⟩, by omega, rfl⟩
  rintro u rfl
  generalize hat : c / 12285 % ((fs.length : Nat) : Int) = at_ at *
  refine wp_cut (fun u => ∃ gs, u = [.dat (.int c), .dat (iD n), oL gs, a, b, .dat (.int at_)] ∧ MemOk n gs ∧ gs.length = fs.length) ?_ ?_
  · refine wpE_mono _ (Q := asB fun _ => True) ?_ (fun t h => asB_mono h fun k _ => ⟨fun _ => ?_, fun _ => ?_⟩) fun _ z => z
    · walk_at "wps"; walk_at "wpt"
    · walk_at "wps"
      refine ⟨_, rfl, fs.reverse, ?_, ⟨by simpa using hm.ne, (List.reverse_perm fs).nodup_iff.mpr hm.nd, fun m h => hm.lt m (List.mem_reverse.mp h)⟩, List.length_reverse⟩
      simp only [oL, List.map_reverse]
      rfl
    · walk_at "wps"
      exact ⟨fs, rfl, hm, rfl⟩
  rintro u ⟨gs, rfl, hg, hgl⟩
  walk_at "wps"
  refine ⟨all_isD _, cut_from h1 ?_⟩
  rw [← List.map_drop, ← List.map_drop]
  refine ⟨all_isD _, all_isD _, cut_to h1 (by rw [List.length_map, List.length_map]; omega) ?_⟩
  rw [← List.map_take, ← List.map_take, map_toD, map_toD]
  refine ⟨all_isD _, all_isD _, all_isD _, ?_, ?_, ?_⟩
  · simp; omega
  · rw [← List.map_append]; exact all_isD _
  rw [← List.map_append, map_toD, ← List.map_append]
  exact rt _ _ (by simp) ⟨_, rfl, hg.rot⟩
end LB
namespace LB
open PySem L2 DL DD
abbrev oD (ds : List Dt) : Tr := .own (ds.map .dat)
def gtD (gs : List (Bool × List Nat)) : Dt := .lst (gs.map gateL)
def rwD (rs : List (List Nat)) : Dt := .lst (rs.map rowL)
theorem kS_inj {a b : Bool} (h : kS a = kS b) : a = b := by
  revert h
  cases a <;> cases b <;> (intro h; first | rfl | (revert h; decide +kernel))
theorem gateL_inj {a b : Bool × List Nat} (h : gateL a = gateL b) : a = b := by
  obtain ⟨a1, a2⟩ := a
  obtain ⟨b1, b2⟩ := b
  unfold gateL at h
  injection h with h
  injection h with h1 h2
  injection h2 with h2 _
  injection h2 with h2
  have h1 : a1 = b1 := kS_inj (str_inj h1)
  have h2 : a2 = b2 := iD_inj h2
  rw [h1, h2]
theorem rowL_inj {a b : List Nat} (h : rowL a = rowL b) : a = b := by
  unfold rowL at h
  injection h with h
  exact iD_inj h
theorem gtD_inj {a b : List (Bool × List Nat)} (h : gtD a = gtD b) : a = b := by
  unfold gtD at h
  injection h with h
  exact map_inj (fun _ _ => gateL_inj) h
theorem rwD_inj {a b : List (List Nat)} (h : rwD a = rwD b) : a = b := by
  unfold rwD at h
  injection h with h
  exact map_inj (fun _ _ => rowL_inj) h
theorem cn_inj (b a : Int × Nat) (h : ([.int b.1, iD b.2] : List Dt) = [.int a.1, iD a.2]) : b = a := by
  obtain ⟨a1, a2⟩ := a
  obtain ⟨b1, b2⟩ := b
  injection h with h1 h
  injection h with h2 _
  injection h1 with h1
  have h1 : b1 = a1 := h1
  have h2 : b2 = a2 := natI h2
  rw [h1, h2]
def g__law_gates (C : Addr) : Sg := fnS "_law_gates" 3 (fun a : Int × Nat × Nat => [.int a.1, iD a.2.1, iD a.2.2]) (fun a => 1 ≤ a.2.1 ∧ a.2.1 ≤ 12 ∧ a.2.2 ≤ 12) fun a d => ∃ gs, d = gtD gs ∧ gs.length = a.2.2 ∧ ∀ g ∈ gs, MemOk a.2.1 g.2
def b__law_gates (C : Addr) : Ss := (.cons (.own 3 (.lst .nil)) (.cons (.for (.v 4) (.r (.var 2)) (.cons (.set (.v 5) (.call (g__law_mixed C) (.cons (.var 0) (.cons (.bin .add (.var 4) (.int 1)) .nil)))) (.cons (.app (.v 3) (.v (.tup (.cons (.ix (.new (.lst (.cons (.v (.str "count")) (.cons (.v (.str "row")) .nil)))) (.bin .mod (.var 5) (.int 2))) (.cons (.call (g__law_members C) (.cons (.bin .div (.var 5) (.int 2)) (.cons (.var 1) .nil))) .nil))))) .nil))) (.cons (.frz 3) (.cons (.ret (.var 3)) .nil))))
theorem own_none {v : DD.Env} {es : Es} (h : ownRoots v es = []) : (ownRoots v es).Nodup := by rw [h]; exact List.nodup_nil
theorem ok__law_gates (C : Addr) : FnD (g__law_gates C) 3 6 [] (b__law_gates C) := fnS_ok (fun _ => rfl) fun ⟨c, n, m⟩ ⟨hn1, hn2, hm⟩ P rt nx => by
  have hn1 : 1 ≤ n := hn1
  have hn2 : n ≤ 12 := hn2
  have hm : m ≤ 12 := hm
  have rt : ∀ d u, 3 ≤ u.length → (∃ gs, d = gtD gs ∧ gs.length = m ∧ ∀ g ∈ gs, MemOk n g.2) → P.rt (.dat d) u := rt
  unfold b__law_gates
  refine wp_cut (fun u => u = [.dat (.int c), .dat (iD n), .dat (iD m), oD [], .un, .un]) (by walk_at "wps"; rfl) ?_
  rintro u rfl
  refine wp_for (rngD m) (by walk_at "wps"; exact ⟨by omega, by omega, by rw [Int.toNat_natCast]⟩) (fun k u => ∃ gs a b, u = [.dat (.int c), .dat (iD n), .dat (iD m), oD (gs.map gateL), a, b] ∧ gs.length = k ∧ ∀ g ∈ gs, MemOk n g.2) ⟨[], _, _, rfl, rfl, fun _ z => nomatch z⟩ ?_ ?_
  · rintro k d u hk ⟨gs, a, b, rfl, hl, hg⟩
    obtain ⟨hk, rfl⟩ := rngD_get hk
    simp only [asg, List.set_cons_succ, List.set_cons_zero]
    refine wp_cut (fun u => ∃ x, u = [.dat (.int c), .dat (iD n), .dat (iD m), oD (gs.map gateL), .dat (iD k), .dat (.int x)]) ?_ ?_
    · walk_at "wps"
      refine callS (c, (k : Int) + 1) rfl (by simp [ownRoots, rootE]) trivial (fun b h => cm_inj _ _ h) ?_
      rintro d rfl
      exact ⟨_, rfl⟩
    rintro u ⟨x, rfl⟩
    walk_at "wps"
    refine ⟨_, rfl, by rw [List.length_map, List.length_map]; omega, rfl, by decide, Int.emod_nonneg _ (by decide), ?_⟩
    have hx : x % 2 = 0 ∨ x % 2 = 1 := by omega
    obtain ⟨kd, hkd⟩ : ∃ kd : Bool, ([Tr.dat (.str "count"), .dat (.str "row")] : List Tr)[(x % 2).toNat]? = some (.dat (.str (kS kd))) := by
      rcases hx with h | h
      · exact ⟨false, by rw [h]; rfl⟩
      · exact ⟨true, by rw [h]; rfl⟩
    refine ⟨_, hkd, ⟨by decide, by decide⟩, ?_⟩
    refine callS (x / 2, n) rfl (by simp [ownRoots, rootE]) ⟨hn1, hn2⟩ (fun b h => cn_inj _ _ h) ?_
    rintro d ⟨ms, rfl, hms⟩
    refine ⟨rfl, gs ++ [(kd, ms)], .dat (iD k), .dat (.int x), ?_, by rw [List.length_append, hl]; rfl, fun g hg' => ?_⟩
    · show [_, _, _, Tr.own _, _, _] = _
      simp only [oD, List.map_append]
      rfl
    · rcases List.mem_append.mp hg' with z | z
      · exact hg g z
      · obtain rfl := List.mem_singleton.mp z
        exact hms
  · rintro u ⟨gs, a, b, rfl, hl, hg⟩
    rw [rngD_len] at hl
    walk_at "wps"
    refine ⟨_, rfl, ?_⟩
    dsimp only
    rw [valDs_dat]
    exact rt _ _ (by simp) ⟨gs, rfl, hl, hg⟩
def g__law_sequence (C : Addr) : Sg := fnS "_law_sequence" 2 (fun a : Int × Nat × Nat => [.int a.1, iD a.2.1, iD a.2.2]) (fun a => 1 ≤ a.2.1 ∧ a.2.2 ≤ 1000) fun a d => ∃ l, d = nL l ∧ l.length = a.2.2 ∧ ∀ x ∈ l, x < a.2.1
def b__law_sequence (C : Addr) : Ss := (.cons (.own 3 (.lst .nil)) (.cons (.for (.v 4) (.r (.var 2)) (.cons (.set (.v 5) (.call (g__law_mixed C) (.cons (.var 0) (.cons (.bin .add (.var 4) (.int 5)) .nil)))) (.cons (.ite (.or (.cmp .eq (.var 4) (.int 0)) (.cmp .eq (.bin .mod (.var 5) (.int 2)) (.int 1))) (.cons (.app (.v 3) (.v (.bin .mod (.bin .div (.var 5) (.int 2)) (.var 1)))) .nil) (.cons (.app (.v 3) (.v (.ix (.var 3) (.bin .sub (.var 4) (.int 1))))) .nil)) .nil))) (.cons (.frz 3) (.cons (.ret (.var 3)) .nil))))
theorem ok__law_sequence (C : Addr) : FnD (g__law_sequence C) 3 6 [] (b__law_sequence C) := fnS_ok (fun _ => rfl) fun ⟨c, n, m⟩ ⟨hn, hm⟩ P rt nx => by
  have hn : 1 ≤ n := hn
  have hm : m ≤ 1000 := hm
  have rt : ∀ d u, 3 ≤ u.length → (∃ l, d = nL l ∧ l.length = m ∧ ∀ x ∈ l, x < n) → P.rt (.dat d) u := rt
  unfold b__law_sequence
  refine wp_cut (fun u => u = [.dat (.int c), .dat (iD n), .dat (iD m), oL [], .un, .un]) (by walk_at "wps"; rfl) ?_
  rintro u rfl
  refine wp_for (rngD m) (by walk_at "wps"; exact ⟨by omega, by omega, by rw [Int.toNat_natCast]⟩) (fun k u => ∃ l a b, u = [.dat (.int c), .dat (iD n), .dat (iD m), oL l, a, b] ∧ l.length = k ∧ ∀ x ∈ l, x < n) ⟨[], _, _, rfl, rfl, fun _ z => nomatch z⟩ ?_ ?_
  · rintro k d u hk ⟨l, a, b, rfl, hl, hg⟩
    obtain ⟨hk, rfl⟩ := rngD_get hk
    simp only [asg, List.set_cons_succ, List.set_cons_zero]
    refine wp_cut (fun u => ∃ x, u = [.dat (.int c), .dat (iD n), .dat (iD m), oL l, .dat (iD k), .dat (.int x)]) ?_ ?_
    · walk_at "wps"
      refine callS (c, (k : Int) + 5) rfl (by simp [ownRoots, rootE]) trivial (fun b h => cm_inj _ _ h) ?_
      rintro d rfl
      exact ⟨_, rfl⟩
    rintro u ⟨x, rfl⟩
    have app : ∀ y : Nat, y < n → ∃ l' a b, putT [Tr.dat (.int c), .dat (.int (n : Nat)), .dat (.int (m : Nat)), oL l, .dat (.int (k : Nat)), .dat (.int x)] [3] (.own ((l.map iD).map .dat ++ [.dat (iD y)])) = [.dat (.int c), .dat (iD n), .dat (iD m), oL l', a, b] ∧ l'.length = k + 1 ∧ ∀ x ∈ l', x < n := fun y hy => by
      refine ⟨l ++ [y], _, _, by rw [oL_snoc]; rfl, by rw [List.length_append, hl]; rfl, fun z hz => ?_⟩
      rcases List.mem_append.mp hz with q | q
      · exact hg z q
      · obtain rfl := List.mem_singleton.mp q
        exact hy
    refine wpE_mono _ (Q := asB fun b => b = decide (k = 0 ∨ x % 2 = 1)) ?_ (fun t h => asB_mono h fun b hb => ⟨fun z => ?_, fun z => ?_⟩) fun _ z => z
    · walk_at "wps"
      rw [show valT (Tr.dat (.int (k : Int))) = .int k from rfl, show valT (Tr.dat (.int (0 : Int))) = .int 0 from rfl, show valT (Tr.dat (.int (x % 2))) = .int (x % 2) from rfl, show valT (Tr.dat (.int (1 : Int))) = .int 1 from rfl, eqD_ii, eqD_ii]
      refine ⟨rfl, rfl, dI8 _, dI8 _, fun z => ⟨by decide, rfl, rfl, dI8 _, dI8 _, ?_⟩, fun z => ?_⟩
      · have z := of_decide_eq_false z
        exact decide_eq_decide.mpr (by omega)
      · have z := of_decide_eq_true z
        exact (decide_eq_true (by omega)).symm
    · walk_at "wps"
      have h1 := Int.emod_nonneg (x / 2) (show (n : Int) ≠ 0 by omega)
      have h2 := Int.emod_lt_of_pos (x / 2) (show (0 : Int) < n by omega)
      refine ⟨_, rfl, by rw [List.length_map, List.length_map]; omega, ⟨by decide, by decide⟩, by omega, ?_⟩
      have := app (x / 2 % n).toNat (by omega)
      rw [show iD (x / 2 % (n : Int)).toNat = .int (x / 2 % n) by unfold iD; rw [Int.toNat_of_nonneg h1]] at this
      exact this
    · have hk0 : ¬ (k = 0 ∨ x % 2 = 1) := by rw [hb] at z; exact of_decide_eq_false z
      obtain ⟨y, hy⟩ : ∃ y, l[k - 1]? = some y := ⟨_, List.getElem?_eq_getElem (by omega)⟩
      walk_at "wps"
      refine ⟨_, rfl, by rw [List.length_map, List.length_map]; omega, by omega, .dat (iD y), ?_, ?_⟩
      · rw [show ((k : Int) - 1).toNat = k - 1 by omega, List.getElem?_map, List.getElem?_map, hy]; rfl
      · exact app y (hg y (List.mem_of_getElem? hy))
  · rintro u ⟨l, a, b, rfl, hl, hg⟩
    rw [rngD_len] at hl
    walk_at "wps"
    refine ⟨_, rfl, ?_⟩
    dsimp only
    rw [valDs_dat]
    exact rt _ _ (by simp) ⟨l, rfl, hl, hg⟩
end LB
namespace LB
open PySem L2 DL DD
def RowIn (gs : List (Bool × List Nat)) (w x : Nat) : Prop := ∃ g, gs[x]? = some g ∧ w ∈ g.2
def g__law_own_row (C : Addr) : Sg := fnS "_law_own_row" 2 (fun a : Int × Nat × List (Bool × List Nat) => [.int a.1, iD a.2.1, gtD a.2.2]) (fun a => a.2.2.length ≤ 12) fun a d => ∃ l, d = nL l ∧ l.length ≤ 6 ∧ ∀ x ∈ l, RowIn a.2.2 a.2.1 x
def b__law_own_row (C : Addr) : Ss := (.cons (.set (.v 3) (.new (.comp (.v 4) (.r (.f1 .len (.var 2))) (.so (.mem true (.var 1) (.ix (.ix (.var 2) (.var 4)) (.int 1)))) (.v (.var 4))))) (.cons (.own 5 (.lst .nil)) (.cons (.ite (.cmp .gt (.f1 .len (.var 3)) (.int 0)) (.cons (.for (.v 6) (.r (.bin .mod (.call (g__law_mixed C) (.cons (.var 0) (.cons (.bin .add (.int 50) (.var 1)) .nil))) (.int 6))) (.cons (.app (.v 5) (.v (.ix (.var 3) (.bin .mod (.bin .div (.call (g__law_mixed C) (.cons (.var 0) (.cons (.bin .add (.bin .add (.bin .mul (.int 13) (.var 1)) (.var 6)) (.int 2)) .nil))) (.int 7)) (.f1 .len (.var 3)))))) .nil)) .nil) .nil) (.cons (.frz 5) (.cons (.ret (.var 5)) .nil)))))
theorem mem_iD {w : Nat} {ms : List Nat} : inD (.int w) (ms.map iD) = decide (w ∈ ms) := by
  rw [show ms.map iD = (ms.map fun n : Nat => (n : Int)).map Dt.int by rw [List.map_map]; rfl, inD_int]
  refine decide_eq_decide.mpr ?_
  rw [List.mem_map]
  constructor
  · rintro ⟨a, h, e⟩
    have : a = w := Int.ofNat.inj e
    exact this ▸ h
  · exact fun h => ⟨w, h, rfl⟩
theorem all_flatN (ms : List Nat) : ((ms.map iD).map Tr.dat).all flatT = true := by simp [flatT, flatD, iD]
theorem flat_filter {α : Type} (p : α → Prop) [DecidablePred p] (f : α → Tr) : ∀ (l : List α), (l.flatMap fun a => if p a then [f a] else []) = (l.filter fun a => decide (p a)).map f
  | [] => rfl
  | a :: l => by
    rw [List.flatMap_cons, flat_filter p f l, List.filter_cons]
    by_cases h : p a
    · simp [h]
    · simp [h]
theorem mapN {α : Type} (f : α → Dt) (l : List α) : (l.map fun a => Tr.dat (f a)) = (l.map f).map Tr.dat := by rw [List.map_map]; rfl
/-- the gates of a walker, as the text finds them -/
theorem ok__law_own_row (C : Addr) : FnD (g__law_own_row C) 3 7 [] (b__law_own_row C) := fnS_ok (fun _ => rfl) fun ⟨c, w, gs⟩ hg P rt nx => by
  have hg : gs.length ≤ 12 := hg
  have rt : ∀ d u, 3 ≤ u.length → (∃ l, d = nL l ∧ l.length ≤ 6 ∧ ∀ x ∈ l, RowIn gs w x) → P.rt (.dat d) u := rt
  unfold b__law_own_row gtD
  refine wp_cut (fun u => ∃ ow, u = [.dat (.int c), .dat (iD w), .dat (.lst (gs.map gateL)), .dat (nL ow), .un, .un, .un] ∧ ∀ x ∈ ow, RowIn gs w x) ?_ ?_
  · walk_at "wps"
    rw [List.length_map, List.length_map]
    refine ⟨by omega, by omega, by rw [rngD_len]; omega, ?_⟩
    unfold rngD
    refine compL_filE (fun k : Nat => Dt.int (k : Int)) (fun k => if w ∈ (gs.getD k (false, [])).2 then [.dat (iD k)] else []) (fun k hk K q => ?_) ?_
    · have hk : k < gs.length := by simpa using hk
      have e := List.getElem?_eq_getElem hk
      have e2 : gs.getD k (false, []) = gs[k] := getD_some e
      dsimp only [slots, wipeV]
      walk_at "wps"
      refine ⟨by omega, .dat (gateL gs[k]), by rw [Int.toNat_natCast, List.getElem?_map, List.getElem?_map, e]; rfl, ?_⟩
      unfold gateL
      walk_at "wps"
      refine ⟨by decide, .dat (.lst (gs[k].2.map iD)), rfl, ?_⟩
      walk_at "wps"
      refine ⟨rfl, all_flatN _, ?_⟩
      rw [map_toD, mem_iD]
      rw [e2] at q
      by_cases h : w ∈ gs[k].2
      · rw [if_pos h] at q
        rw [decide_eq_true h]
        exact ⟨fun _ => q, fun z => (by cases z)⟩
      · rw [if_neg h] at q
        rw [decide_eq_false h]
        exact ⟨fun z => (by cases z), fun _ => q⟩
    · rw [flat_filter, mapN, map_toD]
      refine ⟨all_isD _, _, rfl, fun x hx => ?_⟩
      obtain ⟨h1, h2⟩ := List.mem_filter.mp hx
      have hk : x < gs.length := by simpa using h1
      have e := List.getElem?_eq_getElem hk
      have h2 := of_decide_eq_true h2
      rw [getD_some e] at h2
      exact ⟨_, e, h2⟩
  rintro u ⟨ow, rfl, how⟩
  refine wp_cut (fun u => u = [.dat (.int c), .dat (iD w), .dat (.lst (gs.map gateL)), .dat (nL ow), .un, oL [], .un]) (by walk_at "wps"; rfl) ?_
  rintro u rfl
  refine wp_cut (fun u => ∃ l t, u = [.dat (.int c), .dat (iD w), .dat (.lst (gs.map gateL)), .dat (nL ow), .un, oL l, t] ∧ l.length ≤ 6 ∧ ∀ x ∈ l, RowIn gs w x) ?_ ?_
  · refine wp_if (p := 0 < ow.length) ?_ (fun h => ?_) (fun h => ?_)
    · unfold nL
      walk_at "wps"
      rw [List.length_map, List.length_map]
      exact decide_eq_decide.mpr (by omega)
    · have h1 := Int.emod_nonneg (mixF c (50 + w)) (show (6 : Int) ≠ 0 by decide)
      have h2 := Int.emod_lt_of_pos (mixF c (50 + w)) (show (0 : Int) < 6 by decide)
      refine wp_for (rngD (mixF c (50 + w) % 6).toNat) ?_ (fun k u => ∃ l t, u = [.dat (.int c), .dat (iD w), .dat (.lst (gs.map gateL)), .dat (nL ow), .un, oL l, t] ∧ l.length = k ∧ ∀ x ∈ l, RowIn gs w x) ⟨[], _, rfl, rfl, fun _ z => nomatch z⟩ ?_ ?_
      · walk_at "wps"
        refine callS (c, 50 + (w : Int)) rfl (by simp [ownRoots, rootE]) trivial (fun b h => cm_inj _ _ h) ?_
        rintro d rfl
        walk_at "wps"
        exact ⟨by decide, h1, by omega, trivial⟩
      · rintro k d u hk ⟨l, t, rfl, hl, hr⟩
        obtain ⟨hk, rfl⟩ := rngD_get hk
        simp only [asg, List.set_cons_succ, List.set_cons_zero]
        unfold nL
        walk_at "wps"
        refine ⟨_, rfl, by rw [List.length_map, List.length_map]; omega, .inl ⟨by decide, by decide⟩, ?_⟩
        refine callSN (c, 13 * (w : Int) + k + 2) rfl (by simp [ownRoots, rootE]) trivial (fun b h => cm_inj _ _ h) ?_
        rintro d rfl
        walk_at "wps"
        rw [List.length_map, List.length_map]
        have h3 := Int.emod_nonneg (mixF c (13 * w + k + 2) / 7) (show ((ow.length : Nat) : Int) ≠ 0 by omega)
        have h4 := Int.emod_lt_of_pos (mixF c (13 * w + k + 2) / 7) (show (0 : Int) < (ow.length : Nat) by omega)
        obtain ⟨y, hy⟩ : ∃ y, ow[(mixF c (13 * w + k + 2) / 7 % (ow.length : Nat)).toNat]? = some y := ⟨_, List.getElem?_eq_getElem (by omega)⟩
        refine ⟨⟨by decide, by decide⟩, by omega, h3, .dat (iD y), by rw [List.getElem?_map, List.getElem?_map, hy]; rfl, l ++ [y], _, by rw [oL_snoc]; rfl, by rw [List.length_append, hl]; rfl, fun z hz => ?_⟩
        rcases List.mem_append.mp hz with q | q
        · exact hr z q
        · obtain rfl := List.mem_singleton.mp q
          exact how _ (List.mem_of_getElem? hy)
      · rintro u ⟨l, t, rfl, hl, hr⟩
        rw [rngD_len] at hl
        exact ⟨l, t, rfl, by omega, hr⟩
    · exact ⟨[], _, rfl, by simp, fun _ z => nomatch z⟩
  rintro u ⟨l, t, rfl, hl, hr⟩
  walk_at "wps"
  refine ⟨_, rfl, ?_⟩
  dsimp only
  rw [valDs_dat]
  exact rt _ _ (by simp) ⟨l, rfl, hl, hr⟩
end LB
namespace LB
open PySem L2 DL DD
abbrev sD (ns : List Int) : Dt := .scr (ns.map .int)
def RowsOk (gs : List (Bool × List Nat)) (rs : List (List Nat)) : Prop := ∀ w r, rs[w]? = some r → r.length ≤ 40 ∧ ∀ x ∈ r, RowIn gs w x
def g__law_rows (C : Addr) : Sg := fnS "_law_rows" 3 (fun a : List Int × List (Bool × List Nat) × Nat => [sD a.1, gtD a.2.1, iD a.2.2]) (fun a => 1 ≤ a.2.1.length ∧ a.2.1.length ≤ 12 ∧ 1 ≤ a.2.2 ∧ a.2.2 ≤ 12) fun a d => ∃ rs, d = rwD rs ∧ rs.length = a.2.2 ∧ RowsOk a.2.1 rs
def b__law_rows (C : Addr) : Ss := (.cons (.set (.v 3) (.call (g__law_cell_at C) (.cons (.var 0) (.cons (.int 3) .nil)))) (.cons (.set (.v 4) (.bin .mod (.var 3) (.int 6))) (.cons (.ite (.cmp .eq (.bin .mod (.bin .div (.var 3) (.int 6)) (.int 8)) (.int 1)) (.cons (.set (.v 4) (.bin .add (.int 6) (.bin .mod (.bin .div (.var 3) (.int 48)) (.int 10)))) (.cons (.ite (.cmp .lt (.var 2) (.int 4)) (.cons (.set (.v 4) (.bin .add (.int 7) (.bin .mod (.bin .div (.var 3) (.int 48)) (.int 34)))) .nil) .nil) .nil)) .nil) (.cons (.set (.v 5) (.call (g__law_sequence C) (.cons (.call (g__law_cell_at C) (.cons (.var 0) (.cons (.int 4) .nil))) (.cons (.f1 .len (.var 1)) (.cons (.var 4) .nil))))) (.cons (.own 6 (.lst .nil)) (.cons (.for (.v 7) (.r (.var 2)) (.cons (.app (.v 6) (.n (.comp (.v 8) (.l (.var 5)) (.so (.mem true (.var 7) (.ix (.ix (.var 1) (.var 8)) (.int 1)))) (.v (.var 8))))) .nil)) (.cons (.set (.v 3) (.call (g__law_cell_at C) (.cons (.var 0) (.cons (.int 5) .nil)))) (.cons (.ite (.cmp .eq (.bin .mod (.call (g__law_mixed C) (.cons (.var 3) (.cons (.int 3) .nil))) (.int 3)) (.int 1)) (.cons (.ret (.new (.comp (.v 7) (.r (.var 2)) .no (.v (.call (g__law_own_row C) (.cons (.var 3) (.cons (.var 7) (.cons (.var 1) .nil)))))))) .nil) .nil) (.cons (.set (.v 9) (.bin .mod (.bin .div (.var 3) (.int 5)) (.var 2))) (.cons (.set (.v 10) (.f1 .len (.ix (.var 6) (.var 9)))) (.cons (.ite (.and (.cmp .eq (.bin .mod (.var 3) (.int 5)) (.int 3)) (.cmp .gt (.var 10) (.int 0))) (.cons (.set (.v 11) (.bin .mod (.bin .div (.var 3) (.int 60)) (.var 10))) (.cons (.put (.v 6) (.var 9) (.n (.cat (.new (.sl (.ix (.var 6) (.var 9)) .no (.so (.var 11)))) (.new (.sl (.ix (.var 6) (.var 9)) (.so (.bin .add (.var 11) (.int 1))) .no))))) .nil)) .nil) (.cons (.ite (.cmp .eq (.bin .mod (.var 3) (.int 5)) (.int 4)) (.cons (.rev (.x (.v 6) (.var 9))) .nil) .nil) (.cons (.frz 6) (.cons (.ret (.var 6)) .nil))))))))))))))
theorem sk_inj (b a : List Int × Nat) (h : ([sD b.1, iD b.2] : List Dt) = [sD a.1, iD a.2]) : b = a := by
  obtain ⟨a1, a2⟩ := a
  obtain ⟨b1, b2⟩ := b
  injection h with h1 h
  injection h with h2 _
  injection h1 with h1
  have h1 : b1 = a1 := int_inj h1
  have h2 : b2 = a2 := natI h2
  rw [h1, h2]
theorem cnn_inj (b a : Int × Nat × Nat) (h : ([.int b.1, iD b.2.1, iD b.2.2] : List Dt) = [.int a.1, iD a.2.1, iD a.2.2]) : b = a := by
  obtain ⟨a1, a2, a3⟩ := a
  obtain ⟨b1, b2, b3⟩ := b
  injection h with h1 h
  injection h with h2 h
  injection h with h3 _
  injection h1 with h1
  have h1 : b1 = a1 := h1
  have h2 : b2 = a2 := natI h2
  have h3 : b3 = a3 := natI h3
  rw [h1, h2, h3]
theorem cwg_inj (b a : Int × Nat × List (Bool × List Nat)) (h : ([.int b.1, iD b.2.1, gtD b.2.2] : List Dt) = [.int a.1, iD a.2.1, gtD a.2.2]) : b = a := by
  obtain ⟨a1, a2, a3⟩ := a
  obtain ⟨b1, b2, b3⟩ := b
  injection h with h1 h
  injection h with h2 h
  injection h with h3 _
  injection h1 with h1
  have h1 : b1 = a1 := h1
  have h2 : b2 = a2 := natI h2
  have h3 : b3 = a3 := gtD_inj h3
  rw [h1, h2, h3]
abbrev oR (rs : List (List Nat)) : Tr := .own (rs.map oL)
theorem valDs_oR : ∀ rs : List (List Nat), valDs (rs.map oL) = rs.map rowL
  | [] => rfl
  | r :: rs => by
    show Dt.lst (valDs ((r.map iD).map .dat)) :: valDs (rs.map oL) = _
    rw [valDs_dat, valDs_oR rs]
    rfl
theorem rows_set {gs : List (Bool × List Nat)} {rs : List (List Nat)} {w : Nat} {r : List Nat} (h : RowsOk gs rs) (k : ∀ r0, rs[w]? = some r0 → r.length ≤ r0.length ∧ ∀ x ∈ r, x ∈ r0) : RowsOk gs (rs.set w r) := fun v s e => by
  by_cases z : w = v
  · subst z
    have hl : w < rs.length := by have := (List.getElem?_eq_some_iff.mp e).1; simpa using this
    rw [List.getElem?_set_self hl] at e
    cases e
    obtain ⟨a, b⟩ := k _ (List.getElem?_eq_getElem hl)
    obtain ⟨c, d⟩ := h _ _ (List.getElem?_eq_getElem hl)
    exact ⟨by omega, fun x hx => d x (b x hx)⟩
  · rw [List.getElem?_set_ne z] at e
    exact h v s e
theorem rows_snoc {gs : List (Bool × List Nat)} {rs : List (List Nat)} {r : List Nat} (h : RowsOk gs rs) (hl : r.length ≤ 40) (k : ∀ x ∈ r, RowIn gs rs.length x) : RowsOk gs (rs ++ [r]) := fun v s e => by
  rcases Nat.lt_trichotomy v rs.length with z | z | z
  · rw [List.getElem?_append_left z] at e
    exact h v s e
  · subst z
    rw [List.getElem?_append_right (Nat.le_refl _), Nat.sub_self] at e
    cases e
    exact ⟨hl, k⟩
  · rw [List.getElem?_eq_none (by simp; omega)] at e; cases e
structure PR {α : Type} (R : α → Tr → Prop) (as : List α) (ts : List Tr) : Prop where
  l : ts.length = as.length
  r : ∀ (k : Nat) (a : α) (t : Tr), as[k]? = some a → ts[k]? = some t → R a t
theorem compL_rel {α : Type} {f : Dt → (List Tr → Prop) → Prop} (c : α → Dt) (R : α → Tr → Prop) : ∀ {as : List α} {Q : List Tr → Prop}, (∀ a ∈ as, ∀ K : List Tr → Prop, (∀ t, R a t → K [t]) → f (c a) K) → (∀ ts, PR R as ts → Q ts) → compL f (as.map c) Q
  | [], Q, h, q => q [] ⟨rfl, fun k a t e => by simp at e⟩
  | a :: as, Q, h, q => h a List.mem_cons_self _ fun t ht => compL_rel c R (fun e he => h e (List.mem_cons_of_mem _ he)) fun ts ⟨l, r⟩ => q (t :: ts) ⟨by rw [List.length_cons, List.length_cons, l], fun k b u e1 e2 => by
      cases k with
      | zero =>
        obtain rfl := Option.some.inj (show some a = some b from e1)
        obtain rfl := Option.some.inj (show some t = some u from e2)
        exact ht
      | succ k => exact r k b u (by simpa using e1) (by simpa using e2)⟩
theorem ok__law_rows (C : Addr) : FnD (g__law_rows C) 3 12 [] (b__law_rows C) := fnS_ok (fun _ => rfl) fun ⟨ns, gs, n⟩ ⟨hg1, hg2, hn1, hn2⟩ P rt nx => by
  have hg1 : 1 ≤ gs.length := hg1
  have hg2 : gs.length ≤ 12 := hg2
  have hn1 : 1 ≤ n := hn1
  have hn2 : n ≤ 12 := hn2
  have rt : ∀ d u, 3 ≤ u.length → (∃ rs, d = rwD rs ∧ rs.length = n ∧ RowsOk gs rs) → P.rt (.dat d) u := rt
  unfold b__law_rows
  refine wp_cut (fun u => ∃ c, u = [.dat (sD ns), .dat (gtD gs), .dat (iD n), .dat (.int c), .un, .un, .un, .un, .un, .un, .un, .un]) ?_ ?_
  · walk_at "wps"
    refine callS (ns, 3) rfl (by simp [ownRoots, rootE]) trivial (fun b h => sk_inj _ _ h) ?_
    rintro d rfl
    exact ⟨_, rfl⟩
  rintro u ⟨c, rfl⟩
  refine wp_cut (fun u => ∃ m : Nat, u = [.dat (sD ns), .dat (gtD gs), .dat (iD n), .dat (.int c), .dat (iD m), .un, .un, .un, .un, .un, .un, .un] ∧ m ≤ 40) ?_ ?_
  · walk_at "wps"
    have h1 := Int.emod_nonneg c (show (6 : Int) ≠ 0 by decide)
    have h2 := Int.emod_lt_of_pos c (show (0 : Int) < 6 by decide)
    exact ⟨by decide, (c % 6).toNat, by rw [Int.toNat_of_nonneg h1], by omega⟩
  rintro u ⟨m, rfl, hm⟩
  refine wp_cut (fun u => ∃ m : Nat, u = [.dat (sD ns), .dat (gtD gs), .dat (iD n), .dat (.int c), .dat (iD m), .un, .un, .un, .un, .un, .un, .un] ∧ m ≤ 40) ?_ ?_
  · refine wpE_mono _ (Q := asB fun _ => True) ?_ (fun t h => asB_mono h fun b hb => ⟨fun z => ?_, fun z => ?_⟩) fun _ z => z
    · walk_at "wps"; walk_at "wpt"
    · refine wp_cut (fun u => ∃ m : Nat, u = [.dat (sD ns), .dat (gtD gs), .dat (iD n), .dat (.int c), .dat (iD m), .un, .un, .un, .un, .un, .un, .un] ∧ m ≤ 40) ?_ ?_
      · walk_at "wps"
        have h1 := Int.emod_nonneg (c / 48) (show (10 : Int) ≠ 0 by decide)
        have h2 := Int.emod_lt_of_pos (c / 48) (show (0 : Int) < 10 by decide)
        exact ⟨⟨by decide, by decide⟩, by decide, (6 + c / 48 % 10).toNat, by rw [Int.toNat_of_nonneg (by omega)], by omega⟩
      rintro u ⟨m, rfl, hm⟩
      refine wp_any (by walk_at "wps"; walk_at "wpt") ?_ ?_
      · walk_at "wps"
        have h1 := Int.emod_nonneg (c / 48) (show (34 : Int) ≠ 0 by decide)
        have h2 := Int.emod_lt_of_pos (c / 48) (show (0 : Int) < 34 by decide)
        exact ⟨⟨by decide, by decide⟩, by decide, (7 + c / 48 % 34).toNat, by rw [Int.toNat_of_nonneg (by omega)], by omega⟩
      · walk_at "wps"
        exact ⟨m, rfl, hm⟩
    · walk_at "wps"
      exact ⟨m, rfl, hm⟩
  clear hm
  rintro u ⟨m, rfl, hm⟩
  refine wp_cut (fun u => ∃ l, u = [.dat (sD ns), .dat (gtD gs), .dat (iD n), .dat (.int c), .dat (iD m), .dat (nL l), .un, .un, .un, .un, .un, .un] ∧ l.length = m ∧ ∀ x ∈ l, x < gs.length) ?_ ?_
  · walk_at "wps"
    refine callS (ns, 4) rfl (by simp [ownRoots, rootE]) trivial (fun b h => sk_inj _ _ h) ?_
    rintro d rfl
    unfold gtD
    walk_at "wps"
    refine callS (ns.getD 4 0, gs.length, m) (by rw [List.length_map, List.length_map]; rfl) (by simp [ownRoots, rootE]) ⟨hg1, by show m ≤ 1000; omega⟩ (fun b h => cnn_inj _ _ h) ?_
    rintro d ⟨l, rfl, h1, h2⟩
    exact ⟨l, rfl, h1, h2⟩
  rintro u ⟨l, rfl, hl, hlg⟩
  refine wp_cut (fun u => u = [.dat (sD ns), .dat (gtD gs), .dat (iD n), .dat (.int c), .dat (iD m), .dat (nL l), oR [], .un, .un, .un, .un, .un]) (by walk_at "wps"; rfl) ?_
  rintro u rfl
  refine wp_for (rngD n) (by walk_at "wps"; exact ⟨by omega, by omega, by rw [Int.toNat_natCast]⟩) (fun k u => ∃ rs a b, u = [.dat (sD ns), .dat (gtD gs), .dat (iD n), .dat (.int c), .dat (iD m), .dat (nL l), oR rs, a, b, .un, .un, .un] ∧ rs.length = k ∧ RowsOk gs rs) ⟨[], _, _, rfl, rfl, fun w r e => by simp at e⟩ ?_ ?_
  · rintro k d u hk ⟨rs, a, b, rfl, hrl, hr⟩
    obtain ⟨hk, rfl⟩ := rngD_get hk
    simp only [asg, List.set_cons_succ, List.set_cons_zero]
    unfold nL gtD
    walk_at "wps"
    refine ⟨_, rfl, by rw [List.length_map]; omega, by rw [List.length_map]; omega, ?_⟩
    refine compL_filE iD (fun x => if k ∈ (gs.getD x (false, [])).2 then [.dat (iD x)] else []) (fun x hx K q => ?_) ?_
    · have hxg := hlg x hx
      have e := List.getElem?_eq_getElem hxg
      have e2 : gs.getD x (false, []) = gs[x] := getD_some e
      dsimp only [slots, wipeV]
      walk_at "wps"
      refine ⟨by omega, .dat (gateL gs[x]), by rw [Int.toNat_natCast, List.getElem?_map, List.getElem?_map, e]; rfl, ?_⟩
      unfold gateL
      walk_at "wps"
      refine ⟨by decide, .dat (.lst (gs[x].2.map iD)), rfl, ?_⟩
      walk_at "wps"
      refine ⟨rfl, all_flatN _, ?_⟩
      rw [map_toD, mem_iD]
      rw [e2] at q
      by_cases h : k ∈ gs[x].2
      · rw [if_pos h] at q
        rw [decide_eq_true h]
        exact ⟨fun _ => q, fun z => (by cases z)⟩
      · rw [if_neg h] at q
        rw [decide_eq_false h]
        exact ⟨fun z => (by cases z), fun _ => q⟩
    · rw [flat_filter, mapN]
      refine ⟨rs ++ [l.filter fun x => decide (k ∈ (gs.getD x (false, [])).2)], _, _, by rw [show oR (rs ++ [l.filter fun x => decide (k ∈ (gs.getD x (false, [])).2)]) = .own (rs.map oL ++ [oL (l.filter fun x => decide (k ∈ (gs.getD x (false, [])).2))]) by simp [oR]]; rfl, by rw [List.length_append, hrl]; rfl, rows_snoc hr ?_ fun x hx => ?_⟩
      · have := List.length_filter_le (fun x => decide (k ∈ (gs.getD x (false, [])).2)) l
        omega
      · obtain ⟨h1, h2⟩ := List.mem_filter.mp hx
        have e := List.getElem?_eq_getElem (hlg x h1)
        have h2 := of_decide_eq_true h2
        rw [getD_some e] at h2
        rw [hrl]
        exact ⟨_, e, h2⟩
  rintro u ⟨rs, a, b, rfl, hrl, hr⟩
  rw [rngD_len] at hrl
  refine wp_cut (fun u => ∃ c, u = [.dat (sD ns), .dat (gtD gs), .dat (iD n), .dat (.int c), .dat (iD m), .dat (nL l), oR rs, a, b, .un, .un, .un]) ?_ ?_
  · walk_at "wps"
    refine callS (ns, 5) rfl (by simp [ownRoots, rootE]) trivial (fun b h => sk_inj _ _ h) ?_
    rintro d rfl
    exact ⟨_, rfl⟩
  rintro u ⟨c, rfl⟩
  refine wp_any ?_ ?_ ?_
  · walk_at "wps"
    refine callS (c, 3) rfl (by simp [ownRoots, rootE]) trivial (fun b h => cm_inj _ _ h) ?_
    rintro d rfl
    walk_at "wps"
    walk_at "wpt"
  · walk_at "wps"
    refine ⟨by omega, by omega, by rw [rngD_len]; omega, ?_⟩
    unfold rngD
    refine compL_rel (fun k : Nat => Dt.int (k : Int)) (fun w t => ∃ r, t = .dat (rowL r) ∧ r.length ≤ 6 ∧ ∀ x ∈ r, RowIn gs w x) (fun k hk K q => ?_) fun ts hts => ?_
    · dsimp only [slots, wipeV]
      walk_at "wps"
      refine ⟨fun _ => ?_, fun z => (by cases z)⟩
      refine callS (c, k, gs) rfl (by simp [ownRoots, rootE]) (by exact hg2) (fun b h => cwg_inj _ _ h) ?_
      rintro d ⟨r, rfl, h1, h2⟩
      exact q _ ⟨r, rfl, h1, h2⟩
    · obtain ⟨rs', h1, h2, h3⟩ : ∃ rs' : List (List Nat), ts = (rs'.map rowL).map .dat ∧ rs'.length = n ∧ RowsOk gs rs' := by
        have hl : ts.length = n := by rw [hts.l, List.length_range, Int.toNat_natCast]
        have hex : ∀ k, k < n → ∃ r : List Nat, ts[k]? = some (.dat (rowL r)) ∧ r.length ≤ 6 ∧ ∀ x ∈ r, RowIn gs k x := fun k hk => by
          have e := List.getElem?_eq_getElem (show k < ts.length by omega)
          obtain ⟨r, h1, h2, h3⟩ := hts.r k k _ (by rw [Int.toNat_natCast, List.getElem?_range hk]) e
          exact ⟨r, by rw [e, h1], h2, h3⟩
        refine ⟨(List.range n).map fun k => if h : k < n then (hex k h).choose else [], ?_, by rw [List.length_map, List.length_range], fun w r e => ?_⟩
        · apply List.ext_getElem?
          intro k
          by_cases hk : k < n
          · rw [(hex k hk).choose_spec.1, List.getElem?_map, List.getElem?_map, List.getElem?_map, List.getElem?_range hk]
            simp only [Option.map_some, dif_pos hk]
          · rw [List.getElem?_eq_none (by omega), List.getElem?_eq_none (by simp; omega)]
        · have hw : w < n := by have := (List.getElem?_eq_some_iff.mp e).1; simpa using this
          rw [List.getElem?_map, List.getElem?_range hw] at e
          simp only [Option.map_some, dif_pos hw] at e
          cases e
          have := (hex w hw).choose_spec.2
          exact ⟨by omega, this.2⟩
      subst h1
      rw [map_toD]
      exact ⟨all_isD _, rt _ _ (by simp) ⟨rs', rfl, h2, h3⟩⟩
  have hod1 := Int.emod_nonneg (c / 5) (show (n : Int) ≠ 0 by omega)
  have hod2 := Int.emod_lt_of_pos (c / 5) (show (0 : Int) < n by omega)
  obtain ⟨o, ho, hon⟩ : ∃ o : Nat, c / 5 % n = o ∧ o < n := ⟨(c / 5 % n).toNat, by rw [Int.toNat_of_nonneg hod1], by omega⟩
  refine wp_cut (fun u => u = [.dat (sD ns), .dat (gtD gs), .dat (iD n), .dat (.int c), .dat (iD m), .dat (nL l), oR rs, a, b, .dat (iD o), .un, .un]) ?_ ?_
  · walk_at "wps"
    rw [ho]
    exact ⟨⟨by decide, by decide⟩, by omega, rfl⟩
  rintro u rfl
  obtain ⟨r0, hr0⟩ : ∃ r0, rs[o]? = some r0 := ⟨_, List.getElem?_eq_getElem (by omega)⟩
  have hr0o : (rs.map oL)[((o : Nat) : Int).toNat]? = some (oL r0) := by rw [Int.toNat_natCast, List.getElem?_map, hr0]; rfl
  refine wp_cut (fun u => u = [.dat (sD ns), .dat (gtD gs), .dat (iD n), .dat (.int c), .dat (iD m), .dat (nL l), oR rs, a, b, .dat (iD o), .dat (iD r0.length), .un]) ?_ ?_
  · walk_at "wps"
    refine ⟨by omega, _, hr0o, ?_⟩
    walk_at "wps"
    rw [List.length_map, List.length_map]
  rintro u rfl
  refine wp_cut (fun u => ∃ rs x, u = [.dat (sD ns), .dat (gtD gs), .dat (iD n), .dat (.int c), .dat (iD m), .dat (nL l), oR rs, a, b, .dat (iD o), .dat (iD r0.length), x] ∧ rs.length = n ∧ RowsOk gs rs) ?_ ?_
  · refine wp_if (p := c % 5 = 3 ∧ 0 < r0.length) ?_ (fun h => ?_) (fun h => ?_)
    · walk_at "wps"
      rw [show valT (Tr.dat (.int (c % 5))) = .int (c % 5) from rfl, show valT (Tr.dat (.int (3 : Int))) = .int 3 from rfl, eqD_ii]
      refine ⟨by decide, rfl, rfl, dI8 _, dI8 _, fun z => ?_, fun z => ?_⟩
      · have z := of_decide_eq_true z
        exact decide_eq_decide.mpr (by omega)
      · have z := of_decide_eq_false z
        exact (decide_eq_false (by omega)).symm
    · have h1 := Int.emod_nonneg (c / 60) (show ((r0.length : Nat) : Int) ≠ 0 by omega)
      have h2 := Int.emod_lt_of_pos (c / 60) (show (0 : Int) < (r0.length : Nat) by omega)
      obtain ⟨at_, hat, hatn⟩ : ∃ j : Nat, c / 60 % (r0.length : Nat) = j ∧ j < r0.length := ⟨(c / 60 % (r0.length : Nat)).toNat, by rw [Int.toNat_of_nonneg h1], by omega⟩
      refine wp_cut (fun u => u = [.dat (sD ns), .dat (gtD gs), .dat (iD n), .dat (.int c), .dat (iD m), .dat (nL l), oR rs, a, b, .dat (iD o), .dat (iD r0.length), .dat (iD at_)]) ?_ ?_
      · walk_at "wps"
        rw [hat]
        exact ⟨⟨by decide, by decide⟩, by omega, rfl⟩
      rintro u rfl
      walk_at "wps"
      refine ⟨by omega, _, hr0o, ?_⟩
      walk_at "wps"
      refine ⟨all_isD _, cut_to (by omega) (by rw [List.length_map, List.length_map]; omega) ?_⟩
      rw [← List.map_take, ← List.map_take]
      refine ⟨all_isD _, by omega, _, hr0o, ?_⟩
      walk_at "wps"
      refine ⟨all_isD _, cut_from (by omega) ?_⟩
      rw [← List.map_drop, ← List.map_drop]
      refine ⟨all_isD _, ?_⟩
      rw [map_toD, map_toD, Int.toNat_natCast, show ((at_ : Int) + 1).toNat = at_ + 1 by omega]
      have h40 := (hr o r0 hr0).1
      refine ⟨all_isD _, all_isD _, by simp; omega, _, rfl, by omega, by rw [List.length_map]; omega, rs.set o (r0.take at_ ++ r0.drop (at_ + 1)), .dat (iD at_), ?_, by rw [List.length_set]; exact hrl, rows_set hr fun r1 e => ?_⟩
      · rw [Int.toNat_natCast]
        show [_, _, _, _, _, _, Tr.own _, _, _, _, _, _] = _
        simp only [oR, List.map_set, oL, List.map_append]
        rfl
      · rw [hr0] at e
        cases e
        refine ⟨by simp; omega, fun x hx => ?_⟩
        rcases List.mem_append.mp hx with z | z
        · exact List.mem_of_mem_take z
        · exact List.mem_of_mem_drop z
    · walk_at "wps"
      exact ⟨rs, _, rfl, hrl, hr⟩
  clear hr0o hr0 hr hrl
  rintro u ⟨rs, x, rfl, hrl, hr⟩
  obtain ⟨r1, hr1⟩ : ∃ r1, rs[o]? = some r1 := ⟨_, List.getElem?_eq_getElem (by omega)⟩
  refine wp_cut (fun u => ∃ rs, u = [.dat (sD ns), .dat (gtD gs), .dat (iD n), .dat (.int c), .dat (iD m), .dat (nL l), oR rs, a, b, .dat (iD o), .dat (iD r0.length), x] ∧ rs.length = n ∧ RowsOk gs rs) ?_ ?_
  · refine wpE_mono _ (Q := asB fun _ => True) ?_ (fun t h => asB_mono h fun b hb => ⟨fun z => ?_, fun z => ?_⟩) fun _ z => z
    · walk_at "wps"; walk_at "wpt"
    · walk_at "wps"
      refine ⟨_, rfl, by omega, by rw [List.length_map]; omega, (r1.map iD).map .dat, ?_, ?_⟩
      · show getT _ ([6] ++ [((o : Nat) : Int).toNat]) = _
        rw [Int.toNat_natCast]
        show (rs.map oL)[o]? = _
        rw [List.getElem?_map, hr1]; rfl
      · refine ⟨rs.set o r1.reverse, ?_, by rw [List.length_set]; exact hrl, rows_set hr fun r2 e => ?_⟩
        · rw [Int.toNat_natCast]
          show [_, _, _, _, _, _, Tr.own _, _, _, _, _, _] = _
          simp only [oR, List.map_set, oL, List.map_reverse]
          rfl
        · rw [hr1] at e
          cases e
          exact ⟨by simp, fun x hx => List.mem_reverse.mp hx⟩
    · walk_at "wps"
      exact ⟨rs, rfl, hrl, hr⟩
  clear hr1 hr hrl
  rintro u ⟨rs, rfl, hrl, hr⟩
  walk_at "wps"
  refine ⟨_, rfl, ?_⟩
  dsimp only
  rw [valDs_oR]
  exact rt _ _ (by simp) ⟨rs, rfl, hrl, hr⟩
end LB
namespace LB
open PySem L2 DL DD
structure GOk (gs : List (Bool × List Nat)) (rs : List (List Nat)) : Prop where
  rl : 1 ≤ rs.length ∧ rs.length ≤ 12
  gl : 1 ≤ gs.length ∧ gs.length ≤ 12
  g : ∀ g ∈ gs, MemOk rs.length g.2
  r : RowsOk gs rs
def g__law_hall (C : Addr) : Sg := fnS "_law_hall" 4 (fun ns : List Int => [sD ns]) (fun _ => True) fun _ d => ∃ gs rs, d = .lst [gtD gs, rwD rs] ∧ GOk gs rs
def b__law_hall (C : Addr) : Ss := (.cons (.set (.v 1) (.call (g__law_cell_at C) (.cons (.var 0) (.cons (.int 0) .nil)))) (.cons (.set (.v 2) (.bin .add (.int 1) (.bin .mod (.var 1) (.int 5)))) (.cons (.ite (.cmp .eq (.bin .mod (.bin .div (.var 1) (.int 5)) (.int 8)) (.int 1)) (.cons (.set (.v 2) (.bin .add (.int 6) (.bin .mod (.bin .div (.var 1) (.int 40)) (.int 7)))) .nil) .nil) (.cons (.set (.v 1) (.call (g__law_cell_at C) (.cons (.var 0) (.cons (.int 1) .nil)))) (.cons (.set (.v 3) (.bin .add (.int 1) (.bin .mod (.var 1) (.int 3)))) (.cons (.ite (.cmp .eq (.bin .mod (.bin .div (.var 1) (.int 3)) (.int 8)) (.int 1)) (.cons (.set (.v 3) (.bin .add (.int 4) (.bin .mod (.bin .div (.var 1) (.int 24)) (.int 9)))) .nil) .nil) (.cons (.set (.v 4) (.call (g__law_gates C) (.cons (.call (g__law_cell_at C) (.cons (.var 0) (.cons (.int 2) .nil))) (.cons (.var 2) (.cons (.var 3) .nil))))) (.cons (.ret (.new (.lst (.cons (.v (.var 4)) (.cons (.v (.call (g__law_rows C) (.cons (.var 0) (.cons (.var 4) (.cons (.var 2) .nil))))) .nil))))) .nil))))))))
theorem sgn_inj (b a : List Int × List (Bool × List Nat) × Nat) (h : ([sD b.1, gtD b.2.1, iD b.2.2] : List Dt) = [sD a.1, gtD a.2.1, iD a.2.2]) : b = a := by
  obtain ⟨a1, a2, a3⟩ := a
  obtain ⟨b1, b2, b3⟩ := b
  injection h with h1 h
  injection h with h2 h
  injection h with h3 _
  injection h1 with h1
  have h1 : b1 = a1 := int_inj h1
  have h2 : b2 = a2 := gtD_inj h2
  have h3 : b3 = a3 := natI h3
  rw [h1, h2, h3]
theorem mod_nat (c : Int) (a : Nat) {m : Int} (h : 0 < m) : ∃ k : Nat, (a : Int) + c % m = k ∧ a ≤ k ∧ (k : Int) < a + m := by
  have h1 := Int.emod_nonneg c (show m ≠ 0 by omega)
  have h2 := Int.emod_lt_of_pos c h
  exact ⟨((a : Int) + c % m).toNat, by rw [Int.toNat_of_nonneg (by omega)], by omega, by omega⟩
theorem ok__law_hall (C : Addr) : FnD (g__law_hall C) 1 5 [] (b__law_hall C) := fnS_ok (fun _ => rfl) fun ns _ P rt nx => by
  have rt : ∀ d u, 1 ≤ u.length → (∃ gs rs, d = .lst [gtD gs, rwD rs] ∧ GOk gs rs) → P.rt (.dat d) u := rt
  unfold b__law_hall
  refine wp_cut (fun u => ∃ c, u = [.dat (sD ns), .dat (.int c), .un, .un, .un]) ?_ ?_
  · walk_at "wps"
    refine callS (ns, 0) rfl (by simp [ownRoots, rootE]) trivial (fun b h => sk_inj _ _ h) ?_
    rintro d rfl
    exact ⟨_, rfl⟩
  rintro u ⟨c, rfl⟩
  refine wp_cut (fun u => ∃ n : Nat, u = [.dat (sD ns), .dat (.int c), .dat (iD n), .un, .un] ∧ 1 ≤ n ∧ n ≤ 12) ?_ ?_
  · walk_at "wps"
    obtain ⟨k, e, h1, h2⟩ := mod_nat c 1 (show (0 : Int) < 5 by decide)
    exact ⟨by decide, k, by rw [← e]; rfl, h1, by omega⟩
  rintro u ⟨n, rfl, hn⟩
  refine wp_cut (fun u => ∃ n : Nat, u = [.dat (sD ns), .dat (.int c), .dat (iD n), .un, .un] ∧ 1 ≤ n ∧ n ≤ 12) ?_ ?_
  · refine wpE_mono _ (Q := asB fun _ => True) ?_ (fun t h => asB_mono h fun b hb => ⟨fun z => ?_, fun z => ?_⟩) fun _ z => z
    · walk_at "wps"; walk_at "wpt"
    · walk_at "wps"
      obtain ⟨k, e, h1, h2⟩ := mod_nat (c / 40) 6 (show (0 : Int) < 7 by decide)
      exact ⟨⟨by decide, by decide⟩, by decide, k, by rw [← e]; rfl, by omega, by omega⟩
    · walk_at "wps"
      exact ⟨n, rfl, hn⟩
  clear hn
  rintro u ⟨n, rfl, hn1, hn2⟩
  refine wp_cut (fun u => ∃ c, u = [.dat (sD ns), .dat (.int c), .dat (iD n), .un, .un]) ?_ ?_
  · walk_at "wps"
    refine callS (ns, 1) rfl (by simp [ownRoots, rootE]) trivial (fun b h => sk_inj _ _ h) ?_
    rintro d rfl
    exact ⟨_, rfl⟩
  rintro u ⟨c, rfl⟩
  refine wp_cut (fun u => ∃ m : Nat, u = [.dat (sD ns), .dat (.int c), .dat (iD n), .dat (iD m), .un] ∧ 1 ≤ m ∧ m ≤ 12) ?_ ?_
  · walk_at "wps"
    obtain ⟨k, e, h1, h2⟩ := mod_nat c 1 (show (0 : Int) < 3 by decide)
    exact ⟨by decide, k, by rw [← e]; rfl, h1, by omega⟩
  rintro u ⟨m, rfl, hm⟩
  refine wp_cut (fun u => ∃ m : Nat, u = [.dat (sD ns), .dat (.int c), .dat (iD n), .dat (iD m), .un] ∧ 1 ≤ m ∧ m ≤ 12) ?_ ?_
  · refine wpE_mono _ (Q := asB fun _ => True) ?_ (fun t h => asB_mono h fun b hb => ⟨fun z => ?_, fun z => ?_⟩) fun _ z => z
    · walk_at "wps"; walk_at "wpt"
    · walk_at "wps"
      obtain ⟨k, e, h1, h2⟩ := mod_nat (c / 24) 4 (show (0 : Int) < 9 by decide)
      exact ⟨⟨by decide, by decide⟩, by decide, k, by rw [← e]; rfl, by omega, by omega⟩
    · walk_at "wps"
      exact ⟨m, rfl, hm⟩
  clear hm
  rintro u ⟨m, rfl, hm1, hm2⟩
  refine wp_cut (fun u => ∃ gs, u = [.dat (sD ns), .dat (.int c), .dat (iD n), .dat (iD m), .dat (gtD gs)] ∧ gs.length = m ∧ ∀ g ∈ gs, MemOk n g.2) ?_ ?_
  · walk_at "wps"
    refine callS (ns, 2) rfl (by simp [ownRoots, rootE]) trivial (fun b h => sk_inj _ _ h) ?_
    rintro d rfl
    walk_at "wps"
    refine callS (ns.getD 2 0, n, m) rfl (by simp [ownRoots, rootE]) ⟨hn1, hn2, hm2⟩ (fun b h => cnn_inj _ _ h) ?_
    rintro d ⟨gs, rfl, h1, h2⟩
    exact ⟨gs, rfl, h1, h2⟩
  rintro u ⟨gs, rfl, hgl, hg⟩
  walk_at "wps"
  refine callS (ns, gs, n) rfl (by simp [ownRoots, rootE]) ⟨by show 1 ≤ gs.length; omega, by show gs.length ≤ 12; omega, hn1, hn2⟩ (fun b h => sgn_inj _ _ h) ?_
  rintro d ⟨rs, rfl, h1, h2⟩
  have h1 : rs.length = n := h1
  refine ⟨rfl, rt _ _ (by simp) ⟨gs, rs, rfl, ⟨by omega, by omega⟩, ⟨by omega, by omega⟩, by rw [h1]; exact hg, h2⟩⟩
end LB
/-! tools: argument lists are told apart by their parts -/
namespace LB
open PySem L2 DL DD
section
variable {β : Type} {A1 A2 A3 A4 A5 A6 A7 : Type} {e1 : A1 → β} {e2 : A2 → β} {e3 : A3 → β} {e4 : A4 → β} {e5 : A5 → β} {e6 : A6 → β} {e7 : A7 → β}
theorem inj1 (h1 : ∀ {a b}, e1 a = e1 b → a = b) {a : A1} : ∀ b, [e1 b] = [e1 a] → b = a := fun b h => by
  injection h with q1 _
  exact h1 q1
theorem inj2 (h1 : ∀ {a b}, e1 a = e1 b → a = b) (h2 : ∀ {a b}, e2 a = e2 b → a = b) {a : A1 × A2} : ∀ b : A1 × A2, [e1 b.1, e2 b.2] = [e1 a.1, e2 a.2] → b = a := fun (b1, b2) h => by
  injection h with q1 h
  injection h with q2 _
  obtain ⟨a1, a2⟩ := a
  obtain rfl := h1 q1
  obtain rfl := h2 q2
  rfl
theorem inj3 (h1 : ∀ {a b}, e1 a = e1 b → a = b) (h2 : ∀ {a b}, e2 a = e2 b → a = b) (h3 : ∀ {a b}, e3 a = e3 b → a = b) {a : A1 × A2 × A3} : ∀ b : A1 × A2 × A3, [e1 b.1, e2 b.2.1, e3 b.2.2] = [e1 a.1, e2 a.2.1, e3 a.2.2] → b = a := fun (b1, b2, b3) h => by
  injection h with q1 h
  injection h with q2 h
  injection h with q3 _
  obtain ⟨a1, a2, a3⟩ := a
  obtain rfl := h1 q1
  obtain rfl := h2 q2
  obtain rfl := h3 q3
  rfl
theorem inj4 (h1 : ∀ {a b}, e1 a = e1 b → a = b) (h2 : ∀ {a b}, e2 a = e2 b → a = b) (h3 : ∀ {a b}, e3 a = e3 b → a = b) (h4 : ∀ {a b}, e4 a = e4 b → a = b) {a : A1 × A2 × A3 × A4} : ∀ b : A1 × A2 × A3 × A4, [e1 b.1, e2 b.2.1, e3 b.2.2.1, e4 b.2.2.2] = [e1 a.1, e2 a.2.1, e3 a.2.2.1, e4 a.2.2.2] → b = a := fun (b1, b2, b3, b4) h => by
  injection h with q1 h
  injection h with q2 h
  injection h with q3 h
  injection h with q4 _
  obtain ⟨a1, a2, a3, a4⟩ := a
  obtain rfl := h1 q1
  obtain rfl := h2 q2
  obtain rfl := h3 q3
  obtain rfl := h4 q4
  rfl
theorem inj5 (h1 : ∀ {a b}, e1 a = e1 b → a = b) (h2 : ∀ {a b}, e2 a = e2 b → a = b) (h3 : ∀ {a b}, e3 a = e3 b → a = b) (h4 : ∀ {a b}, e4 a = e4 b → a = b) (h5 : ∀ {a b}, e5 a = e5 b → a = b) {a : A1 × A2 × A3 × A4 × A5} : ∀ b : A1 × A2 × A3 × A4 × A5, [e1 b.1, e2 b.2.1, e3 b.2.2.1, e4 b.2.2.2.1, e5 b.2.2.2.2] = [e1 a.1, e2 a.2.1, e3 a.2.2.1, e4 a.2.2.2.1, e5 a.2.2.2.2] → b = a := fun (b1, b2, b3, b4, b5) h => by
  injection h with q1 h
  injection h with q2 h
  injection h with q3 h
  injection h with q4 h
  injection h with q5 _
  obtain ⟨a1, a2, a3, a4, a5⟩ := a
  obtain rfl := h1 q1
  obtain rfl := h2 q2
  obtain rfl := h3 q3
  obtain rfl := h4 q4
  obtain rfl := h5 q5
  rfl
theorem inj6 (h1 : ∀ {a b}, e1 a = e1 b → a = b) (h2 : ∀ {a b}, e2 a = e2 b → a = b) (h3 : ∀ {a b}, e3 a = e3 b → a = b) (h4 : ∀ {a b}, e4 a = e4 b → a = b) (h5 : ∀ {a b}, e5 a = e5 b → a = b) (h6 : ∀ {a b}, e6 a = e6 b → a = b) {a : A1 × A2 × A3 × A4 × A5 × A6} : ∀ b : A1 × A2 × A3 × A4 × A5 × A6, [e1 b.1, e2 b.2.1, e3 b.2.2.1, e4 b.2.2.2.1, e5 b.2.2.2.2.1, e6 b.2.2.2.2.2] = [e1 a.1, e2 a.2.1, e3 a.2.2.1, e4 a.2.2.2.1, e5 a.2.2.2.2.1, e6 a.2.2.2.2.2] → b = a := fun (b1, b2, b3, b4, b5, b6) h => by
  injection h with q1 h
  injection h with q2 h
  injection h with q3 h
  injection h with q4 h
  injection h with q5 h
  injection h with q6 _
  obtain ⟨a1, a2, a3, a4, a5, a6⟩ := a
  obtain rfl := h1 q1
  obtain rfl := h2 q2
  obtain rfl := h3 q3
  obtain rfl := h4 q4
  obtain rfl := h5 q5
  obtain rfl := h6 q6
  rfl
end
theorem intD_inj {a b : Int} (h : Dt.int a = .int b) : a = b := by injection h
theorem blD_inj {a b : Bool} (h : Dt.bl a = .bl b) : a = b := by injection h
theorem lst_inj {α : Type} {f : α → Dt} (hf : ∀ {a b}, f a = f b → a = b) {a b : List α} (h : Dt.lst (a.map f) = .lst (b.map f)) : a = b := by
  injection h with h
  exact map_inj (fun _ _ => hf) h
theorem tup_inj {α : Type} {f : α → Dt} (hf : ∀ {a b}, f a = f b → a = b) {a b : List α} (h : Dt.tup (a.map f) = .tup (b.map f)) : a = b := by
  injection h with h
  exact map_inj (fun _ _ => hf) h
theorem nup_inj {α : Type} {f : α → Dt} (hf : ∀ {a b}, f a = f b → a = b) {a b : List α} (h : Dt.nup (a.map f) = .nup (b.map f)) : a = b := by
  injection h with h
  exact map_inj (fun _ _ => hf) h
theorem scr_inj {α : Type} {f : α → Dt} (hf : ∀ {a b}, f a = f b → a = b) {a b : List α} (h : Dt.scr (a.map f) = .scr (b.map f)) : a = b := by
  injection h with h
  exact map_inj (fun _ _ => hf) h
/-- a clause that takes it, that leaves it -/
theorem hs_hit {C x : Str} {d : Dt} {r : List (Str × Dt)} {Q : Dt → Prop} {R : Prop} (h : subE C x = true) (q : Q d) : hsQ subE C ((x, d) :: r) Q R := by
  unfold hsQ; rw [if_pos h]; exact q
theorem hs_miss {C x : Str} {d : Dt} {r : List (Str × Dt)} {Q : Dt → Prop} {R : Prop} (h : subE C x = false) (q : hsQ subE C r Q R) : hsQ subE C ((x, d) :: r) Q R := by
  unfold hsQ; rw [if_neg (by rw [h]; decide)]; exact q
theorem rowErrs_cls {gs : List RG} {w : Int} {C : Str} : ∀ {r : List Int}, rowErrs gs w r = some C → C = "NoRow" ∨ C = "Stranger"
  | [], h => by cases h
  | g :: r, h => by
    rw [rowErrs] at h
    split at h
    · split at h
      · exact rowErrs_cls h
      · cases h; exact .inr rfl
    · cases h; exact .inl rfl
theorem rowsErr_cls {gs : List RG} {C : Str} : ∀ {rs : List (List Int)} {i : Nat}, rowsErr gs i rs = some C → C = "NoRow" ∨ C = "Stranger"
  | [], _, h => by cases h
  | r :: rs, i, h => by
    rw [rowsErr] at h
    split at h
    · rename_i e he
      cases h
      unfold rowErr at he
      split at he
      · cases he; exact .inl rfl
      · exact rowErrs_cls he
    · exact rowsErr_cls h
theorem gatesErr_cls {n : Nat} {C : Str} : ∀ {gs : List RG}, gatesErr n gs = some C → C = "NoGate"
  | [], h => by cases h
  | g :: gs, h => by
    rw [gatesErr] at h
    split at h
    · exact gatesErr_cls h
    · cases h; rfl
theorem listsErr_cls {gs : List RG} {rs : List (List Int)} {C : Str} (h : listsErr gs rs = some C) : C = "NoHall" ∨ C = "NoGate" ∨ C = "NoRow" ∨ C = "Stranger" := by
  unfold listsErr at h
  split at h
  · cases h; exact .inl rfl
  split at h
  · cases h; exact .inl rfl
  split at h
  · rename_i e he
    cases h
    exact .inr (.inl (gatesErr_cls he))
  · exact .inr (.inr (rowsErr_cls h))
/-- what a try leaves of an error -/
def triX (L : List Str) (hs : List (Str × Dt)) (P : Po) (X : Str → DD.Env → Prop) : Str → DD.Env → Prop := fun C u => C ∈ L ∧ hsQ subE C hs (fun d => P.rt (.dat d) u) (X C u)
def tasX (L : List Str) (x : Str) (h : HS) (P : Po) (X : Str → DD.Env → Prop) : Str → DD.Env → Prop := fun C u => C ∈ L ∧ (subE C x = true → P.rt (.dat (.bl (vHS (subE C) [] h))) u) ∧ (subE C x = false → X C u)
theorem wp_tri {X : Str → DD.Env → Prop} {v : DD.Env} {P : Po} {L : List Str} {b ss : Ss} {hs : List (Str × Dt)} (h : wpSs (triX L hs { P with nx := fun u => wpSs X u ss P } X) v b { P with nx := fun u => wpSs X u ss P }) : wpSs X v (.cons (.tri L b hs) ss) P := h
theorem wp_tas {X : Str → DD.Env → Prop} {v : DD.Env} {P : Po} {L : List Str} {b ss : Ss} {i : Nat} {x : Str} {hs : HS} (h : wpSs (tasX L x hs { P with nx := fun u => wpSs X u ss P } X) v b { P with nx := fun u => wpSs X u ss P }) : wpSs X v (.cons (.tas L b i x hs) ss) P := h
end LB
/-! halls, plain: what is ahead, a step, what stays so -/
namespace LB
open PySem L2 DL DD
def HM.sd (h : HM) (w : Nat) : Sd := h.stands.getD w ⟨0, .come, 0⟩
def HM.row (h : HM) (w : Nat) : List Nat := h.rows.getD w []
def HM.gt (h : HM) (g : Nat) : Bool × List Nat := h.gates.getD g (false, [])
def HM.st (h : HM) (g : Nat) : Bx := h.stores.getD g (.cnt 0 0)
/-- what is ahead -/
def ahd (h : HM) (w : Nat) : Option (Nat × Wo) := match (h.row w)[(h.sd w).d]? with
  | some g => some (g, (h.sd w).w)
  | none => none
def psd (h : HM) (w g : Nat) : Nat := ((h.row w).take (h.sd w).d).count g
def vis (h : HM) (w g : Nat) : Nat := psd h w g + 1
def wth (h : HM) (w : Nat) : Option Nat := match ahd h w with
  | some (g, wd) => if wd = .come then none else some g
  | none => none
def cme (h : HM) (w g : Nat) : Nat := psd h w g + (if wth h w = some g then 1 else 0)
def rsg (v : Nat) : Int := 1 - (((v - 1) / 2 % 2 : Nat) : Int)
def csg (v : Nat) : Int := ((v % 2 : Nat) : Int)
def bnr (t v m : Nat) : Nat := if v % 2 = 0 then t else rds m + t
/-- a walker's place among the members -/
def plc (h : HM) (w g : Nat) : Nat := (h.gt g).2.idxOf w
def bxAt : Bx → Nat → Nat → Int
  | .row bs, p, b => (bs.getD p []).getD b 0
  | .cnt _ _, _, _ => 0
def side : Bx → Int
  | .cnt _ s => s
  | .row _ => 0
def left : Bx → Int
  | .cnt l _ => l
  | .row _ => 0
def bits : Bx → List (List Int)
  | .cnt _ _ => []
  | .row bs => bs
def vain (h : HM) (w : Nat) : Bool := match ahd h w with
  | some (g, .look) => decide (side (h.st g) ≠ csg (vis h w g))
  | some (g, .hear) => decide (bxAt (h.st g) (plc h w g) (bnr (h.sd w).t (vis h w g) (h.gt g).2.length) ≠ rsg (vis h w g))
  | _ => false
def idl (h : HM) (w : Nat) : Bool := (ahd h w).isNone || vain h w
def aor (d t m : Nat) : Sd := if t = rds m then ⟨d, .pass, 0⟩ else ⟨d, .tell, t⟩
/-- the stand and the boxes behind a step that isn't in vain, at a gate that counts -/
def behC (s : Sd) (l sd : Int) (m v : Nat) : Sd × Bx := match s.w with
  | .come => if l = 1 then (⟨s.d, .fill, 0⟩, .cnt 0 sd) else (⟨s.d, .look, 0⟩, .cnt (l - 1) sd)
  | .fill => (⟨s.d, .turn, 0⟩, .cnt (m : Nat) sd)
  | .turn => (⟨s.d, .pass, 0⟩, .cnt l (csg v))
  | .look => (⟨s.d, .pass, 0⟩, .cnt l sd)
  | _ => (⟨s.d + 1, .come, 0⟩, .cnt l sd)
def tellB (bs : List (List Int)) (p t v m : Nat) : List (List Int) := bs.set ((p + 2 ^ t) % m) ((bs.getD ((p + 2 ^ t) % m) []).set (bnr t v m) (rsg v))
def behR (s : Sd) (bs : List (List Int)) (p v : Nat) : Sd × Bx := match s.w with
  | .come => (aor s.d 0 bs.length, .row bs)
  | .tell => (⟨s.d, .hear, s.t⟩, .row (tellB bs p s.t v bs.length))
  | .hear => (aor s.d (s.t + 1) bs.length, .row bs)
  | _ => (⟨s.d + 1, .come, 0⟩, .row bs)
def beh (h : HM) (w g : Nat) : Sd × Bx := match h.st g with
  | .cnt l s => behC (h.sd w) l s (h.gt g).2.length (vis h w g)
  | .row bs => behR (h.sd w) bs (plc h w g) (vis h w g)
/-- a told step -/
structure To where
  w : Nat
  g : Option Nat
  s : Str
deriving DecidableEq
def stp (h : HM) (w : Nat) : HM × To := match ahd h w with
  | none => (h, ⟨w, none, "end"⟩)
  | some (g, wd) => if vain h w = true then (h, ⟨w, some g, "wait"⟩) else ({ h with stands := h.stands.set w (beh h w g).1, stores := h.stores.set g (beh h w g).2 }, ⟨w, some g, wS wd⟩)
def wvn : HM → List Nat → HM × List To
  | h, [] => (h, [])
  | h, w :: ws => ((wvn (stp h w).1 ws).1, (stp h w).2 :: (wvn (stp h w).1 ws).2)
/-- what a stand may be -/
def SdOk (gt : Bool × List Nat) (s : Sd) : Prop := if gt.1 = true then (s.w = .come ∧ s.t = 0) ∨ (s.w = .tell ∧ s.t < rds gt.2.length) ∨ (s.w = .hear ∧ s.t < rds gt.2.length) ∨ (s.w = .pass ∧ s.t = 0) else (s.w ≠ .tell ∧ s.w ≠ .hear ∧ s.t = 0)
def BxOk (gt : Bool × List Nat) : Bx → Prop
  | .cnt _ _ => gt.1 = false
  | .row bs => gt.1 = true ∧ bs.length = gt.2.length ∧ ∀ b ∈ bs, b.length = 2 * rds gt.2.length
structure HOk (h : HM) : Prop where
  go : GOk h.gates h.rows
  sl : h.stands.length = h.rows.length
  tl : h.stores.length = h.gates.length
  dl : ∀ w, w < h.rows.length → (h.sd w).d ≤ (h.row w).length
  en : ∀ w, w < h.rows.length → (h.sd w).d = (h.row w).length → (h.sd w).w = .come ∧ (h.sd w).t = 0
  sd : ∀ w g, w < h.rows.length → (h.row w)[(h.sd w).d]? = some g → SdOk (h.gt g) (h.sd w)
  st : ∀ g, g < h.gates.length → BxOk (h.gt g) (h.st g)
theorem getD_lt {α : Type} {l : List α} {i : Nat} {x : α} (h : i < l.length) : l[i]? = some (l.getD i x) := by
  rw [List.getElem?_eq_getElem h, getD_some (List.getElem?_eq_getElem h)]
theorem getD_set {α : Type} {l : List α} {i j : Nat} {x y : α} (h : i < l.length) : (l.set i x).getD j y = if j = i then x else l.getD j y := by
  rw [List.getD_eq_getElem?_getD, List.getD_eq_getElem?_getD]
  by_cases e : j = i
  · subst e; rw [List.getElem?_set_self h, if_pos rfl]; rfl
  · rw [List.getElem?_set_ne (fun z => e z.symm), if_neg e]
/-- a row's gate is there, and the walker is a member of it -/
theorem HOk.mem {h : HM} (ok : HOk h) {w k g : Nat} (hw : w < h.rows.length) (e : (h.row w)[k]? = some g) : g < h.gates.length ∧ w ∈ (h.gt g).2 := by
  have hr : h.rows[w]? = some (h.row w) := getD_lt hw
  obtain ⟨q1, q2⟩ := ok.go.r w _ hr
  obtain ⟨gt, g1, g2⟩ := q2 g (List.mem_of_getElem? e)
  refine ⟨(List.getElem?_eq_some_iff.mp g1).1, ?_⟩
  unfold HM.gt
  rw [getD_some g1]
  exact g2
theorem HOk.row40 {h : HM} (ok : HOk h) {w : Nat} (hw : w < h.rows.length) : (h.row w).length ≤ 40 := (ok.go.r w _ (getD_lt hw)).1
theorem HOk.gtm {h : HM} (ok : HOk h) {g : Nat} (hg : g < h.gates.length) : MemOk h.rows.length (h.gt g).2 := ok.go.g _ (List.mem_of_getElem? (getD_lt hg))
theorem HOk.mlen {h : HM} (ok : HOk h) {g : Nat} (hg : g < h.gates.length) : 1 ≤ (h.gt g).2.length ∧ (h.gt g).2.length ≤ 12 := by
  have m := ok.gtm hg
  have := nd_le _ _ m.nd m.lt
  have := ok.go.rl
  exact ⟨List.length_pos_iff.mpr m.ne, by omega⟩
theorem HOk.plc {h : HM} (ok : HOk h) {w k g : Nat} (hw : w < h.rows.length) (e : (h.row w)[k]? = some g) : plc h w g < (h.gt g).2.length := List.idxOf_lt_length_iff.mpr (ok.mem hw e).2
theorem ahd_eq {h : HM} {w g : Nat} {wd : Wo} (e : ahd h w = some (g, wd)) : (h.row w)[(h.sd w).d]? = some g ∧ (h.sd w).w = wd := by
  unfold ahd at e
  split at e
  · rename_i g' e2; cases e; exact ⟨e2, rfl⟩
  · cases e
theorem ahd_none {h : HM} {w : Nat} (e : ahd h w = none) : (h.row w).length ≤ (h.sd w).d := by
  unfold ahd at e
  split at e
  · cases e
  · rename_i e2; exact List.getElem?_eq_none_iff.mp e2
theorem ahd_of {h : HM} {w g : Nat} (e : (h.row w)[(h.sd w).d]? = some g) : ahd h w = some (g, (h.sd w).w) := by
  unfold ahd; rw [e]
theorem rds_pos {m t : Nat} (h : t < rds m) : 2 ^ t < m := rds_lt.mpr h
theorem aor_ok {d t : Nat} {ms : List Nat} (ht : t ≤ rds ms.length) : SdOk (true, ms) (aor d t ms.length) := by
  unfold SdOk aor
  rw [if_pos rfl]
  by_cases e : t = rds ms.length
  · rw [if_pos e]; exact .inr (.inr (.inr ⟨rfl, rfl⟩))
  · rw [if_neg e]; exact .inr (.inl ⟨rfl, by show t < rds ms.length; omega⟩)
theorem sdok_come (gt : Bool × List Nat) (d : Nat) : SdOk gt ⟨d, .come, 0⟩ := by
  unfold SdOk
  split
  · exact .inl ⟨rfl, rfl⟩
  · exact ⟨(by intro z; cases z), (by intro z; cases z), rfl⟩
theorem aor_d (d t m : Nat) : (aor d t m).d = d := by unfold aor; split <;> rfl
theorem tellB_ok {bs : List (List Int)} {p t v m n : Nat} (hb : ∀ b ∈ bs, b.length = n) (hl : bs.length = m) (hm : 0 < m) : (tellB bs p t v m).length = m ∧ ∀ b ∈ tellB bs p t v m, b.length = n := by
  unfold tellB
  refine ⟨by rw [List.length_set]; exact hl, fun b hbm => ?_⟩
  have hlt : (p + 2 ^ t) % m < bs.length := by rw [hl]; exact Nat.mod_lt _ hm
  rcases List.mem_or_eq_of_mem_set hbm with z | z
  · exact hb b z
  · rw [z, List.length_set]
    exact hb _ (List.mem_of_getElem? (getD_lt hlt))
/-- how a step's stand goes on -/
theorem beh_ok {h : HM} (ok : HOk h) {w g : Nat} (hw : w < h.rows.length) (e : (h.row w)[(h.sd w).d]? = some g) :
    BxOk (h.gt g) (beh h w g).2 ∧ (((beh h w g).1.d = (h.sd w).d ∧ SdOk (h.gt g) (beh h w g).1) ∨ (beh h w g).1 = ⟨(h.sd w).d + 1, .come, 0⟩) := by
  have hg := (ok.mem hw e).1
  have hs := ok.sd w g hw e
  have hb := ok.st g hg
  have hm := ok.mlen hg
  unfold beh
  generalize h.st g = b at *
  cases b with
  | cnt l s =>
    have hb : (h.gt g).1 = false := hb
    dsimp only
    have nt : ∀ (d : Nat) (x : Wo), x ≠ .tell → x ≠ .hear → SdOk (h.gt g) ⟨d, x, 0⟩ := fun d x h1 h2 => by
      unfold SdOk; rw [if_neg (by rw [hb]; decide)]; exact ⟨h1, h2, rfl⟩
    unfold behC
    split
    · split
      · exact ⟨hb, .inl ⟨rfl, nt _ _ (by decide) (by decide)⟩⟩
      · exact ⟨hb, .inl ⟨rfl, nt _ _ (by decide) (by decide)⟩⟩
    · exact ⟨hb, .inl ⟨rfl, nt _ _ (by decide) (by decide)⟩⟩
    · exact ⟨hb, .inl ⟨rfl, nt _ _ (by decide) (by decide)⟩⟩
    · exact ⟨hb, .inl ⟨rfl, nt _ _ (by decide) (by decide)⟩⟩
    · exact ⟨hb, .inr rfl⟩
  | row bs =>
    obtain ⟨h1, h2, h3⟩ := hb
    dsimp only
    unfold SdOk at hs
    rw [if_pos h1] at hs
    have ek : h.gt g = (true, (h.gt g).2) := by rw [← h1]
    unfold behR
    rw [h2]
    split
    · refine ⟨⟨h1, h2, h3⟩, .inl ⟨aor_d _ _ _, ?_⟩⟩
      rw [ek]; exact aor_ok (Nat.zero_le _)
    · rename_i ew
      rcases hs with ⟨q, _⟩ | ⟨q, q2⟩ | ⟨q, _⟩ | ⟨q, _⟩ <;> (rw [ew] at q; cases q)
      have := tellB_ok (p := LB.plc h w g) (t := (h.sd w).t) (v := vis h w g) h3 h2 (by omega)
      refine ⟨⟨h1, this.1, this.2⟩, .inl ⟨rfl, ?_⟩⟩
      rw [ek]; unfold SdOk; rw [if_pos rfl]; exact .inr (.inr (.inl ⟨rfl, q2⟩))
    · rename_i ew
      rcases hs with ⟨q, _⟩ | ⟨q, _⟩ | ⟨q, q2⟩ | ⟨q, _⟩ <;> (rw [ew] at q; cases q)
      refine ⟨⟨h1, h2, h3⟩, .inl ⟨aor_d _ _ _, ?_⟩⟩
      rw [ek]; exact aor_ok (by show _ + 1 ≤ _; omega)
    · exact ⟨⟨h1, h2, h3⟩, .inr rfl⟩
/-- a hall behind a step -/
theorem put_ok {h : HM} (ok : HOk h) {w g : Nat} (hw : w < h.rows.length) (e : (h.row w)[(h.sd w).d]? = some g) : HOk { h with stands := h.stands.set w (beh h w g).1, stores := h.stores.set g (beh h w g).2 } := by
  obtain ⟨b1, b2⟩ := beh_ok ok hw e
  have hg := (ok.mem hw e).1
  have hlt := (List.getElem?_eq_some_iff.mp e).1
  have hws : w < h.stands.length := by rw [ok.sl]; exact hw
  have hgs : g < h.stores.length := by rw [ok.tl]; exact hg
  have es : ∀ w', HM.sd { h with stands := h.stands.set w (beh h w g).1, stores := h.stores.set g (beh h w g).2 } w' = if w' = w then (beh h w g).1 else h.sd w' := fun w' => getD_set hws
  have et : ∀ g', HM.st { h with stands := h.stands.set w (beh h w g).1, stores := h.stores.set g (beh h w g).2 } g' = if g' = g then (beh h w g).2 else h.st g' := fun g' => getD_set hgs
  refine ⟨ok.go, by show (h.stands.set _ _).length = _; rw [List.length_set]; exact ok.sl, by show (h.stores.set _ _).length = _; rw [List.length_set]; exact ok.tl, fun w' hw' => ?_, fun w' hw' => ?_, fun w' g' hw' => ?_, fun g' hg' => ?_⟩
  · rw [es]
    show _ ≤ (h.row w').length
    by_cases z : w' = w
    · subst z
      rw [if_pos rfl]
      rcases b2 with ⟨q, _⟩ | q
      · rw [q]; exact Nat.le_of_lt hlt
      · rw [q]; exact hlt
    · rw [if_neg z]; exact ok.dl w' hw'
  · rw [es]
    show _ = (h.row w').length → _
    by_cases z : w' = w
    · subst z
      rw [if_pos rfl]
      rcases b2 with ⟨q, _⟩ | q
      · rw [q]; intro y; omega
      · rw [q]; intro _; exact ⟨rfl, rfl⟩
    · rw [if_neg z]; exact ok.en w' hw'
  · rw [es]
    show (h.row w')[_]? = _ → SdOk (h.gt g') _
    by_cases z : w' = w
    · subst z
      rw [if_pos rfl]
      rcases b2 with ⟨q, q2⟩ | q
      · rw [q, e]; intro y; cases y; exact q2
      · rw [q]; intro _; exact sdok_come _ _
    · rw [if_neg z]; exact ok.sd w' g' hw'
  · rw [et]
    show BxOk (h.gt g') _
    by_cases z : g' = g
    · subst z; rw [if_pos rfl]; exact b1
    · rw [if_neg z]; exact ok.st g' hg'
theorem stp_ok {h : HM} (ok : HOk h) {w : Nat} (hw : w < h.rows.length) : HOk (stp h w).1 := by
  unfold stp
  split
  · exact ok
  · rename_i g wd e
    split
    · exact ok
    · exact put_ok ok hw (ahd_eq e).1
theorem stp_gates (h : HM) (w : Nat) : (stp h w).1.gates = h.gates ∧ (stp h w).1.rows = h.rows := by
  unfold stp
  split
  · exact ⟨rfl, rfl⟩
  · split <;> exact ⟨rfl, rfl⟩
theorem wvn_ok : ∀ {ws : List Nat} {h : HM}, HOk h → (∀ w ∈ ws, w < h.rows.length) → HOk (wvn h ws).1 ∧ (wvn h ws).1.gates = h.gates ∧ (wvn h ws).1.rows = h.rows
  | [], h, ok, _ => ⟨ok, rfl, rfl⟩
  | w :: ws, h, ok, hw => by
    obtain ⟨g1, g2⟩ := stp_gates h w
    have := wvn_ok (stp_ok ok (hw w List.mem_cons_self)) (fun x hx => by rw [g2]; exact hw x (List.mem_cons_of_mem _ hx))
    rw [g1, g2] at this
    exact this
theorem wvn_app : ∀ {a b : List Nat} {h : HM}, wvn h (a ++ b) = ((wvn (wvn h a).1 b).1, (wvn h a).2 ++ (wvn (wvn h a).1 b).2)
  | [], b, h => rfl
  | w :: a, b, h => by
    rw [List.cons_append, wvn, wvn_app]
    rfl
theorem wvn_len : ∀ {ws : List Nat} {h : HM}, (wvn h ws).2.length = ws.length
  | [], h => rfl
  | w :: ws, h => by rw [wvn, List.length_cons, wvn_len, List.length_cons]
end LB
/-! tests by parts -/
namespace LB
open PySem L2 DL DD
section
variable {X : Str → DD.Env → Prop} {v : DD.Env} {a b c : E} {p q : Prop} [Decidable p] [Decidable q] {i j k : Int} {s t : Str}
theorem or_d (ha : wpE X v a (asB fun z => z = decide p)) (hb : ¬ p → wpE X v b (asB fun z => z = decide q)) : wpE X v (.or a b) (asB fun z => z = decide (p ∨ q)) :=
  wpE_mono a ha (fun t h => asB_mono h fun z e => ⟨fun y => wpE_mono b (hb (of_decide_eq_false (e ▸ y))) (fun t h => asB_mono h fun w e2 => by
      have hp := of_decide_eq_false (e ▸ y)
      show w = _
      rw [e2]
      exact decide_eq_decide.mpr ⟨.inr, fun z => z.elim (fun y => absurd y hp) id⟩) fun _ z => z, fun y => by
      have hp := of_decide_eq_true (e ▸ y)
      show true = _
      exact (decide_eq_true (.inl hp)).symm⟩) fun _ z => z
theorem and_d (ha : wpE X v a (asB fun z => z = decide p)) (hb : p → wpE X v b (asB fun z => z = decide q)) : wpE X v (.and a b) (asB fun z => z = decide (p ∧ q)) :=
  wpE_mono a ha (fun t h => asB_mono h fun z e => ⟨fun y => wpE_mono b (hb (of_decide_eq_true (e ▸ y))) (fun t h => asB_mono h fun w e2 => by
      have hp := of_decide_eq_true (e ▸ y)
      show w = _
      rw [e2]
      exact decide_eq_decide.mpr ⟨fun z => ⟨hp, z⟩, fun z => z.2⟩) fun _ z => z, fun y => by
      have hp := of_decide_eq_false (e ▸ y)
      show false = _
      exact (decide_eq_false (fun z => hp z.1)).symm⟩) fun _ z => z
theorem not_d (ha : wpE X v a (asB fun z => z = decide p)) : wpE X v (.not a) (asB fun z => z = decide (¬ p)) :=
  wpE_mono a ha (fun t h => asB_mono h fun z e => by
    show (!z) = _
    rw [e]; exact decide_not.symm) fun _ z => z
/-- a value -/
abbrev VE (X : Str → DD.Env → Prop) (v : DD.Env) (e : E) (d : Dt) : Prop := wpE X v e fun t => t = .dat d
theorem V2 {Q : Tr → Tr → Prop} {d e : Dt} (ha : VE X v a d) (hb : VE X v b e) (h : Q (.dat d) (.dat e)) : wpE X v a fun x => wpE X v b fun y => Q x y :=
  wpE_mono a ha (fun t h1 => by subst h1; exact wpE_mono b hb (fun u h2 => by subst h2; exact h) fun _ z => z) fun _ z => z
theorem lt_d (ha : VE X v a (.int i)) (hb : VE X v b (.int j)) : wpE X v (.cmp .lt a b) (asB fun z => z = decide (i < j)) := V2 ha hb rfl
theorem le_d (ha : VE X v a (.int i)) (hb : VE X v b (.int j)) : wpE X v (.cmp .le a b) (asB fun z => z = decide (i ≤ j)) := V2 ha hb rfl
theorem gt_d (ha : VE X v a (.int i)) (hb : VE X v b (.int j)) : wpE X v (.cmp .gt a b) (asB fun z => z = decide (j < i)) := V2 ha hb rfl
theorem ge_d (ha : VE X v a (.int i)) (hb : VE X v b (.int j)) : wpE X v (.cmp .ge a b) (asB fun z => z = decide (j ≤ i)) := V2 ha hb rfl
theorem dI8' (i : Int) : DOk 8 (.int i) := .inl trivial
theorem eq_d (ha : VE X v a (.int i)) (hb : VE X v b (.int j)) : wpE X v (.cmp .eq a b) (asB fun z => z = decide (i = j)) := V2 ha hb ⟨rfl, rfl, dI8' _, dI8' _, eqD_ii⟩
theorem ne_d (ha : VE X v a (.int i)) (hb : VE X v b (.int j)) : wpE X v (.cmp .ne a b) (asB fun z => z = decide (i ≠ j)) := V2 ha hb ⟨rfl, rfl, dI8' _, dI8' _, by show (!eqD _ _) = _; rw [show valT (Tr.dat (.int i)) = .int i from rfl, show valT (Tr.dat (.int j)) = .int j from rfl, eqD_ii]; exact decide_not.symm⟩
theorem eqS_d (hs : PyData.canLay0 (.str s) = true) (ht : PyData.canLay0 (.str t) = true) (ha : VE X v a (.str s)) (hb : VE X v b (.str t)) : wpE X v (.cmp .eq a b) (asB fun z => z = decide (s = t)) := V2 ha hb ⟨rfl, rfl, .inl hs, .inl ht, eqD_ss⟩
theorem neS_d (hs : PyData.canLay0 (.str s) = true) (ht : PyData.canLay0 (.str t) = true) (ha : VE X v a (.str s)) (hb : VE X v b (.str t)) : wpE X v (.cmp .ne a b) (asB fun z => z = decide (s ≠ t)) := V2 ha hb ⟨rfl, rfl, .inl hs, .inl ht, by show (!eqD _ _) = _; rw [show valT (Tr.dat (.str s)) = .str s from rfl, show valT (Tr.dat (.str t)) = .str t from rfl, eqD_ss]; exact decide_not.symm⟩
theorem d_iff {Q : Prop} [Decidable Q] (h : wpE X v a (asB fun z => z = decide p)) (e : p ↔ Q) : wpE X v a (asB fun z => z = decide Q) := wpE_mono a h (fun t h => asB_mono h fun z e2 => by rw [e2]; exact decide_eq_decide.mpr e) fun _ z => z
end
end LB
/-! values of expressions, step by step -/
namespace LB
open PySem L2 DL DD
section
variable {X : Str → DD.Env → Prop} {v : DD.Env} {a b c e : E} {d d1 d2 : Dt} {i j k : Int} {P : Po} {ss : Ss}
theorem VE.to (h : VE X v e d) (q : d = d1) : VE X v e d1 := q ▸ h
theorem ve_var {n : Nat} (h : v[n]? = some (.dat d)) : VE X v (.var n) d := by
  show getV v n _
  unfold getV; rw [h]
theorem ve_int : VE X v (.int i) (.int i) := rfl
theorem ve_nat {n : Nat} : VE X v (.int (n : Int)) (iD n) := rfl
theorem ve_str {s : Str} : VE X v (.str s) (.str s) := rfl
theorem ve_bl {s : Bool} : VE X v (.bl s) (.bl s) := rfl
theorem ve_non : VE X v .non .non := rfl
theorem ve_con {x : Str} : VE X v (.con x d) d := rfl
theorem VE.use {Q : Tr → Prop} (h : VE X v e d) (q : Q (.dat d)) : wpE X v e Q := wpE_mono e h (fun t z => z ▸ q) fun _ z => z
theorem ve_add (ha : VE X v a (.int i)) (hb : VE X v b (.int j)) : VE X v (.bin .add a b) (.int (i + j)) := V2 ha hb rfl
theorem ve_sub (ha : VE X v a (.int i)) (hb : VE X v b (.int j)) : VE X v (.bin .sub a b) (.int (i - j)) := V2 ha hb rfl
theorem ve_mod (ha : VE X v a (.int i)) (hb : VE X v b (.int j)) (h : 0 < j) : VE X v (.bin .mod a b) (.int (i % j)) := V2 ha hb ⟨h, rfl⟩
theorem ve_div (ha : VE X v a (.int i)) (hb : VE X v b (.int j)) (h : L2.CDiv i j) : VE X v (.bin .div a b) (.int (i / j)) := V2 ha hb ⟨h, rfl⟩
theorem ve_mul (ha : VE X v a (.int i)) (hb : VE X v b (.int j)) (h : L2.CMul i j) : VE X v (.bin .mul a b) (.int (i * j)) := V2 ha hb ⟨h, rfl⟩
theorem ve_shl (ha : VE X v a (.int i)) (hb : VE X v b (.int j)) (h : L2.CPow i j) : VE X v (.bin .shl a b) (.int (i * 2 ^ j.toNat)) := V2 ha hb ⟨h, rfl⟩
theorem ve_tadd {as bs : List Dt} (ha : VE X v a (.tup as)) (hb : VE X v b (.tup bs)) (h : as.length + bs.length ≤ 90000) : VE X v (.bin .add a b) (.tup (as ++ bs)) := V2 ha hb ⟨h, rfl⟩
theorem ve_not {p : Bool} (ha : VE X v a (.bl p)) : VE X v (.not a) (.bl (!p)) := ha.use rfl
theorem ve_and {p q : Bool} (ha : VE X v a (.bl p)) (hb : p = true → VE X v b (.bl q)) : VE X v (.and a b) (.bl (p && q)) := ha.use ⟨fun z => (hb z).use (by subst z; rfl), fun z => by subst z; rfl⟩
theorem ve_or {p q : Bool} (ha : VE X v a (.bl p)) (hb : p = false → VE X v b (.bl q)) : VE X v (.or a b) (.bl (p || q)) := ha.use ⟨fun z => (hb z).use (by subst z; rfl), fun z => by subst z; rfl⟩
theorem ve_lt (ha : VE X v a (.int i)) (hb : VE X v b (.int j)) : VE X v (.cmp .lt a b) (.bl (decide (i < j))) := V2 ha hb rfl
theorem ve_le (ha : VE X v a (.int i)) (hb : VE X v b (.int j)) : VE X v (.cmp .le a b) (.bl (decide (i ≤ j))) := V2 ha hb rfl
theorem ve_gt (ha : VE X v a (.int i)) (hb : VE X v b (.int j)) : VE X v (.cmp .gt a b) (.bl (decide (j < i))) := V2 ha hb rfl
theorem ve_ge (ha : VE X v a (.int i)) (hb : VE X v b (.int j)) : VE X v (.cmp .ge a b) (.bl (decide (j ≤ i))) := V2 ha hb rfl
theorem ve_eq (ha : VE X v a d1) (hb : VE X v b d2) (h1 : DOk 8 d1) (h2 : DOk 8 d2) : VE X v (.cmp .eq a b) (.bl (eqD d1 d2)) := V2 ha hb ⟨rfl, rfl, h1, h2, rfl⟩
theorem ve_ne (ha : VE X v a d1) (hb : VE X v b d2) (h1 : DOk 8 d1) (h2 : DOk 8 d2) : VE X v (.cmp .ne a b) (.bl (!eqD d1 d2)) := V2 ha hb ⟨rfl, rfl, h1, h2, rfl⟩
theorem ve_eqI (ha : VE X v a (.int i)) (hb : VE X v b (.int j)) : VE X v (.cmp .eq a b) (.bl (decide (i = j))) := (ve_eq ha hb .int .int).to (by rw [eqD_ii])
theorem ve_neI (ha : VE X v a (.int i)) (hb : VE X v b (.int j)) : VE X v (.cmp .ne a b) (.bl (decide (i ≠ j))) := (ve_ne ha hb .int .int).to (by rw [eqD_ii, decide_not])
theorem ve_eqS {s t : Str} (ha : VE X v a (.str s)) (hb : VE X v b (.str t)) (hs : PyData.canLay0 (.str s) = true) (ht : PyData.canLay0 (.str t) = true) : VE X v (.cmp .eq a b) (.bl (decide (s = t))) := (ve_eq ha hb (.str hs) (.str ht)).to (by rw [eqD_ss])
theorem ve_neS {s t : Str} (ha : VE X v a (.str s)) (hb : VE X v b (.str t)) (hs : PyData.canLay0 (.str s) = true) (ht : PyData.canLay0 (.str t) = true) : VE X v (.cmp .ne a b) (.bl (decide (s ≠ t))) := (ve_ne ha hb (.str hs) (.str ht)).to (by rw [eqD_ss, decide_not])
theorem ve_isN {p : Bool} (ha : VE X v a d) : VE X v (.isN p a) (.bl (sgB p (isNo (.dat d)))) := ha.use rfl
theorem get_map {α β : Type} {f : α → β} {l : List α} {n : Nat} {x : α} (h : l[n]? = some x) : (l.map f)[n]? = some (f x) := by rw [List.getElem?_map, h]; rfl
theorem ve_ixT {ds : List Dt} {n : Nat} (ha : VE X v a (.tup ds)) (hb : VE X v b (.int (n : Int))) (h : ds[n]? = some d) : VE X v (.ix a b) d := ha.use (hb.use ⟨by omega, .dat d, by rw [Int.toNat_natCast]; exact get_map h, rfl⟩)
theorem ve_ixN {ds : List Dt} {n : Nat} (ha : VE X v a (.nup ds)) (hb : VE X v b (.int (n : Int))) (h : ds[n]? = some d) : VE X v (.ix a b) d := ha.use (hb.use ⟨by omega, .dat d, by rw [Int.toNat_natCast]; exact get_map h, rfl⟩)
theorem ve_ixL {ds : List Dt} {n : Nat} (ha : VE X v a (.lst ds)) (hb : VE X v b (.int (n : Int))) (h : ds[n]? = some d) : VE X v (.ix a b) d := ha.use (hb.use ⟨by omega, .dat d, by rw [Int.toNat_natCast]; exact get_map h, rfl⟩)
theorem ve_ixS {ds : List Dt} {n : Nat} (ha : VE X v a (.scr ds)) (hb : VE X v b (.int (n : Int))) (h : ds[n]? = some d) : VE X v (.ix a b) d := ha.use (hb.use ⟨by omega, .dat d, by rw [Int.toNat_natCast]; exact get_map h, rfl⟩)
theorem ve_lenT {ds : List Dt} (ha : VE X v a (.tup ds)) : VE X v (.f1 .len a) (iD ds.length) := ha.use (by show (Tr.dat _ = _); rw [List.length_map]; rfl)
theorem ve_lenN {ds : List Dt} (ha : VE X v a (.nup ds)) : VE X v (.f1 .len a) (iD ds.length) := ha.use (by show (Tr.dat _ = _); rw [List.length_map]; rfl)
theorem ve_lenL {ds : List Dt} (ha : VE X v a (.lst ds)) : VE X v (.f1 .len a) (iD ds.length) := ha.use (by show (Tr.dat _ = _); rw [List.length_map]; rfl)
theorem ve_lenS {ds : List Dt} (ha : VE X v a (.scr ds)) : VE X v (.f1 .len a) (iD ds.length) := ha.use (by show (Tr.dat _ = _); rw [List.length_map]; rfl)
theorem cnt_nat {ns : List Nat} {n : Nat} : (ns.map fun n : Nat => (n : Int)).count (n : Int) = ns.count n := by
  induction ns with
  | nil => rfl
  | cons m ns ih =>
    rw [List.map_cons, List.count_cons, List.count_cons, ih]
    by_cases e : m = n
    · subst e; simp
    · rw [if_neg (by intro z; exact e (by have := beq_iff_eq.mp z; omega)), if_neg (by intro z; exact e (beq_iff_eq.mp z))]
theorem iD_int (ns : List Nat) : ns.map iD = (ns.map fun n : Nat => (n : Int)).map Dt.int := by rw [List.map_map]; rfl
theorem ve_cntN {ns : List Nat} {n : Nat} (ha : VE X v a (.nup (ns.map iD))) (hb : VE X v b (iD n)) : VE X v (.cnt a b) (iD (ns.count n)) := ha.use (hb.use ⟨by rw [iD_int]; exact all_isI _, by rw [iD_int, map_toI, cnt_nat]; rfl⟩)
theorem ve_cntL {ns : List Nat} {n : Nat} (ha : VE X v a (.lst (ns.map iD))) (hb : VE X v b (iD n)) : VE X v (.cnt a b) (iD (ns.count n)) := ha.use (hb.use ⟨by rw [iD_int]; exact all_isI _, by rw [iD_int, map_toI, cnt_nat]; rfl⟩)
theorem idx_le {ns : List Nat} : ∀ {m : Nat} (h : m < ns.length), ns.idxOf ns[m] ≤ m := by
  induction ns with
  | nil => intro m h; cases h
  | cons a ns ih =>
    intro m h
    rw [List.idxOf_cons]
    cases hq : (a == (a :: ns)[m]) with
    | true => exact Nat.zero_le _
    | false =>
      cases m with
      | zero => simp at hq
      | succ m =>
        rw [List.getElem_cons_succ]
        exact Nat.succ_le_succ (ih (by simpa using h))
theorem fst_idx {ns : List Nat} {n : Nat} (h : n ∈ ns) : fstIx (ns.map fun n : Nat => (n : Int)) (n : Int) (ns.idxOf n) := by
  have hl := List.idxOf_lt_length_iff.mpr h
  refine ⟨?_, fun m hm e => ?_⟩
  · rw [List.getElem?_map, List.getElem?_eq_getElem hl, List.getElem_idxOf hl]; rfl
  · rw [List.getElem?_map] at e
    have hm2 : m < ns.length := by omega
    rw [List.getElem?_eq_getElem hm2] at e
    have e : ((ns[m] : Nat) : Int) = n := Option.some.inj e
    have e : ns[m] = n := by omega
    have h2 : ns.idxOf n ≤ m := by
      rw [← e]
      exact idx_le hm2
    omega
theorem fst_det {ns : List Int} {y : Int} {j k : Nat} (h : fstIx ns y j) (g : fstIx ns y k) : j = k := by
  rcases Nat.lt_trichotomy j k with z | z | z
  · exact absurd h.1 (g.2 j z)
  · exact z
  · exact absurd g.1 (h.2 k z)
theorem ve_idxN {ns : List Nat} {n : Nat} (ha : VE X v a (.nup (ns.map iD))) (hb : VE X v b (iD n)) (h : n ∈ ns) : VE X v (.idx a b) (iD (ns.idxOf n)) := ha.use (hb.use ⟨by rw [iD_int]; exact all_isI _, ns.idxOf n, by rw [iD_int, map_toI]; exact fst_idx h, rfl⟩)
theorem ve_idxL {ns : List Nat} {n : Nat} (ha : VE X v a (.lst (ns.map iD))) (hb : VE X v b (iD n)) (h : n ∈ ns) : VE X v (.idx a b) (iD (ns.idxOf n)) := ha.use (hb.use ⟨by rw [iD_int]; exact all_isI _, ns.idxOf n, by rw [iD_int, map_toI]; exact fst_idx h, rfl⟩)
theorem ve_memR {p : Bool} (ha : VE X v a (.int i)) (hb : VE X v b (.int j)) : VE X v (.memR p a b) (.bl (sgB p (decide (0 ≤ i ∧ i < j)))) := ha.use (hb.use rfl)
/-- a slice of a tuple -/
theorem cutO_to {α : Type} {f : α → Tr} {l : List α} {k : Nat} {Q : List Tr → Prop} (q : Q ((l.take k).map f)) : cutO none (some (k : Int)) (l.map f) Q := by
  refine ⟨fun j e => (by cases e), fun j e => by cases e; omega, ?_⟩
  show Q (cutN (l.map f) none (some ((k : Int).toNat)))
  rw [Int.toNat_natCast]
  have : cutN (l.map f) none (some k) = (l.take k).map f := by
    unfold cutN
    simp only [Option.getD_none, List.drop_zero, Nat.sub_zero]
    rw [← List.map_take]
    congr 1
    rcases Nat.le_total k (l.map f).length with z | z
    · rw [Nat.min_eq_left z]
    · rw [Nat.min_eq_right z]
      rw [List.length_map] at z ⊢
      rw [List.take_length, List.take_of_length_le z]
  rw [this]; exact q
theorem cutO_from {α : Type} {f : α → Tr} {l : List α} {k : Nat} {Q : List Tr → Prop} (q : Q ((l.drop k).map f)) : cutO (some (k : Int)) none (l.map f) Q := by
  refine ⟨fun j e => by cases e; omega, fun j e => (by cases e), ?_⟩
  show Q (cutN (l.map f) (some ((k : Int).toNat)) none)
  rw [Int.toNat_natCast]
  have : cutN (l.map f) (some k) none = (l.drop k).map f := by
    unfold cutN
    simp only [Option.getD_none, Option.getD_some]
    rw [← List.map_drop]
    rw [List.take_of_length_le (by rw [List.length_map, List.length_map, List.length_drop]; omega)]
  rw [this]; exact q
theorem ve_slN_to {α : Type} {f : α → Dt} {l : List α} {n : Nat} (ha : VE X v a (.nup (l.map f))) (hb : VE X v b (iD n)) : VE X v (.slT a .no (.so b)) (.nup ((l.take n).map f)) := ha.use (by
  show wpE X v b _
  refine hb.use ?_
  simp only [asI, iD]
  rw [List.map_map]
  refine cutO_to ?_
  show Tr.dat (.nup _) = _
  rw [List.map_map]; rfl)
theorem ve_slT_to {α : Type} {f : α → Dt} {l : List α} {n : Nat} (ha : VE X v a (.tup (l.map f))) (hb : VE X v b (iD n)) : VE X v (.slT a .no (.so b)) (.tup ((l.take n).map f)) := ha.use (by
  show wpE X v b _
  refine hb.use ?_
  simp only [asI, iD]
  rw [List.map_map]
  refine cutO_to ?_
  show Tr.dat (.tup _) = _
  rw [List.map_map]; rfl)
theorem ve_slT_from {α : Type} {f : α → Dt} {l : List α} {n : Nat} (ha : VE X v a (.tup (l.map f))) (hb : VE X v b (iD n)) : VE X v (.slT a (.so b) .no) (.tup ((l.drop n).map f)) := ha.use (by
  show wpE X v b _
  refine hb.use ?_
  simp only [asI, iD, wpO]
  rw [List.map_map]
  refine cutO_from ?_
  show Tr.dat (.tup _) = _
  rw [List.map_map]; rfl)
/-- several -/
abbrev VEs (X : Str → DD.Env → Prop) (v : DD.Env) (es : Es) (ds : List Dt) : Prop := wpEs X v es fun ts => ts = ds.map .dat
theorem ves_nil : VEs X v .nil [] := rfl
theorem ves_cons {es : Es} {ds : List Dt} (h : VE X v e d) (hs : VEs X v es ds) : VEs X v (.cons e es) (d :: ds) := h.use (wpEs_mono es hs (fun ts z => by rw [z]; rfl) fun _ z => z)
theorem VEs.use {es : Es} {ds : List Dt} {Q : List Tr → Prop} (h : VEs X v es ds) (q : Q (ds.map .dat)) : wpEs X v es Q := wpEs_mono es h (fun t z => z ▸ q) fun _ z => z
theorem ves1 (h1 : VE X v a d) : VEs X v (.cons a .nil) [d] := ves_cons h1 ves_nil
theorem ves2 (h1 : VE X v a d) (h2 : VE X v b d1) : VEs X v (.cons a (.cons b .nil)) [d, d1] := ves_cons h1 (ves1 h2)
theorem ves3 (h1 : VE X v a d) (h2 : VE X v b d1) (h3 : VE X v c d2) : VEs X v (.cons a (.cons b (.cons c .nil))) [d, d1, d2] := ves_cons h1 (ves2 h2 h3)
theorem ve_tup {es : Es} {ds : List Dt} (h : VEs X v es ds) : VE X v (.tup es) (.tup ds) := h.use ⟨all_isD _, by rw [map_toD]⟩
theorem ve_mk {C : Addr} {x : Str} {es : Es} {p q r s : Dt} (h : VEs X v es [p, q, r, s]) : VE X v (.mk x C es) (.ins C hallF [p, q, r, s]) := h.use ⟨rfl, rfl⟩
section
variable {nm : Str} {lv : Nat} {α : Type} {enc : α → List Dt} {ok : α → Prop} {r : α → Dt → Prop} {x : α → Str → Prop} {es : Es}
theorem vc_S (al : α) (h : VEs X v es (enc al)) (ho : ownRoots v es = []) (ha : ok al) (inj : ∀ b, enc b = enc al → b = al) (hd : ∀ d', r al d' → d' = d) : VE X v (.call (fnS nm lv enc ok r) es) d := h.use (callS al rfl ho ha inj fun d' q => by rw [hd d' q])
theorem vc_X (al : α) (h : VEs X v es (enc al)) (ho : ownRoots v es = []) (ha : ok al) (inj : ∀ b, enc b = enc al → b = al) (hd : ∀ d', r al d' → d' = d) (hx : ∀ C, x al C → X C v) : VE X v (.call (fnX nm lv enc ok r x) es) d := h.use (callX al rfl ho ha inj (fun d' q => by rw [hd d' q]) hx)
/-- a call by what comes of it -/
theorem wc_S {Q : Tr → Prop} (al : α) (h : VEs X v es (enc al)) (ho : ownRoots v es = []) (ha : ok al) (inj : ∀ b, enc b = enc al → b = al) (hd : ∀ d', r al d' → Q (.dat d')) : wpE X v (.call (fnS nm lv enc ok r) es) Q := h.use (callS al rfl ho ha inj hd)
theorem wc_X {Q : Tr → Prop} (al : α) (h : VEs X v es (enc al)) (ho : ownRoots v es = []) (ha : ok al) (inj : ∀ b, enc b = enc al → b = al) (hd : ∀ d', r al d' → Q (.dat d')) (hx : ∀ C, x al C → X C v) : wpE X v (.call (fnX nm lv enc ok r x) es) Q := h.use (callX al rfl ho ha inj hd hx)
end
/-! statements -/
theorem w_set {n : Nat} (h : VE X v e d) (k : wpSs X (v.set n (.dat d)) ss P) : wpSs X v (.cons (.set (.v n) e) ss) P := h.use k
theorem w_setW {n : Nat} (h : wpE X v e (asD fun d => wpSs X (v.set n (.dat d)) ss P)) : wpSs X v (.cons (.set (.v n) e) ss) P := h
theorem w_set2 {n m : Nat} {x y : Dt} (h : VE X v e (.tup [x, y])) (k : wpSs X ((v.set n (.dat x)).set m (.dat y)) ss P) : wpSs X v (.cons (.set (.t (.cons (.v n) (.cons (.v m) .nil))) e) ss) P := h.use (show asgs _ _ _ _ from ⟨rfl, k⟩)
theorem w_set3 {n m l : Nat} {x y z : Dt} (h : VE X v e (.tup [x, y, z])) (k : wpSs X (((v.set n (.dat x)).set m (.dat y)).set l (.dat z)) ss P) : wpSs X v (.cons (.set (.t (.cons (.v n) (.cons (.v m) (.cons (.v l) .nil)))) e) ss) P := h.use (show asgs _ _ _ _ from ⟨rfl, k⟩)
theorem w_ret (h : VE X v e d) (k : P.rt (.dat d) v) : wpSs X v (.cons (.ret e) ss) P := h.use k
theorem w_expr (h : VE X v e d) (k : wpSs X v ss P) : wpSs X v (.cons (.expr e) ss) P := h.use k
theorem w_exprW (k : wpE X v e (fun _ => wpSs X v ss P)) : wpSs X v (.cons (.expr e) ss) P := k
theorem w_setT {p : Pts} (h : wpE X v e (asD fun d => match d with | .tup ds => asgs p ds v (fun u => wpSs X u ss P) | _ => False)) : wpSs X v (.cons (.set (.t p) e) ss) P := h
theorem w_if {A B : Ss} {p : Bool} (h : VE X v e (.bl p)) (h1 : p = true → wpSs X v A { P with nx := fun u => wpSs X u ss P }) (h2 : p = false → wpSs X v B { P with nx := fun u => wpSs X u ss P }) : wpSs X v (.cons (.ite e A B) ss) P := h.use ⟨h1, h2⟩
theorem w_if1 {A : Ss} {p : Bool} (h : VE X v e (.bl p)) (h1 : p = true → wpSs X v A { P with nx := fun u => wpSs X u ss P }) (h2 : p = false → wpSs X v ss P) : wpSs X v (.cons (.ite e A .nil) ss) P := h.use ⟨h1, h2⟩
theorem w_aug {n : Nat} (hv : v[n]? = some (.dat (.int i))) (h : VE X v e (.int j)) (k : wpSs X (v.set n (.dat (.int (i + j)))) ss P) : wpSs X v (.cons (.aug n e) ss) P := by
  show getV v n _
  unfold getV; rw [hv]
  exact h.use k
theorem w_rai {x : Str} (h : VE X v e d) (k : X x v) : wpSs X v (.cons (.rai x e) ss) P := h.use k
theorem w_nil (k : P.nx v) : wpSs X v .nil P := k
end
/-! the hall's fields -/
section
variable {X : Str → DD.Env → Prop} {v : DD.Env} {a b : E} {C : Addr} {h : HM} {d : Dt} {n : Nat}
theorem f_rows : fieldOf hallF [.tup (h.gates.map gateD), .tup (h.rows.map rowD), .tup (h.stands.map sdD), .tup (h.stores.map bxD)] "rows" = some (.tup (h.rows.map rowD)) := by
  unfold hallF fieldOf; rw [if_neg (by decide +kernel)]; unfold fieldOf; rw [if_pos rfl]
theorem f_gates : fieldOf hallF [.tup (h.gates.map gateD), .tup (h.rows.map rowD), .tup (h.stands.map sdD), .tup (h.stores.map bxD)] "gates" = some (.tup (h.gates.map gateD)) := by
  unfold hallF fieldOf; rw [if_pos rfl]
theorem f_stands : fieldOf hallF [.tup (h.gates.map gateD), .tup (h.rows.map rowD), .tup (h.stands.map sdD), .tup (h.stores.map bxD)] "stands" = some (.tup (h.stands.map sdD)) := by
  unfold hallF fieldOf; rw [if_neg (by decide +kernel)]; unfold fieldOf; rw [if_neg (by decide +kernel)]; unfold fieldOf; rw [if_pos rfl]
theorem f_stores : fieldOf hallF [.tup (h.gates.map gateD), .tup (h.rows.map rowD), .tup (h.stands.map sdD), .tup (h.stores.map bxD)] "stores" = some (.tup (h.stores.map bxD)) := by
  unfold hallF fieldOf; rw [if_neg (by decide +kernel)]; unfold fieldOf; rw [if_neg (by decide +kernel)]; unfold fieldOf; rw [if_neg (by decide +kernel)]; unfold fieldOf; rw [if_pos rfl]
theorem va_rows (ha : VE X v a (hallD C h)) : VE X v (.attr a "rows" "Hall" C) (.tup (h.rows.map rowD)) := ha.use ⟨rfl, by simp [hallF], _, f_rows, rfl⟩
theorem va_gates (ha : VE X v a (hallD C h)) : VE X v (.attr a "gates" "Hall" C) (.tup (h.gates.map gateD)) := ha.use ⟨rfl, by simp [hallF], _, f_gates, rfl⟩
theorem va_stands (ha : VE X v a (hallD C h)) : VE X v (.attr a "stands" "Hall" C) (.tup (h.stands.map sdD)) := ha.use ⟨rfl, by simp [hallF], _, f_stands, rfl⟩
theorem va_stores (ha : VE X v a (hallD C h)) : VE X v (.attr a "stores" "Hall" C) (.tup (h.stores.map bxD)) := ha.use ⟨rfl, by simp [hallF], _, f_stores, rfl⟩
theorem va_row (ha : VE X v a (hallD C h)) (hb : VE X v b (iD n)) (hn : n < h.rows.length) : VE X v (.ix (.attr a "rows" "Hall" C) b) (rowD (h.row n)) := ve_ixT (va_rows ha) hb (get_map (getD_lt hn))
theorem va_gate (ha : VE X v a (hallD C h)) (hb : VE X v b (iD n)) (hn : n < h.gates.length) : VE X v (.ix (.attr a "gates" "Hall" C) b) (gateD (h.gt n)) := ve_ixT (va_gates ha) hb (get_map (getD_lt hn))
theorem va_stand (ha : VE X v a (hallD C h)) (hb : VE X v b (iD n)) (hn : n < h.stands.length) : VE X v (.ix (.attr a "stands" "Hall" C) b) (sdD (h.sd n)) := ve_ixT (va_stands ha) hb (get_map (getD_lt hn))
theorem va_store (ha : VE X v a (hallD C h)) (hb : VE X v b (iD n)) (hn : n < h.stores.length) : VE X v (.ix (.attr a "stores" "Hall" C) b) (bxD (h.st n)) := ve_ixT (va_stores ha) hb (get_map (getD_lt hn))
theorem va_kind (ha : VE X v a (hallD C h)) (hb : VE X v b (iD n)) (hn : n < h.gates.length) : VE X v (.ix (.ix (.attr a "gates" "Hall" C) b) (.int 0)) (.str (kS (h.gt n).1)) := ve_ixT (n := 0) (va_gate ha hb hn) rfl rfl
theorem va_mems (ha : VE X v a (hallD C h)) (hb : VE X v b (iD n)) (hn : n < h.gates.length) : VE X v (.ix (.ix (.attr a "gates" "Hall" C) b) (.int 1)) (.nup ((h.gt n).2.map iD)) := ve_ixT (n := 1) (va_gate ha hb hn) rfl rfl
end
/-! what a hall is told by, apart -/
theorem wS_inj {a b : Wo} (h : wS a = wS b) : a = b := by cases a <;> cases b <;> first | rfl | exact absurd h (by decide +kernel)
theorem gateD_inj {a b : Bool × List Nat} (h : gateD a = gateD b) : a = b := by
  obtain ⟨a1, a2⟩ := a
  obtain ⟨b1, b2⟩ := b
  unfold gateD at h
  injection h with h
  injection h with h1 h
  injection h with h2 _
  injection h1 with h1
  have h1 : a1 = b1 := kS_inj h1
  have h2 : a2 = b2 := nup_inj natI h2
  rw [h1, h2]
theorem rowD_inj {a b : List Nat} (h : rowD a = rowD b) : a = b := nup_inj natI h
theorem sdD_inj {a b : Sd} (h : sdD a = sdD b) : a = b := by
  obtain ⟨a1, a2, a3⟩ := a
  obtain ⟨b1, b2, b3⟩ := b
  unfold sdD at h
  injection h with h
  injection h with h1 h
  injection h with h2 h
  injection h with h3 _
  injection h2 with h2
  have h1 : a1 = b1 := natI h1
  have h2 : a2 = b2 := wS_inj h2
  have h3 : a3 = b3 := natI h3
  rw [h1, h2, h3]
theorem bxD_inj {a b : Bx} (h : bxD a = bxD b) : a = b := by
  cases a with
  | cnt l s => cases b with
    | cnt l' s' =>
      unfold bxD at h
      injection h with h
      injection h with h1 h
      injection h with h2 _
      rw [intD_inj h1, intD_inj h2]
    | row bs =>
      unfold bxD at h
      injection h with h
      cases bs with
      | nil => cases h
      | cons b bs => injection h with h1 _; cases h1
  | row bs => cases b with
    | cnt l s =>
      unfold bxD at h
      injection h with h
      cases bs with
      | nil => cases h
      | cons b bs => injection h with h1 _; cases h1
    | row bs' =>
      have := tup_inj (f := fun b : List Int => Dt.tup (b.map .int)) (tup_inj intD_inj) h
      rw [this]
theorem hallD_inj {C : Addr} {a b : HM} (h : hallD C a = hallD C b) : a = b := by
  obtain ⟨a1, a2, a3, a4⟩ := a
  obtain ⟨b1, b2, b3, b4⟩ := b
  unfold hallD at h
  injection h with _ _ h
  injection h with h1 h
  injection h with h2 h
  injection h with h3 h
  injection h with h4 _
  have h1 : a1 = b1 := tup_inj gateD_inj h1
  have h2 : a2 = b2 := tup_inj rowD_inj h2
  have h3 : a3 = b3 := tup_inj sdD_inj h3
  have h4 : a4 = b4 := tup_inj bxD_inj h4
  rw [h1, h2, h3, h4]
theorem wS_lay (w : Wo) : PyData.canLay0 (.str (wS w)) = true := by cases w <;> decide +kernel
end LB
/-! the program's defs over halls: who is where -/
namespace LB
open PySem L2 DL DD
abbrev inW (h : HM) (i : Int) : Prop := 0 ≤ i ∧ i < (h.rows.length : Int)
abbrev inG (h : HM) (i : Int) : Prop := 0 ≤ i ∧ i < (h.gates.length : Int)
def optD : Option Nat → Dt
  | some g => iD g
  | none => .non
def ahdD (h : HM) (w : Nat) : Dt := match ahd h w with
  | some (g, wd) => .tup [iD g, .str (wS wd)]
  | none => .tup [.non, .str "end"]
def bxL : Bx → Dt
  | .cnt l s => .lst [.int l, .int s]
  | .row bs => .lst (bs.map fun b => .lst (b.map .int))
def toD' (t : To) : Dt := .tup [iD t.w, optD t.g, .str t.s]
abbrev hiD (C : Addr) (a : HM × Int) : List Dt := [hallD C a.1, .int a.2]
abbrev hiiD (C : Addr) (a : HM × Int × Int) : List Dt := [hallD C a.1, .int a.2.1, .int a.2.2]
abbrev hnD (C : Addr) (a : HM × Nat) : List Dt := [hallD C a.1, iD a.2]
abbrev hnnD (C : Addr) (a : HM × Nat × Nat) : List Dt := [hallD C a.1, iD a.2.1, iD a.2.2]
theorem hi_inj {C : Addr} {a : HM × Int} : ∀ b, hiD C b = hiD C a → b = a := inj2 hallD_inj intD_inj
theorem hii_inj {C : Addr} {a : HM × Int × Int} : ∀ b, hiiD C b = hiiD C a → b = a := inj3 hallD_inj intD_inj intD_inj
theorem hn_inj {C : Addr} {a : HM × Nat} : ∀ b, hnD C b = hnD C a → b = a := inj2 hallD_inj natI
theorem hnn_inj {C : Addr} {a : HM × Nat × Nat} : ∀ b, hnnD C b = hnnD C a → b = a := inj3 hallD_inj natI natI
theorem in_nat {h : HM} {i : Int} (q : inW h i) : ∃ w : Nat, i = (w : Int) ∧ w < h.rows.length := ⟨i.toNat, by omega, by omega⟩
theorem in_natG {h : HM} {i : Int} (q : inG h i) : ∃ w : Nat, i = (w : Int) ∧ w < h.gates.length := ⟨i.toNat, by omega, by omega⟩
def g_need_walker (C : Addr) : Sg := fnX "need_walker" 1 (hiD C) (fun a => small a.2) (fun a d => inW a.1 a.2 ∧ d = .non) fun a x => ¬ inW a.1 a.2 ∧ x = "NoWalker"
def b_need_walker (C : Addr) : Ss := (.cons (.ite (.memR false (.var 1) (.f1 .len (.attr (.var 0) "rows" "Hall" C))) (.cons (.rai "NoWalker" (.fstr (.cons (.str "there is no walker ") (.cons (.var 1) .nil)))) .nil) .nil) .nil)
theorem ok_need_walker (C : Addr) : FnD (g_need_walker C) 2 2 [] (b_need_walker C) := fnX_ok (fun _ => rfl) fun ⟨h, i⟩ hi P X rt nx hx => by
  have hi : small i := hi
  unfold b_need_walker
  change wpSs X [.dat (hallD C h), .dat (.int i)] _ _
  refine w_if1 (p := decide (¬ inW h i)) ((ve_memR (ve_var rfl) (ve_lenT (va_rows (ve_var rfl)))).to (by rw [List.length_map, decide_not]; rfl)) (fun q => ?_) (fun q => ?_)
  · have q : ¬ inW h i := of_decide_eq_true q
    walk_at "wps"
    exact ⟨str_ok (by decide +kernel), small_ok hi, fun s => hx _ _ ⟨q, rfl⟩⟩
  · have q : inW h i := Classical.not_not.mp (of_decide_eq_false q)
    exact nx _ (by simp [startV]) ⟨q, rfl⟩
def g_need_gate (C : Addr) : Sg := fnX "need_gate" 1 (hiD C) (fun a => small a.2) (fun a d => inG a.1 a.2 ∧ d = .non) fun a x => ¬ inG a.1 a.2 ∧ x = "NoGate"
def b_need_gate (C : Addr) : Ss := (.cons (.ite (.memR false (.var 1) (.f1 .len (.attr (.var 0) "gates" "Hall" C))) (.cons (.rai "NoGate" (.fstr (.cons (.str "there is no gate ") (.cons (.var 1) .nil)))) .nil) .nil) .nil)
theorem ok_need_gate (C : Addr) : FnD (g_need_gate C) 2 2 [] (b_need_gate C) := fnX_ok (fun _ => rfl) fun ⟨h, i⟩ hi P X rt nx hx => by
  have hi : small i := hi
  unfold b_need_gate
  change wpSs X [.dat (hallD C h), .dat (.int i)] _ _
  refine w_if1 (p := decide (¬ inG h i)) ((ve_memR (ve_var rfl) (ve_lenT (va_gates (ve_var rfl)))).to (by rw [List.length_map, decide_not]; rfl)) (fun q => ?_) (fun q => ?_)
  · have q : ¬ inG h i := of_decide_eq_true q
    walk_at "wps"
    exact ⟨str_ok (by decide +kernel), small_ok hi, fun s => hx _ _ ⟨q, rfl⟩⟩
  · have q : inG h i := Classical.not_not.mp (of_decide_eq_false q)
    exact nx _ (by simp [startV]) ⟨q, rfl⟩
def g_passed (C : Addr) : Sg := fnX "passed" 2 (hiiD C) (fun a => HOk a.1 ∧ small a.2.1 ∧ small a.2.2) (fun a d => inW a.1 a.2.1 ∧ inG a.1 a.2.2 ∧ d = iD (psd a.1 a.2.1.toNat a.2.2.toNat)) fun a x => (¬ inW a.1 a.2.1 ∧ x = "NoWalker") ∨ (inW a.1 a.2.1 ∧ ¬ inG a.1 a.2.2 ∧ x = "NoGate")
def b_passed (C : Addr) : Ss := (.cons (.expr (.call (g_need_walker C) (.cons (.var 0) (.cons (.var 1) .nil)))) (.cons (.expr (.call (g_need_gate C) (.cons (.var 0) (.cons (.var 2) .nil)))) (.cons (.set (.v 3) (.ix (.ix (.attr (.var 0) "stands" "Hall" C) (.var 1)) (.int 0))) (.cons (.ret (.cnt (.slT (.ix (.attr (.var 0) "rows" "Hall" C) (.var 1)) .no (.so (.var 3))) (.var 2))) .nil))))
theorem ok_passed (C : Addr) : FnD (g_passed C) 3 4 [] (b_passed C) := fnX_ok (fun _ => rfl) fun ⟨h, i, j⟩ hi P X rt nx hx => by
  obtain ⟨ok, h1, h2⟩ : HOk h ∧ small i ∧ small j := hi
  unfold b_passed
  change wpSs X [.dat (hallD C h), .dat (.int i), .dat (.int j), .un] _ _
  refine w_exprW (wc_X (h, i) (ves2 (ve_var rfl) (ve_var rfl)) rfl h1 hi_inj (fun _ q => ?_) fun x q => hx _ _ (.inl q))
  have q1 : inW h i := q.1
  refine w_exprW (wc_X (h, j) (ves2 (ve_var rfl) (ve_var rfl)) rfl h2 hi_inj (fun _ q => ?_) fun x q => hx _ _ (.inr ⟨q1, q⟩))
  have q2 : inG h j := q.1
  obtain ⟨w, rfl, hw⟩ := in_nat q1
  refine w_set (d := iD (h.sd w).d) (ve_ixT (n := 0) (va_stand (ve_var rfl) (ve_var rfl) (by rw [ok.sl]; exact hw)) rfl rfl) ?_
  obtain ⟨g, rfl, hg⟩ := in_natG q2
  refine w_ret (ve_cntN (ve_slN_to (va_row (ve_var rfl) (ve_var rfl) hw) (ve_var rfl)) (ve_var rfl)) (rt _ _ (by simp [startV]) ⟨q1, q2, ?_⟩)
  rw [Int.toNat_natCast, Int.toNat_natCast]
  rfl
def g_ahead (C : Addr) : Sg := fnX "ahead" 2 (hiD C) (fun a => HOk a.1 ∧ small a.2) (fun a d => inW a.1 a.2 ∧ d = ahdD a.1 a.2.toNat) fun a x => ¬ inW a.1 a.2 ∧ x = "NoWalker"
def b_ahead (C : Addr) : Ss := (.cons (.expr (.call (g_need_walker C) (.cons (.var 0) (.cons (.var 1) .nil)))) (.cons (.set (.t (.cons (.v 2) (.cons (.v 3) (.cons (.v 4) .nil)))) (.ix (.attr (.var 0) "stands" "Hall" C) (.var 1))) (.cons (.set (.v 5) (.ix (.attr (.var 0) "rows" "Hall" C) (.var 1))) (.cons (.ite (.cmp .eq (.var 2) (.f1 .len (.var 5))) (.cons (.ret (.tup (.cons .non (.cons (.str "end") .nil)))) .nil) .nil) (.cons (.ret (.tup (.cons (.ix (.var 5) (.var 2)) (.cons (.var 3) .nil)))) .nil)))))
theorem ok_ahead (C : Addr) : FnD (g_ahead C) 2 6 [] (b_ahead C) := fnX_ok (fun _ => rfl) fun ⟨h, i⟩ hi P X rt nx hx => by
  obtain ⟨ok, h1⟩ : HOk h ∧ small i := hi
  unfold b_ahead
  change wpSs X [.dat (hallD C h), .dat (.int i), .un, .un, .un, .un] _ _
  refine w_exprW (wc_X (h, i) (ves2 (ve_var rfl) (ve_var rfl)) rfl h1 hi_inj (fun _ q => ?_) fun x q => hx _ _ q)
  have q1 : inW h i := q.1
  obtain ⟨w, rfl, hw⟩ := in_nat q1
  refine w_set3 (va_stand (ve_var rfl) (ve_var rfl) (by rw [ok.sl]; exact hw)) ?_
  refine w_set (va_row (ve_var rfl) (ve_var rfl) hw) ?_
  have hd := ok.dl w hw
  refine w_if1 (p := decide ((h.sd w).d = (h.row w).length)) ((ve_eqI (ve_var rfl) (ve_lenN (ve_var rfl))).to (by rw [List.length_map]; exact congrArg Dt.bl (decide_eq_decide.mpr (by omega)))) (fun q => ?_) (fun q => ?_)
  · refine w_ret (ve_tup (ves2 ve_non ve_str)) (rt _ _ (by simp [startV]) ⟨q1, ?_⟩)
    have q : (h.sd w).d = (h.row w).length := of_decide_eq_true q
    show _ = ahdD h ((w : Int).toNat)
    rw [Int.toNat_natCast]
    unfold ahdD ahd
    rw [List.getElem?_eq_none (by omega)]
  · have q : (h.sd w).d ≠ (h.row w).length := of_decide_eq_false q
    have e : (h.row w)[(h.sd w).d]? = some ((h.row w)[(h.sd w).d]'(by omega)) := List.getElem?_eq_getElem _
    refine w_ret (ve_tup (ves2 (ve_ixN (ve_var rfl) (ve_var rfl) (get_map e)) (ve_var rfl))) (rt _ _ (by simp [startV]) ⟨q1, ?_⟩)
    show _ = ahdD h ((w : Int).toNat)
    rw [Int.toNat_natCast]
    unfold ahdD ahd
    rw [e]
def g_within (C : Addr) : Sg := fnX "within" 3 (hiD C) (fun a => HOk a.1 ∧ small a.2) (fun a d => inW a.1 a.2 ∧ d = optD (wth a.1 a.2.toNat)) fun a x => ¬ inW a.1 a.2 ∧ x = "NoWalker"
def b_within (C : Addr) : Ss := (.cons (.set (.t (.cons (.v 2) (.cons (.v 3) .nil))) (.call (g_ahead C) (.cons (.var 0) (.cons (.var 1) .nil)))) (.cons (.ite (.cmp .eq (.var 3) (.str "come")) (.cons (.ret .non) .nil) .nil) (.cons (.ret (.var 2)) .nil)))
theorem ok_within (C : Addr) : FnD (g_within C) 2 4 [] (b_within C) := fnX_ok (fun _ => rfl) fun ⟨h, i⟩ hi P X rt nx hx => by
  obtain ⟨ok, h1⟩ : HOk h ∧ small i := hi
  unfold b_within
  change wpSs X [.dat (hallD C h), .dat (.int i), .un, .un] _ _
  refine w_setT (wc_X (h, i) (ves2 (ve_var rfl) (ve_var rfl)) rfl ⟨ok, h1⟩ hi_inj (fun d q => ?_) fun x q => hx _ _ q)
  obtain ⟨q1, rfl⟩ := q
  have q1 : inW h i := q1
  have rt : ∀ d u, 2 ≤ u.length → d = optD (wth h i.toNat) → P.rt (.dat d) u := fun d u a b => rt d u a ⟨q1, b⟩
  show asD _ (.dat (ahdD h i.toNat))
  unfold ahdD
  unfold wth at rt
  generalize ahd h i.toNat = z at *
  cases z with
  | none =>
    refine ⟨rfl, ?_⟩
    refine w_if1 (p := false) ((ve_eqS (ve_var rfl) ve_str (by decide +kernel) (by decide +kernel)).to (by rw [decide_eq_false (by decide +kernel)])) (fun q => by cases q) (fun q => ?_)
    exact w_ret (ve_var rfl) (rt _ _ (by simp [startV]) rfl)
  | some z =>
    obtain ⟨g, wd⟩ := z
    refine ⟨rfl, ?_⟩
    refine w_if1 (p := decide (wd = .come)) ((ve_eqS (ve_var rfl) ve_str (wS_lay _) (by decide +kernel)).to (congrArg Dt.bl (decide_eq_decide.mpr ⟨fun z => wS_inj (b := .come) z, fun z => by rw [z]; rfl⟩))) (fun q => ?_) (fun q => ?_)
    · have q := of_decide_eq_true q
      exact w_ret ve_non (rt _ _ (by simp [startV]) (by dsimp only; rw [if_pos q]; rfl))
    · have q := of_decide_eq_false q
      exact w_ret (ve_var rfl) (rt _ _ (by simp [startV]) (by dsimp only; rw [if_neg q]; rfl))
def g_came (C : Addr) : Sg := fnX "came" 4 (hiiD C) (fun a => HOk a.1 ∧ small a.2.1 ∧ small a.2.2) (fun a d => inW a.1 a.2.1 ∧ inG a.1 a.2.2 ∧ d = iD (cme a.1 a.2.1.toNat a.2.2.toNat)) fun a x => (¬ inW a.1 a.2.1 ∧ x = "NoWalker") ∨ (inW a.1 a.2.1 ∧ ¬ inG a.1 a.2.2 ∧ x = "NoGate")
def b_came (C : Addr) : Ss := (.cons (.set (.v 3) (.call (g_passed C) (.cons (.var 0) (.cons (.var 1) (.cons (.var 2) .nil))))) (.cons (.ite (.cmp .eq (.call (g_within C) (.cons (.var 0) (.cons (.var 1) .nil))) (.var 2)) (.cons (.aug 3 (.int 1)) .nil) .nil) (.cons (.ret (.var 3)) .nil)))
theorem optD_eq (o : Option Nat) (g : Nat) : DOk 8 (optD o) ∧ eqD (optD o) (iD g) = decide (o = some g) := by
  cases o with
  | none => exact ⟨.non, by show eqD .non (.int _) = _; rw [eqD_ni]; simp⟩
  | some x => exact ⟨.int, by show eqD (.int _) (.int _) = _; rw [eqD_ii]; exact decide_eq_decide.mpr ⟨fun z => by congr 1; omega, fun z => by cases z; rfl⟩⟩
theorem ok_came (C : Addr) : FnD (g_came C) 3 4 [] (b_came C) := fnX_ok (fun _ => rfl) fun ⟨h, i, j⟩ hi P X rt nx hx => by
  obtain ⟨ok, h1, h2⟩ : HOk h ∧ small i ∧ small j := hi
  unfold b_came
  change wpSs X [.dat (hallD C h), .dat (.int i), .dat (.int j), .un] _ _
  refine w_setW (wc_X (h, i, j) (ves3 (ve_var rfl) (ve_var rfl) (ve_var rfl)) rfl ⟨ok, h1, h2⟩ hii_inj (fun d q => ?_) fun x q => hx _ _ q)
  obtain ⟨q1, q2, rfl⟩ := q
  have q1 : inW h i := q1
  have q2 : inG h j := q2
  obtain ⟨w, rfl, hw⟩ := in_nat q1
  obtain ⟨g, rfl, hg⟩ := in_natG q2
  have rt : ∀ d u, 3 ≤ u.length → d = iD (cme h w g) → P.rt (.dat d) u := fun d u a b => rt d u a ⟨q1, q2, b⟩
  have ew : VE X [.dat (hallD C h), .dat (iD w), .dat (iD g), .dat (iD (psd h w g))] (.call (g_within C) (.cons (.var 0) (.cons (.var 1) .nil))) (optD (wth h w)) := vc_X (h, (w : Int)) (ves2 (ve_var rfl) (ve_var rfl)) rfl ⟨ok, h1⟩ hi_inj (fun d q => q.2) fun x q => absurd q1 q.1
  show wpSs X [.dat (hallD C h), .dat (iD w), .dat (iD g), .dat (iD (psd h w g))] _ _
  obtain ⟨o1, o2⟩ := optD_eq (wth h w) g
  refine w_if1 (p := decide (wth h w = some g)) ((ve_eq ew (ve_var rfl) o1 .int).to (congrArg Dt.bl o2)) (fun q => ?_) (fun q => ?_)
  · have q := of_decide_eq_true q
    refine w_aug (i := ((psd h w g : Nat) : Int)) rfl ve_int ?_
    refine w_nil ?_
    refine w_ret (ve_var rfl) (rt _ _ (by simp) ?_)
    unfold cme; rw [if_pos q]; rfl
  · have q := of_decide_eq_false q
    refine w_ret (ve_var rfl) (rt _ _ (by simp) ?_)
    unfold cme; rw [if_neg q]; rfl
def g_boxes (C : Addr) : Sg := fnX "boxes" 2 (hiD C) (fun a => HOk a.1 ∧ small a.2) (fun a d => inG a.1 a.2 ∧ d = bxL (a.1.st a.2.toNat)) fun a x => ¬ inG a.1 a.2 ∧ x = "NoGate"
def b_boxes (C : Addr) : Ss := (.cons (.expr (.call (g_need_gate C) (.cons (.var 0) (.cons (.var 1) .nil)))) (.cons (.set (.v 2) (.ix (.attr (.var 0) "stores" "Hall" C) (.var 1))) (.cons (.ite (.cmp .eq (.ix (.ix (.attr (.var 0) "gates" "Hall" C) (.var 1)) (.int 0)) (.con "COUNT" (.str "count"))) (.cons (.ret (.new (.cp (.var 2)))) .nil) .nil) (.cons (.ret (.new (.comp (.v 3) (.l (.var 2)) .no (.v (.new (.cp (.var 3))))))) .nil))))
theorem ok_boxes (C : Addr) : FnD (g_boxes C) 2 4 [] (b_boxes C) := fnX_ok (fun _ => rfl) fun ⟨h, i⟩ hi P X rt nx hx => by
  obtain ⟨ok, h1⟩ : HOk h ∧ small i := hi
  unfold b_boxes
  change wpSs X [.dat (hallD C h), .dat (.int i), .un, .un] _ _
  refine w_exprW (wc_X (h, i) (ves2 (ve_var rfl) (ve_var rfl)) rfl h1 hi_inj (fun _ q => ?_) fun x q => hx _ _ q)
  have q1 : inG h i := q.1
  obtain ⟨g, rfl, hg⟩ := in_natG q1
  have rt : ∀ d u, 2 ≤ u.length → d = bxL (h.st g) → P.rt (.dat d) u := fun d u a b => rt d u a ⟨q1, b⟩
  refine w_set (va_store (ve_var rfl) (ve_var rfl) (by rw [ok.tl]; exact hg)) ?_
  have hb := ok.st g hg
  have hm := ok.mlen hg
  have hc : VE X ((startV 4 [.dat (hallD C h), .dat (.int (g : Int))]).set 2 (.dat (bxD (h.st g)))) (.cmp .eq (.ix (.ix (.attr (.var 0) "gates" "Hall" C) (.var 1)) (.int 0)) (.con "COUNT" (.str "count"))) (.bl (!(h.gt g).1)) := (ve_eqS (va_kind (ve_var rfl) (ve_var rfl) hg) ve_con (by cases (h.gt g).1 <;> decide +kernel) (by decide +kernel)).to (by cases (h.gt g).1 <;> rfl)
  generalize h.st g = b at *
  cases b with
  | cnt l s =>
    have hb : (h.gt g).1 = false := hb
    rw [hb] at hc
    refine w_if1 hc (fun _ => ?_) (fun z => by cases z)
    refine w_ret (d := .lst [.int l, .int s]) ?_ (rt _ _ (by simp [startV]) rfl)
    show wpE _ _ _ _
    rw [wpE, wpN]
    refine (ve_var rfl : VE X _ (.var 2) (bxD (.cnt l s))).use ?_
    exact ⟨rfl, rfl, rfl⟩
  | row bs =>
    obtain ⟨hb1, hb2, hb3⟩ := hb
    rw [hb1] at hc
    refine w_if1 hc (fun z => by cases z) (fun _ => ?_)
    refine w_ret (d := .lst (bs.map fun b => .lst (b.map .int))) ?_ (rt _ _ (by simp [startV]) rfl)
    show wpE _ _ _ _
    rw [wpE, wpN, wpSr]
    refine (ve_var rfl : VE X _ (.var 2) (bxD (.row bs))).use ?_
    refine ⟨by rw [List.length_map]; omega, compL_mapE (fun b : List Int => .tup (b.map .int)) (fun b => .dat (.lst (b.map .int))) (fun b hbm K k => ?_) ?_⟩
    · dsimp only [slots, wipeV]
      walk_at "wps"
      refine ⟨fun _ => ⟨all_isD _, all_isD _, ?_⟩, fun z => (by cases z)⟩
      rw [map_toD]
      exact k
    · rw [show (bs.map fun b => Tr.dat (.lst (b.map .int))) = (bs.map fun b : List Int => Dt.lst (b.map .int)).map Tr.dat from (map_map' _ _ _).symm]
      exact ⟨all_isD _, by rw [map_toD]⟩
end LB
/-! the program's defs over halls: what a step does -/
namespace LB
open PySem L2 DL DD
theorem HOk.nW {h : HM} (ok : HOk h) {w : Nat} (hw : w < h.rows.length) : inW h (w : Int) ∧ small (w : Int) := ⟨⟨by omega, by omega⟩, small_nat (by have := ok.go.rl; omega)⟩
theorem HOk.nG {h : HM} (ok : HOk h) {g : Nat} (hg : g < h.gates.length) : inG h (g : Int) ∧ small (g : Int) := ⟨⟨by omega, by omega⟩, small_nat (by have := ok.go.gl; omega)⟩
theorem pow_ok {t : Nat} (h : t ≤ 1000) : L2.CPow 1 (t : Int) := by
  unfold L2.CPow
  exact ⟨by omega, by omega, by decide⟩
def g_partner (C : Addr) : Sg := fnS "partner" 1 (fun a : Nat × Nat × Nat => [iD a.1, iD a.2.1, iD a.2.2]) (fun a => a.2.1 ≤ 1000 ∧ 0 < a.2.2) fun a d => d = iD ((a.1 + 2 ^ a.2.1) % a.2.2)
def b_partner (C : Addr) : Ss := (.cons (.ret (.bin .mod (.bin .add (.var 0) (.bin .shl (.int 1) (.var 1))) (.var 2))) .nil)
theorem ok_partner (C : Addr) : FnD (g_partner C) 3 3 [] (b_partner C) := fnS_ok (fun _ => rfl) fun ⟨p, t, m⟩ hi P rt nx => by
  obtain ⟨h1, h2⟩ : t ≤ 1000 ∧ 0 < m := hi
  have rt : ∀ d u, 3 ≤ u.length → d = iD ((p + 2 ^ t) % m) → P.rt (.dat d) u := rt
  unfold b_partner
  change wpSs noX [.dat (iD p), .dat (iD t), .dat (iD m)] _ _
  refine w_ret (ve_mod (ve_add (ve_var rfl) (ve_shl ve_int (ve_var rfl) (pow_ok h1))) (ve_var rfl) (by omega)) (rt _ _ (by simp) ?_)
  show Dt.int _ = Dt.int _
  congr 1
  rw [Int.toNat_natCast, Int.one_mul]
  norm_cast
def g_this_visit (C : Addr) : Sg := fnS "this_visit" 3 (hnnD C) (fun a => HOk a.1 ∧ a.2.1 < a.1.rows.length ∧ a.2.2 < a.1.gates.length) fun a d => d = iD (vis a.1 a.2.1 a.2.2)
def b_this_visit (C : Addr) : Ss := (.cons (.ret (.bin .add (.call (g_passed C) (.cons (.var 0) (.cons (.var 1) (.cons (.var 2) .nil)))) (.int 1))) .nil)
theorem ok_this_visit (C : Addr) : FnD (g_this_visit C) 3 3 [] (b_this_visit C) := fnS_ok (fun _ => rfl) fun ⟨h, w, g⟩ hi P rt nx => by
  obtain ⟨ok, hw, hg⟩ : HOk h ∧ w < h.rows.length ∧ g < h.gates.length := hi
  have rt : ∀ d u, 3 ≤ u.length → d = iD (vis h w g) → P.rt (.dat d) u := rt
  unfold b_this_visit
  change wpSs noX [.dat (hallD C h), .dat (iD w), .dat (iD g)] _ _
  exact w_ret (ve_add (i := ((psd h w g : Nat) : Int)) (vc_X (h, (w : Int), (g : Int)) (ves3 (ve_var rfl) (ve_var rfl) (ve_var rfl)) rfl ⟨ok, (ok.nW hw).2, (ok.nG hg).2⟩ hii_inj (fun d q => q.2.2) fun x q => q.elim (fun z => z.1 (ok.nW hw).1) fun z => z.2.1 (ok.nG hg).1) ve_int) (rt _ _ (by simp) rfl)
def g_count_sign (C : Addr) : Sg := fnS "count_sign" 1 (fun a : Nat => [iD a]) (fun a => True) fun a d => d = .int (csg a)
def b_count_sign (C : Addr) : Ss := (.cons (.ret (.bin .mod (.var 0) (.int 2))) .nil)
theorem ok_count_sign (C : Addr) : FnD (g_count_sign C) 1 1 [] (b_count_sign C) := fnS_ok (fun _ => rfl) fun v _ P rt nx => by
  unfold b_count_sign
  change wpSs noX [.dat (iD v)] _ _
  refine w_ret (ve_mod (ve_var rfl) ve_int (by decide)) (rt _ _ (by simp) ?_)
  show Dt.int _ = Dt.int _
  congr 1
def g_row_sign (C : Addr) : Sg := fnS "row_sign" 1 (fun a : Nat => [iD a]) (fun a => 1 ≤ a) fun a d => d = .int (rsg a)
def b_row_sign (C : Addr) : Ss := (.cons (.ret (.bin .sub (.int 1) (.bin .mod (.bin .div (.bin .sub (.var 0) (.int 1)) (.int 2)) (.int 2)))) .nil)
theorem ok_row_sign (C : Addr) : FnD (g_row_sign C) 1 1 [] (b_row_sign C) := fnS_ok (fun _ => rfl) fun v hv P rt nx => by
  have hv : 1 ≤ v := hv
  unfold b_row_sign
  change wpSs noX [.dat (iD v)] _ _
  refine w_ret (ve_sub ve_int (ve_mod (ve_div (ve_sub (ve_var rfl) ve_int) ve_int ⟨by decide, by decide⟩) ve_int (by decide))) (rt _ _ (by simp) ?_)
  show Dt.int _ = Dt.int (rsg v)
  congr 1
  unfold rsg
  omega
def g_box_number (C : Addr) : Sg := fnS "box_number" 2 (fun a : Nat × Nat × Nat => [iD a.1, iD a.2.1, iD a.2.2]) (fun a => a.2.2 ≤ 1000) fun a d => d = iD (bnr a.1 a.2.1 a.2.2)
def b_box_number (C : Addr) : Ss := (.cons (.ite (.cmp .eq (.bin .mod (.var 1) (.int 2)) (.int 0)) (.cons (.ret (.var 0)) .nil) .nil) (.cons (.ret (.bin .add (.call (g_rounds C) (.cons (.var 2) .nil)) (.var 0))) .nil))
theorem ok_box_number (C : Addr) : FnD (g_box_number C) 3 3 [] (b_box_number C) := fnS_ok (fun _ => rfl) fun ⟨t, v, m⟩ hi P rt nx => by
  have hi : m ≤ 1000 := hi
  have rt : ∀ d u, 3 ≤ u.length → d = iD (bnr t v m) → P.rt (.dat d) u := rt
  unfold b_box_number
  change wpSs noX [.dat (iD t), .dat (iD v), .dat (iD m)] _ _
  refine w_if1 (p := decide (v % 2 = 0)) ((ve_eqI (ve_mod (ve_var rfl) ve_int (by decide)) ve_int).to (congrArg Dt.bl (decide_eq_decide.mpr (by omega)))) (fun q => ?_) (fun q => ?_)
  · have q := of_decide_eq_true q
    exact w_ret (ve_var rfl) (rt _ _ (by simp) (by unfold bnr; rw [if_pos q]))
  · have q := of_decide_eq_false q
    refine w_ret (ve_add (i := ((rds m : Nat) : Int)) (vc_S m (ves1 (ve_var rfl)) rfl hi (inj1 natI) fun d z => z) (ve_var rfl)) (rt _ _ (by simp) ?_)
    unfold bnr; rw [if_neg q]; rfl
def g_same (C : Addr) : Sg := fnS "same" 3 (fun a : HM => [hallD C a]) (fun a => True) fun a d => d = hallD C a
def b_same (C : Addr) : Ss := (.cons (.ret (.mk "Hall" C (.cons (.attr (.var 0) "gates" "Hall" C) (.cons (.attr (.var 0) "rows" "Hall" C) (.cons (.attr (.var 0) "stands" "Hall" C) (.cons (.attr (.var 0) "stores" "Hall" C) .nil)))))) .nil)
theorem ok_same (C : Addr) : FnD (g_same C) 1 1 [] (b_same C) := fnS_ok (fun _ => rfl) fun h _ P rt nx => by
  unfold b_same
  change wpSs noX [.dat (hallD C h)] _ _
  exact w_ret (ve_mk (ves_cons (va_gates (ve_var rfl)) (ves3 (va_rows (ve_var rfl)) (va_stands (ve_var rfl)) (va_stores (ve_var rfl))))) (rt _ _ (by simp) rfl)
def g_with_item (C : Addr) : Sg := fnS "with_item" 1 (fun a : List Dt × Nat × Dt => [.tup a.1, iD a.2.1, a.2.2]) (fun a => a.2.1 < a.1.length ∧ a.1.length ≤ 1000) fun a d => d = .tup (a.1.set a.2.1 a.2.2)
def b_with_item (C : Addr) : Ss := (.cons (.ret (.bin .add (.bin .add (.slT (.var 0) .no (.so (.var 1))) (.tup (.cons (.var 2) .nil))) (.slT (.var 0) (.so (.bin .add (.var 1) (.int 1))) .no))) .nil)
theorem wi_inj {a : List Dt × Nat × Dt} : ∀ b : List Dt × Nat × Dt, ([.tup b.1, iD b.2.1, b.2.2] : List Dt) = [.tup a.1, iD a.2.1, a.2.2] → b = a := inj3 (fun h => by injection h) natI (fun h => h)
theorem ok_with_item (C : Addr) : FnD (g_with_item C) 3 3 [] (b_with_item C) := fnS_ok (fun _ => rfl) fun ⟨ds, k, x⟩ hi P rt nx => by
  obtain ⟨h1, h2⟩ : k < ds.length ∧ ds.length ≤ 1000 := hi
  have rt : ∀ d u, 3 ≤ u.length → d = .tup (ds.set k x) → P.rt (.dat d) u := rt
  unfold b_with_item
  have e : ds = ds.map id := (List.map_id ds).symm
  change wpSs noX [.dat (.tup ds), .dat (iD k), .dat x] _ _
  have h0 : VE noX [.dat (.tup ds), .dat (iD k), .dat x] (.var 0) (.tup (ds.map id)) := by rw [← e]; exact ve_var rfl
  refine w_ret (ve_tadd (ve_tadd (ve_slT_to h0 (ve_var rfl)) (ve_tup (ves1 (ve_var rfl))) ?_) (ve_slT_from (n := k + 1) h0 ((ve_add (i := ((k : Nat) : Int)) (ve_var rfl) ve_int).to (by show Dt.int _ = Dt.int _; congr 1))) ?_) (rt _ _ (by simp) ?_)
  · simp; omega
  · simp; omega
  · rw [List.map_id, List.map_id, List.append_assoc, List.set_eq_take_append_cons_drop, if_pos h1]
    rfl
def g_ahead_of_round (C : Addr) : Sg := fnS "ahead_of_round" 2 (fun a : Nat × Nat × Nat => [iD a.1, iD a.2.1, iD a.2.2]) (fun a => a.2.2 ≤ 1000) fun a d => d = sdD (aor a.1 a.2.1 a.2.2)
def b_ahead_of_round (C : Addr) : Ss := (.cons (.ite (.cmp .eq (.var 1) (.call (g_rounds C) (.cons (.var 2) .nil))) (.cons (.ret (.tup (.cons (.var 0) (.cons (.str "pass") (.cons (.int 0) .nil))))) .nil) .nil) (.cons (.ret (.tup (.cons (.var 0) (.cons (.str "tell") (.cons (.var 1) .nil))))) .nil))
theorem ok_ahead_of_round (C : Addr) : FnD (g_ahead_of_round C) 3 3 [] (b_ahead_of_round C) := fnS_ok (fun _ => rfl) fun ⟨d, t, m⟩ hi P rt nx => by
  have hi : m ≤ 1000 := hi
  have rt : ∀ x u, 3 ≤ u.length → x = sdD (aor d t m) → P.rt (.dat x) u := rt
  unfold b_ahead_of_round
  change wpSs noX [.dat (iD d), .dat (iD t), .dat (iD m)] _ _
  refine w_if1 (p := decide (t = rds m)) ((ve_eqI (j := ((rds m : Nat) : Int)) (ve_var rfl) (vc_S m (ves1 (ve_var rfl)) rfl hi (inj1 natI) fun d z => z)).to (congrArg Dt.bl (decide_eq_decide.mpr (by omega)))) (fun q => ?_) (fun q => ?_)
  · have q := of_decide_eq_true q
    exact w_ret (ve_tup (ves3 (ve_var rfl) ve_str ve_int)) (rt _ _ (by simp) (by unfold aor; rw [if_pos q]; rfl))
  · have q := of_decide_eq_false q
    exact w_ret (ve_tup (ves3 (ve_var rfl) ve_str (ve_var rfl))) (rt _ _ (by simp) (by unfold aor; rw [if_neg q]; rfl))
theorem bnr_lt {t v m : Nat} (h : t < rds m) : bnr t v m < 2 * rds m := by unfold bnr; split <;> omega
theorem kind_cnt {h : HM} (ok : HOk h) {g : Nat} (hg : g < h.gates.length) (k : (h.gt g).1 = false) : ∃ l s, h.st g = .cnt l s := by
  have hb := ok.st g hg
  generalize h.st g = b at *
  cases b with
  | cnt l s => exact ⟨l, s, rfl⟩
  | row bs => exact absurd hb.1 (by rw [k]; decide)
theorem kind_row {h : HM} (ok : HOk h) {g : Nat} (hg : g < h.gates.length) (k : (h.gt g).1 = true) : ∃ bs, h.st g = .row bs ∧ bs.length = (h.gt g).2.length ∧ ∀ b ∈ bs, b.length = 2 * rds (h.gt g).2.length := by
  have hb := ok.st g hg
  generalize h.st g = b at *
  cases b with
  | cnt l s => exact absurd (show (h.gt g).1 = false from hb) (by rw [k]; decide)
  | row bs => exact ⟨bs, rfl, hb.2⟩
/-- which words stand at which gates -/
theorem sd_cnt {h : HM} (ok : HOk h) {w g : Nat} (hw : w < h.rows.length) (e : (h.row w)[(h.sd w).d]? = some g) (k : (h.gt g).1 = false) : (h.sd w).w ≠ .tell ∧ (h.sd w).w ≠ .hear ∧ (h.sd w).t = 0 := by
  have := ok.sd w g hw e
  unfold SdOk at this
  rwa [if_neg (by rw [k]; decide)] at this
theorem sd_row {h : HM} (ok : HOk h) {w g : Nat} (hw : w < h.rows.length) (e : (h.row w)[(h.sd w).d]? = some g) (k : (h.gt g).1 = true) : ((h.sd w).w = .come ∧ (h.sd w).t = 0) ∨ ((h.sd w).w = .tell ∧ (h.sd w).t < rds (h.gt g).2.length) ∨ ((h.sd w).w = .hear ∧ (h.sd w).t < rds (h.gt g).2.length) ∨ ((h.sd w).w = .pass ∧ (h.sd w).t = 0) := by
  have := ok.sd w g hw e
  unfold SdOk at this
  rwa [if_pos k] at this
def g_in_vain (C : Addr) : Sg := fnS "in_vain" 4 (hnD C) (fun a => HOk a.1 ∧ a.2 < a.1.rows.length ∧ ahd a.1 a.2 ≠ none) fun a d => d = .bl (vain a.1 a.2)
def b_in_vain (C : Addr) : Ss := (.cons (.set (.t (.cons (.v 2) (.cons (.v 3) .nil))) (.call (g_ahead C) (.cons (.var 0) (.cons (.var 1) .nil)))) (.cons (.set (.v 4) (.call (g_this_visit C) (.cons (.var 0) (.cons (.var 1) (.cons (.var 2) .nil))))) (.cons (.ite (.cmp .eq (.var 3) (.str "look")) (.cons (.ret (.cmp .ne (.ix (.ix (.attr (.var 0) "stores" "Hall" C) (.var 2)) (.int 1)) (.call (g_count_sign C) (.cons (.var 4) .nil)))) .nil) .nil) (.cons (.ite (.cmp .eq (.var 3) (.str "hear")) (.cons (.set (.v 5) (.ix (.ix (.attr (.var 0) "gates" "Hall" C) (.var 2)) (.int 1))) (.cons (.set (.v 6) (.ix (.ix (.attr (.var 0) "stores" "Hall" C) (.var 2)) (.idx (.var 5) (.var 1)))) (.cons (.set (.v 7) (.ix (.ix (.attr (.var 0) "stands" "Hall" C) (.var 1)) (.int 2))) (.cons (.ret (.cmp .ne (.ix (.var 6) (.call (g_box_number C) (.cons (.var 7) (.cons (.var 4) (.cons (.f1 .len (.var 5)) .nil))))) (.call (g_row_sign C) (.cons (.var 4) .nil)))) .nil)))) .nil) (.cons (.ret (.bl false)) .nil)))))
theorem ve_ahead {C : Addr} {h : HM} (ok : HOk h) {w : Nat} (hw : w < h.rows.length) {X : Str → DD.Env → Prop} {v : DD.Env} {a b : E} (ha : VE X v a (hallD C h)) (hb : VE X v b (iD w)) (ho : ownRoots v (.cons a (.cons b .nil)) = []) : VE X v (.call (g_ahead C) (.cons a (.cons b .nil))) (ahdD h w) := vc_X (h, (w : Int)) (ves2 ha hb) ho ⟨ok, (ok.nW hw).2⟩ hi_inj (fun d q => q.2) fun x q => absurd (ok.nW hw).1 q.1
theorem ve_visit {C : Addr} {h : HM} (ok : HOk h) {w g : Nat} (hw : w < h.rows.length) (hg : g < h.gates.length) {X : Str → DD.Env → Prop} {v : DD.Env} {a b c : E} (ha : VE X v a (hallD C h)) (hb : VE X v b (iD w)) (hc : VE X v c (iD g)) (ho : ownRoots v (.cons a (.cons b (.cons c .nil))) = []) : VE X v (.call (g_this_visit C) (.cons a (.cons b (.cons c .nil)))) (iD (vis h w g)) := vc_S (h, w, g) (ves3 ha hb hc) ho ⟨ok, hw, hg⟩ hnn_inj fun d q => q
theorem ok_in_vain (C : Addr) : FnD (g_in_vain C) 2 8 [] (b_in_vain C) := fnS_ok (fun _ => rfl) fun ⟨h, w⟩ hi P rt nx => by
  obtain ⟨ok, hw, hne⟩ : HOk h ∧ w < h.rows.length ∧ ahd h w ≠ none := hi
  have rt : ∀ d u, 2 ≤ u.length → d = .bl (vain h w) → P.rt (.dat d) u := rt
  unfold b_in_vain
  change wpSs noX [.dat (hallD C h), .dat (iD w), .un, .un, .un, .un, .un, .un] _ _
  obtain ⟨⟨g, wd⟩, e⟩ : ∃ z, ahd h w = some z := by
    cases z : ahd h w with
    | none => exact absurd z hne
    | some y => exact ⟨y, rfl⟩
  obtain ⟨e1, e2⟩ := ahd_eq e
  obtain ⟨hg, hmem⟩ := ok.mem hw e1
  have hm := ok.mlen hg
  have ea : ahdD h w = .tup [iD g, .str (wS wd)] := by unfold ahdD; rw [e]
  have rt : ∀ d u, 2 ≤ u.length → d = .bl (match (some (g, wd) : Option (Nat × Wo)) with | some (g, .look) => decide (side (h.st g) ≠ csg (vis h w g)) | some (g, .hear) => decide (bxAt (h.st g) (plc h w g) (bnr (h.sd w).t (vis h w g) (h.gt g).2.length) ≠ rsg (vis h w g)) | _ => false) → P.rt (.dat d) u := fun d u a b => rt d u a (by rw [b]; unfold vain; rw [e]; first | done | rfl)
  refine w_set2 (by rw [← ea]; exact ve_ahead ok hw (ve_var rfl) (ve_var rfl) rfl) ?_
  refine w_set (ve_visit ok hw hg (ve_var rfl) (ve_var rfl) (ve_var rfl) rfl) ?_
  refine w_if1 (p := decide (wd = .look)) ((ve_eqS (ve_var rfl) ve_str (wS_lay _) (by decide +kernel)).to (congrArg Dt.bl (decide_eq_decide.mpr ⟨fun z => wS_inj (b := .look) z, fun z => by rw [z]; rfl⟩))) (fun q => ?_) (fun q => ?_)
  · have q := of_decide_eq_true q
    subst q
    have k : (h.gt g).1 = false := by
      cases z : (h.gt g).1 with
      | false => rfl
      | true => rcases sd_row ok hw e1 z with y | y | y | y <;> (rw [e2] at y; cases y.1)
    obtain ⟨l, s, es⟩ := kind_cnt ok hg k
    refine w_ret (ve_neI (i := side (h.st g)) (j := csg (vis h w g)) (ve_ixT (n := 1) (ds := [.int l, .int s]) (by have := va_store (C := C) (h := h) (v := [.dat (hallD C h), .dat (iD w), .dat (iD g), .dat (.str (wS .look)), .dat (iD (vis h w g)), .un, .un, .un]) (X := noX) (a := .var 0) (b := .var 2) (n := g) (ve_var rfl) (ve_var rfl) (by rw [ok.tl]; exact hg); rw [es] at this; exact this) rfl (by rw [es]; rfl)) (vc_S (vis h w g) (ves1 (ve_var rfl)) rfl trivial (inj1 natI) fun d z => z)) (rt _ _ (by simp) rfl)
  have q := of_decide_eq_false q
  refine w_if1 (p := decide (wd = .hear)) ((ve_eqS (ve_var rfl) ve_str (wS_lay _) (by decide +kernel)).to (congrArg Dt.bl (decide_eq_decide.mpr ⟨fun z => wS_inj (b := .hear) z, fun z => by rw [z]; rfl⟩))) (fun q2 => ?_) (fun q2 => ?_)
  · have q2 := of_decide_eq_true q2
    subst q2
    have k : (h.gt g).1 = true := by
      cases z : (h.gt g).1 with
      | true => rfl
      | false => exact absurd e2 (sd_cnt ok hw e1 z).2.1
    have ht : (h.sd w).t < rds (h.gt g).2.length := by
      rcases sd_row ok hw e1 k with y | y | y | y
      · rw [e2] at y; cases y.1
      · exact y.2
      · exact y.2
      · rw [e2] at y; cases y.1
    obtain ⟨bs, es, b1, b2⟩ := kind_row ok hg k
    have hp := ok.plc hw e1
    have hb : bs[plc h w g]? = some (bs.getD (plc h w g) []) := getD_lt (by rw [b1]; exact hp)
    have hbl := b2 _ (List.mem_of_getElem? hb)
    refine w_set (va_mems (ve_var rfl) (ve_var rfl) hg) ?_
    refine w_set (d := .tup ((bs.getD (plc h w g) []).map .int)) (ve_ixT (n := plc h w g) (ds := bs.map fun b => .tup (b.map .int)) ?_ (ve_idxN (ve_var rfl) (ve_var rfl) hmem) (get_map hb)) ?_
    · have := va_store (C := C) (h := h) (v := [.dat (hallD C h), .dat (iD w), .dat (iD g), .dat (.str (wS .hear)), .dat (iD (vis h w g)), .dat (.nup ((h.gt g).2.map iD)), .un, .un]) (X := noX) (a := .var 0) (b := .var 2) (n := g) (ve_var rfl) (ve_var rfl) (by rw [ok.tl]; exact hg)
      rw [es] at this
      exact this
    refine w_set (d := iD (h.sd w).t) (ve_ixT (n := 2) (va_stand (ve_var rfl) (ve_var rfl) (by rw [ok.sl]; exact hw)) rfl rfl) ?_
    have hx := bnr_lt (v := vis h w g) ht
    refine w_ret (ve_neI (i := bxAt (h.st g) (plc h w g) (bnr (h.sd w).t (vis h w g) (h.gt g).2.length)) (j := rsg (vis h w g)) (ve_ixT (n := bnr (h.sd w).t (vis h w g) (h.gt g).2.length) (ve_var rfl) (vc_S ((h.sd w).t, vis h w g, (h.gt g).2.length) (ves3 (ve_var rfl) (ve_var rfl) ((ve_lenN (ve_var rfl)).to (by rw [List.length_map]))) rfl (by show (h.gt g).2.length ≤ 1000; omega) (inj3 natI natI natI) fun d z => z) ?_) (vc_S (vis h w g) (ves1 (ve_var rfl)) rfl (by show 1 ≤ psd h w g + 1; omega) (inj1 natI) fun d z => z)) (rt _ _ (by simp) rfl)
    rw [es]
    exact get_map (getD_lt (by rw [hbl]; exact hx))
  · have q2 := of_decide_eq_false q2
    refine w_ret ve_bl (rt _ _ (by simp) ?_)
    cases wd <;> first | rfl | exact absurd rfl q | exact absurd rfl q2
def g_idle (C : Addr) : Sg := fnX "idle" 5 (hiD C) (fun a => HOk a.1 ∧ small a.2) (fun a d => inW a.1 a.2 ∧ d = .bl (idl a.1 a.2.toNat)) fun a x => ¬ inW a.1 a.2 ∧ x = "NoWalker"
def b_idle (C : Addr) : Ss := (.cons (.set (.t (.cons (.v 2) (.cons (.v 3) .nil))) (.call (g_ahead C) (.cons (.var 0) (.cons (.var 1) .nil)))) (.cons (.ret (.or (.isN true (.var 2)) (.call (g_in_vain C) (.cons (.var 0) (.cons (.var 1) .nil))))) .nil))
theorem ve_vain {C : Addr} {h : HM} (ok : HOk h) {w : Nat} (hw : w < h.rows.length) (hn : ahd h w ≠ none) {X : Str → DD.Env → Prop} {v : DD.Env} {a b : E} (ha : VE X v a (hallD C h)) (hb : VE X v b (iD w)) (ho : ownRoots v (.cons a (.cons b .nil)) = []) : VE X v (.call (g_in_vain C) (.cons a (.cons b .nil))) (.bl (vain h w)) := vc_S (h, w) (ves2 ha hb) ho ⟨ok, hw, hn⟩ hn_inj fun d q => q
theorem ok_idle (C : Addr) : FnD (g_idle C) 2 4 [] (b_idle C) := fnX_ok (fun _ => rfl) fun ⟨h, i⟩ hi P X rt nx hx => by
  obtain ⟨ok, h1⟩ : HOk h ∧ small i := hi
  unfold b_idle
  change wpSs X [.dat (hallD C h), .dat (.int i), .un, .un] _ _
  refine w_setT (wc_X (h, i) (ves2 (ve_var rfl) (ve_var rfl)) rfl ⟨ok, h1⟩ hi_inj (fun d q => ?_) fun x q => hx _ _ q)
  obtain ⟨q1, rfl⟩ := q
  have q1 : inW h i := q1
  obtain ⟨w, rfl, hw⟩ := in_nat q1
  have rt : ∀ d u, 2 ≤ u.length → d = .bl (idl h w) → P.rt (.dat d) u := fun d u a b => rt d u a ⟨q1, b⟩
  show asD _ (.dat (ahdD h w))
  cases z : ahd h w with
  | none =>
    rw [show ahdD h w = .tup [.non, .str "end"] by unfold ahdD; rw [z]]
    refine ⟨rfl, ?_⟩
    refine w_ret (ve_or (p := true) (q := true) ((ve_isN (ve_var rfl)).to rfl) fun y => by cases y) (rt _ _ (by simp) ?_)
    unfold idl; rw [z]; rfl
  | some y =>
    obtain ⟨g, wd⟩ := y
    rw [show ahdD h w = .tup [iD g, .str (wS wd)] by unfold ahdD; rw [z]]
    refine ⟨rfl, ?_⟩
    refine w_ret (ve_or (p := false) ((ve_isN (ve_var rfl)).to rfl) fun _ => ve_vain ok hw (by rw [z]; exact fun y => by cases y) (ve_var rfl) (ve_var rfl) rfl) (rt _ _ (by simp) ?_)
    unfold idl; rw [z]; rfl
end LB
/-! the program's defs over halls: steps -/
namespace LB
open PySem L2 DL DD
structure At (h : HM) (w g : Nat) : Prop where
  ok : HOk h
  hw : w < h.rows.length
  e : (h.row w)[(h.sd w).d]? = some g
theorem At.g {h : HM} {w g : Nat} (a : At h w g) : g < h.gates.length := (a.ok.mem a.hw a.e).1
theorem dec_w {w x : Wo} : decide (wS w = wS x) = decide (w = x) := decide_eq_decide.mpr ⟨fun z => wS_inj z, fun z => by rw [z]⟩
theorem ve_wd {X : Str → DD.Env → Prop} {v : DD.Env} {a : E} {w : Wo} (x : Wo) (ha : VE X v a (.str (wS w))) : VE X v (.cmp .eq a (.str (wS x))) (.bl (decide (w = x))) := (ve_eqS ha ve_str (wS_lay _) (wS_lay _)).to (by rw [dec_w])
def g_behind_counting (C : Addr) : Sg := fnS "behind_counting" 4 (hnnD C) (fun a => At a.1 a.2.1 a.2.2 ∧ (a.1.gt a.2.2).1 = false) fun a d => d = .tup [sdD (beh a.1 a.2.1 a.2.2).1, bxD (beh a.1 a.2.1 a.2.2).2]
def b_behind_counting (C : Addr) : Ss := (.cons (.set (.t (.cons (.v 3) (.cons (.v 4) (.cons (.v 5) .nil)))) (.ix (.attr (.var 0) "stands" "Hall" C) (.var 1))) (.cons (.set (.t (.cons (.v 6) (.cons (.v 7) .nil))) (.ix (.attr (.var 0) "stores" "Hall" C) (.var 2))) (.cons (.ite (.and (.cmp .eq (.var 4) (.str "come")) (.cmp .eq (.var 6) (.int 1))) (.cons (.ret (.tup (.cons (.tup (.cons (.var 3) (.cons (.str "fill") (.cons (.int 0) .nil)))) (.cons (.tup (.cons (.int 0) (.cons (.var 7) .nil))) .nil)))) .nil) .nil) (.cons (.ite (.cmp .eq (.var 4) (.str "come")) (.cons (.ret (.tup (.cons (.tup (.cons (.var 3) (.cons (.str "look") (.cons (.int 0) .nil)))) (.cons (.tup (.cons (.bin .sub (.var 6) (.int 1)) (.cons (.var 7) .nil))) .nil)))) .nil) .nil) (.cons (.ite (.cmp .eq (.var 4) (.str "fill")) (.cons (.ret (.tup (.cons (.tup (.cons (.var 3) (.cons (.str "turn") (.cons (.int 0) .nil)))) (.cons (.tup (.cons (.f1 .len (.ix (.ix (.attr (.var 0) "gates" "Hall" C) (.var 2)) (.int 1))) (.cons (.var 7) .nil))) .nil)))) .nil) .nil) (.cons (.ite (.cmp .eq (.var 4) (.str "turn")) (.cons (.ret (.tup (.cons (.tup (.cons (.var 3) (.cons (.str "pass") (.cons (.int 0) .nil)))) (.cons (.tup (.cons (.var 6) (.cons (.call (g_count_sign C) (.cons (.call (g_this_visit C) (.cons (.var 0) (.cons (.var 1) (.cons (.var 2) .nil)))) .nil)) .nil))) .nil)))) .nil) .nil) (.cons (.ite (.cmp .eq (.var 4) (.str "look")) (.cons (.ret (.tup (.cons (.tup (.cons (.var 3) (.cons (.str "pass") (.cons (.int 0) .nil)))) (.cons (.tup (.cons (.var 6) (.cons (.var 7) .nil))) .nil)))) .nil) .nil) (.cons (.ret (.tup (.cons (.tup (.cons (.bin .add (.var 3) (.int 1)) (.cons (.str "come") (.cons (.int 0) .nil)))) (.cons (.tup (.cons (.var 6) (.cons (.var 7) .nil))) .nil)))) .nil))))))))
theorem ok_behind_counting (C : Addr) : FnD (g_behind_counting C) 3 8 [] (b_behind_counting C) := fnS_ok (fun _ => rfl) fun ⟨h, w, g⟩ hi P rt nx => by
  obtain ⟨⟨ok, hw, e⟩, k⟩ : At h w g ∧ (h.gt g).1 = false := hi
  have hg := (ok.mem hw e).1
  obtain ⟨l, s, es⟩ := kind_cnt ok hg k
  have rt : ∀ d u, 3 ≤ u.length → d = .tup [sdD (behC (h.sd w) l s (h.gt g).2.length (vis h w g)).1, bxD (behC (h.sd w) l s (h.gt g).2.length (vis h w g)).2] → P.rt (.dat d) u := fun d u a b => rt d u a (by rw [b]; unfold beh; dsimp only; rw [es])
  unfold b_behind_counting
  change wpSs noX [.dat (hallD C h), .dat (iD w), .dat (iD g), .un, .un, .un, .un, .un] _ _
  refine w_set3 (va_stand (ve_var rfl) (ve_var rfl) (by rw [ok.sl]; exact hw)) ?_
  refine w_set2 (x := .int l) (y := .int s) ((va_store (ve_var rfl) (ve_var rfl) (by rw [ok.tl]; exact hg)).to (by rw [es]; rfl)) ?_
  have hs := sd_cnt ok hw e k
  generalize hsd : h.sd w = st at *
  obtain ⟨d, wd, t⟩ := st
  have pad : ∀ u : List Dt, 3 ≤ u.length → 3 ≤ (u.map Tr.dat).length := fun u z => by simpa using z
  refine w_if1 (p := decide (wd = .come) && decide (l = 1)) (ve_and (ve_wd .come (ve_var rfl)) fun _ => ve_eqI (ve_var rfl) ve_int) (fun q => ?_) (fun q => ?_)
  · rw [Bool.and_eq_true] at q
    have q1 := of_decide_eq_true q.1
    have q2 := of_decide_eq_true q.2
    subst q1
    exact w_ret (ve_tup (ves2 (ve_tup (ves3 (ve_var rfl) ve_str ve_int)) (ve_tup (ves2 ve_int (ve_var rfl))))) (rt _ _ (by simp) (by unfold behC; dsimp only; rw [if_pos q2]; rfl))
  refine w_if1 (ve_wd .come (ve_var rfl)) (fun q1 => ?_) (fun q1 => ?_)
  · have q1 := of_decide_eq_true q1
    subst q1
    have q2 : l ≠ 1 := by simpa using q
    exact w_ret (ve_tup (ves2 (ve_tup (ves3 (ve_var rfl) ve_str ve_int)) (ve_tup (ves2 (ve_sub (ve_var rfl) ve_int) (ve_var rfl))))) (rt _ _ (by simp) (by unfold behC; dsimp only; rw [if_neg q2]; rfl))
  have q1 := of_decide_eq_false q1
  refine w_if1 (ve_wd .fill (ve_var rfl)) (fun q2 => ?_) (fun q2 => ?_)
  · have q2 := of_decide_eq_true q2
    subst q2
    exact w_ret (ve_tup (ves2 (ve_tup (ves3 (ve_var rfl) ve_str ve_int)) (ve_tup (ves2 (ve_lenN (va_mems (ve_var rfl) (ve_var rfl) hg)) (ve_var rfl))))) (rt _ _ (by simp) (by rw [List.length_map]; rfl))
  have q2 := of_decide_eq_false q2
  refine w_if1 (ve_wd .turn (ve_var rfl)) (fun q3 => ?_) (fun q3 => ?_)
  · have q3 := of_decide_eq_true q3
    subst q3
    exact w_ret (ve_tup (ves2 (ve_tup (ves3 (ve_var rfl) ve_str ve_int)) (ve_tup (ves2 (ve_var rfl) (vc_S (vis h w g) (ves1 (ve_visit ok hw hg (ve_var rfl) (ve_var rfl) (ve_var rfl) rfl)) rfl trivial (inj1 natI) fun d z => z))))) (rt _ _ (by simp) rfl)
  have q3 := of_decide_eq_false q3
  refine w_if1 (ve_wd .look (ve_var rfl)) (fun q4 => ?_) (fun q4 => ?_)
  · have q4 := of_decide_eq_true q4
    subst q4
    exact w_ret (ve_tup (ves2 (ve_tup (ves3 (ve_var rfl) ve_str ve_int)) (ve_tup (ves2 (ve_var rfl) (ve_var rfl))))) (rt _ _ (by simp) rfl)
  have q4 := of_decide_eq_false q4
  refine w_ret (ve_tup (ves2 (ve_tup (ves3 (ve_add (ve_var rfl) ve_int) ve_str ve_int)) (ve_tup (ves2 (ve_var rfl) (ve_var rfl))))) (rt _ _ (by simp) ?_)
  cases wd <;> first | exact absurd rfl q1 | exact absurd rfl q2 | exact absurd rfl q3 | exact absurd rfl q4 | exact absurd rfl hs.1 | exact absurd rfl hs.2.1 | rfl
def g_behind_tell (C : Addr) : Sg := fnS "behind_tell" 4 (hnnD C) (fun a => At a.1 a.2.1 a.2.2 ∧ (a.1.gt a.2.2).1 = true ∧ (a.1.sd a.2.1).w = .tell) fun a d => d = bxD (.row (tellB (bits (a.1.st a.2.2)) (plc a.1 a.2.1 a.2.2) (a.1.sd a.2.1).t (vis a.1 a.2.1 a.2.2) (bits (a.1.st a.2.2)).length))
def b_behind_tell (C : Addr) : Ss := (.cons (.set (.v 3) (.ix (.ix (.attr (.var 0) "gates" "Hall" C) (.var 2)) (.int 1))) (.cons (.set (.v 4) (.f1 .len (.var 3))) (.cons (.set (.v 5) (.ix (.attr (.var 0) "stores" "Hall" C) (.var 2))) (.cons (.set (.v 6) (.ix (.ix (.attr (.var 0) "stands" "Hall" C) (.var 1)) (.int 2))) (.cons (.set (.v 7) (.call (g_this_visit C) (.cons (.var 0) (.cons (.var 1) (.cons (.var 2) .nil))))) (.cons (.set (.v 8) (.call (g_partner C) (.cons (.idx (.var 3) (.var 1)) (.cons (.var 6) (.cons (.var 4) .nil))))) (.cons (.set (.v 9) (.call (g_with_item C) (.cons (.ix (.var 5) (.var 8)) (.cons (.call (g_box_number C) (.cons (.var 6) (.cons (.var 7) (.cons (.var 4) .nil)))) (.cons (.call (g_row_sign C) (.cons (.var 7) .nil)) .nil))))) (.cons (.ret (.call (g_with_item C) (.cons (.var 5) (.cons (.var 8) (.cons (.var 9) .nil))))) .nil))))))))
theorem ok_behind_tell (C : Addr) : FnD (g_behind_tell C) 3 10 [] (b_behind_tell C) := fnS_ok (fun _ => rfl) fun ⟨h, w, g⟩ hi P rt nx => by
  obtain ⟨⟨ok, hw, e⟩, k, wt⟩ : At h w g ∧ (h.gt g).1 = true ∧ (h.sd w).w = .tell := hi
  obtain ⟨hg, hmem⟩ := ok.mem hw e
  have hm := ok.mlen hg
  have hp := ok.plc hw e
  obtain ⟨bs, es, b1, b2⟩ := kind_row ok hg k
  have ht : (h.sd w).t < rds (h.gt g).2.length := by
    rcases sd_row ok hw e k with y | y | y | y
    · rw [wt] at y; cases y.1
    · exact y.2
    · exact y.2
    · rw [wt] at y; cases y.1
  have hr := rds_le (n := (h.gt g).2.length) (by omega)
  have rt : ∀ d u, 3 ≤ u.length → d = bxD (.row (tellB bs (plc h w g) (h.sd w).t (vis h w g) (h.gt g).2.length)) → P.rt (.dat d) u := fun d u a b => rt d u a (by rw [b]; dsimp only; rw [es]; show _ = bxD (.row (tellB bs _ _ _ bs.length)); rw [b1])
  unfold b_behind_tell
  change wpSs noX [.dat (hallD C h), .dat (iD w), .dat (iD g), .un, .un, .un, .un, .un, .un, .un] _ _
  refine w_set (va_mems (ve_var rfl) (ve_var rfl) hg) ?_
  refine w_set ((ve_lenN (ve_var rfl)).to (by rw [List.length_map])) ?_
  refine w_set (d := bxD (.row bs)) ((va_store (ve_var rfl) (ve_var rfl) (by rw [ok.tl]; exact hg)).to (by rw [es])) ?_
  refine w_set (d := iD (h.sd w).t) (ve_ixT (n := 2) (va_stand (ve_var rfl) (ve_var rfl) (by rw [ok.sl]; exact hw)) rfl rfl) ?_
  refine w_set (ve_visit ok hw hg (ve_var rfl) (ve_var rfl) (ve_var rfl) rfl) ?_
  refine w_set (d := iD ((plc h w g + 2 ^ (h.sd w).t) % (h.gt g).2.length)) (vc_S (plc h w g, (h.sd w).t, (h.gt g).2.length) (ves3 (ve_idxN (ve_var rfl) (ve_var rfl) hmem) (ve_var rfl) (ve_var rfl)) rfl ⟨by show (h.sd w).t ≤ 1000; omega, by show 0 < (h.gt g).2.length; omega⟩ (inj3 natI natI natI) fun d z => z) ?_
  have hq : (plc h w g + 2 ^ (h.sd w).t) % (h.gt g).2.length < bs.length := by rw [b1]; exact Nat.mod_lt _ (by omega)
  have hb : bs[(plc h w g + 2 ^ (h.sd w).t) % (h.gt g).2.length]? = some (bs.getD ((plc h w g + 2 ^ (h.sd w).t) % (h.gt g).2.length) []) := getD_lt hq
  have hbl := b2 _ (List.mem_of_getElem? hb)
  have hx := bnr_lt (v := vis h w g) ht
  refine w_set (d := .tup (((bs.getD ((plc h w g + 2 ^ (h.sd w).t) % (h.gt g).2.length) []).set (bnr (h.sd w).t (vis h w g) (h.gt g).2.length) (rsg (vis h w g))).map .int)) (vc_S ((bs.getD ((plc h w g + 2 ^ (h.sd w).t) % (h.gt g).2.length) []).map .int, bnr (h.sd w).t (vis h w g) (h.gt g).2.length, .int (rsg (vis h w g))) (ves3 (ve_ixT (n := (plc h w g + 2 ^ (h.sd w).t) % (h.gt g).2.length) (ds := bs.map fun b => .tup (b.map .int)) (ve_var rfl) (ve_var rfl) (get_map hb)) (vc_S ((h.sd w).t, vis h w g, (h.gt g).2.length) (ves3 (ve_var rfl) (ve_var rfl) (ve_var rfl)) rfl (by show (h.gt g).2.length ≤ 1000; omega) (inj3 natI natI natI) fun d z => z) (vc_S (vis h w g) (ves1 (ve_var rfl)) rfl (by show 1 ≤ psd h w g + 1; omega) (inj1 natI) fun d z => z)) rfl ⟨by rw [List.length_map]; show _ < _; rw [hbl]; exact hx, by rw [List.length_map]; show _ ≤ _; rw [hbl]; omega⟩ wi_inj fun d z => by rw [show d = _ from z]; rw [List.map_set]) ?_
  refine w_ret (vc_S (bs.map fun b => .tup (b.map .int), (plc h w g + 2 ^ (h.sd w).t) % (h.gt g).2.length, _) (ves3 (ve_var rfl) (ve_var rfl) (ve_var rfl)) rfl ⟨by rw [List.length_map]; exact hq, by rw [List.length_map, b1]; omega⟩ wi_inj fun d z => z) (rt _ _ (by simp) ?_)
  unfold tellB bxD
  simp only [List.map_set]
def g_behind_row (C : Addr) : Sg := fnS "behind_row" 5 (hnnD C) (fun a => At a.1 a.2.1 a.2.2 ∧ (a.1.gt a.2.2).1 = true) fun a d => d = .tup [sdD (beh a.1 a.2.1 a.2.2).1, bxD (beh a.1 a.2.1 a.2.2).2]
def b_behind_row (C : Addr) : Ss := (.cons (.set (.t (.cons (.v 3) (.cons (.v 4) (.cons (.v 5) .nil)))) (.ix (.attr (.var 0) "stands" "Hall" C) (.var 1))) (.cons (.set (.v 6) (.ix (.attr (.var 0) "stores" "Hall" C) (.var 2))) (.cons (.set (.v 7) (.f1 .len (.var 6))) (.cons (.ite (.cmp .eq (.var 4) (.str "come")) (.cons (.ret (.tup (.cons (.call (g_ahead_of_round C) (.cons (.var 3) (.cons (.int 0) (.cons (.var 7) .nil)))) (.cons (.var 6) .nil)))) .nil) .nil) (.cons (.ite (.cmp .eq (.var 4) (.str "tell")) (.cons (.ret (.tup (.cons (.tup (.cons (.var 3) (.cons (.str "hear") (.cons (.var 5) .nil)))) (.cons (.call (g_behind_tell C) (.cons (.var 0) (.cons (.var 1) (.cons (.var 2) .nil)))) .nil)))) .nil) .nil) (.cons (.ite (.cmp .eq (.var 4) (.str "hear")) (.cons (.ret (.tup (.cons (.call (g_ahead_of_round C) (.cons (.var 3) (.cons (.bin .add (.var 5) (.int 1)) (.cons (.var 7) .nil)))) (.cons (.var 6) .nil)))) .nil) .nil) (.cons (.ret (.tup (.cons (.tup (.cons (.bin .add (.var 3) (.int 1)) (.cons (.str "come") (.cons (.int 0) .nil)))) (.cons (.var 6) .nil)))) .nil)))))))
theorem ok_behind_row (C : Addr) : FnD (g_behind_row C) 3 8 [] (b_behind_row C) := fnS_ok (fun _ => rfl) fun ⟨h, w, g⟩ hi P rt nx => by
  obtain ⟨⟨ok, hw, e⟩, k⟩ : At h w g ∧ (h.gt g).1 = true := hi
  obtain ⟨hg, hmem⟩ := ok.mem hw e
  have hm := ok.mlen hg
  obtain ⟨bs, es, b1, b2⟩ := kind_row ok hg k
  have rt : ∀ d u, 3 ≤ u.length → d = .tup [sdD (behR (h.sd w) bs (plc h w g) (vis h w g)).1, bxD (behR (h.sd w) bs (plc h w g) (vis h w g)).2] → P.rt (.dat d) u := fun d u a b => rt d u a (by rw [b]; unfold beh; dsimp only; rw [es])
  unfold b_behind_row
  change wpSs noX [.dat (hallD C h), .dat (iD w), .dat (iD g), .un, .un, .un, .un, .un] _ _
  refine w_set3 (va_stand (ve_var rfl) (ve_var rfl) (by rw [ok.sl]; exact hw)) ?_
  refine w_set (d := bxD (.row bs)) ((va_store (ve_var rfl) (ve_var rfl) (by rw [ok.tl]; exact hg)).to (by rw [es])) ?_
  refine w_set (d := iD bs.length) ((ve_lenT (ds := bs.map fun b => .tup (b.map .int)) (ve_var rfl)).to (by rw [List.length_map])) ?_
  have hs := sd_row ok hw e k
  have at_ : At h w g := ⟨ok, hw, e⟩
  have aor1 : ∀ {v : DD.Env} {a b c : E} {t : Nat}, VE noX v a (iD (h.sd w).d) → VE noX v b (iD t) → VE noX v c (iD bs.length) → ownRoots v (.cons a (.cons b (.cons c .nil))) = [] → VE noX v (.call (g_ahead_of_round C) (.cons a (.cons b (.cons c .nil)))) (sdD (aor (h.sd w).d t bs.length)) := fun ha hb hc ho => vc_S ((h.sd w).d, _, bs.length) (ves3 ha hb hc) ho (by show bs.length ≤ 1000; omega) (inj3 natI natI natI) fun d z => z
  refine w_if1 (ve_wd .come (ve_var rfl)) (fun q1 => ?_) (fun q1 => ?_)
  · have q1 := of_decide_eq_true q1
    exact w_ret (ve_tup (ves2 (aor1 (t := 0) (ve_var rfl) ve_int (ve_var rfl) rfl) (ve_var rfl))) (rt _ _ (by simp) (by unfold behR; rw [q1]))
  have q1 := of_decide_eq_false q1
  refine w_if1 (ve_wd .tell (ve_var rfl)) (fun q2 => ?_) (fun q2 => ?_)
  · have q2 := of_decide_eq_true q2
    refine w_ret (ve_tup (ves2 (ve_tup (ves3 (ve_var rfl) ve_str (ve_var rfl))) (vc_S (h, w, g) (ves3 (ve_var rfl) (ve_var rfl) (ve_var rfl)) rfl ⟨at_, k, q2⟩ hnn_inj fun d z => z))) (rt _ _ (by simp) ?_)
    unfold behR; rw [q2, es]; rfl
  have q2 := of_decide_eq_false q2
  refine w_if1 (ve_wd .hear (ve_var rfl)) (fun q3 => ?_) (fun q3 => ?_)
  · have q3 := of_decide_eq_true q3
    exact w_ret (ve_tup (ves2 (aor1 (t := (h.sd w).t + 1) (ve_var rfl) ((ve_add (i := (((h.sd w).t : Nat) : Int)) (ve_var rfl) ve_int).to rfl) (ve_var rfl) rfl) (ve_var rfl))) (rt _ _ (by simp) (by unfold behR; rw [q3]))
  have q3 := of_decide_eq_false q3
  refine w_ret (ve_tup (ves2 (ve_tup (ves3 (ve_add (i := (((h.sd w).d : Nat) : Int)) (ve_var rfl) ve_int) ve_str ve_int)) (ve_var rfl))) (rt _ _ (by simp) ?_)
  rcases hs with y | y | y | y
  · exact absurd y.1 q1
  · exact absurd y.1 q2
  · exact absurd y.1 q3
  · unfold behR; rw [y.1]; rfl
def stpD (C : Addr) (h : HM) (w : Nat) : Dt := .tup [hallD C (stp h w).1, toD' (stp h w).2]
def g_stepped (C : Addr) : Sg := fnX "stepped" 6 (hiD C) (fun a => HOk a.1 ∧ small a.2) (fun a d => inW a.1 a.2 ∧ d = stpD C a.1 a.2.toNat) fun a x => ¬ inW a.1 a.2 ∧ x = "NoWalker"
def b_stepped (C : Addr) : Ss := (.cons (.set (.t (.cons (.v 2) (.cons (.v 3) .nil))) (.call (g_ahead C) (.cons (.var 0) (.cons (.var 1) .nil)))) (.cons (.ite (.isN true (.var 2)) (.cons (.ret (.tup (.cons (.call (g_same C) (.cons (.var 0) .nil)) (.cons (.tup (.cons (.var 1) (.cons .non (.cons (.str "end") .nil)))) .nil)))) .nil) .nil) (.cons (.ite (.call (g_in_vain C) (.cons (.var 0) (.cons (.var 1) .nil))) (.cons (.ret (.tup (.cons (.call (g_same C) (.cons (.var 0) .nil)) (.cons (.tup (.cons (.var 1) (.cons (.var 2) (.cons (.str "wait") .nil)))) .nil)))) .nil) .nil) (.cons (.ite (.cmp .eq (.ix (.ix (.attr (.var 0) "gates" "Hall" C) (.var 2)) (.int 0)) (.con "COUNT" (.str "count"))) (.cons (.set (.t (.cons (.v 4) (.cons (.v 5) .nil))) (.call (g_behind_counting C) (.cons (.var 0) (.cons (.var 1) (.cons (.var 2) .nil))))) .nil) (.cons (.set (.t (.cons (.v 4) (.cons (.v 5) .nil))) (.call (g_behind_row C) (.cons (.var 0) (.cons (.var 1) (.cons (.var 2) .nil))))) .nil)) (.cons (.set (.v 6) (.call (g_with_item C) (.cons (.attr (.var 0) "stands" "Hall" C) (.cons (.var 1) (.cons (.var 4) .nil))))) (.cons (.set (.v 7) (.call (g_with_item C) (.cons (.attr (.var 0) "stores" "Hall" C) (.cons (.var 2) (.cons (.var 5) .nil))))) (.cons (.ret (.tup (.cons (.mk "Hall" C (.cons (.attr (.var 0) "gates" "Hall" C) (.cons (.attr (.var 0) "rows" "Hall" C) (.cons (.var 6) (.cons (.var 7) .nil))))) (.cons (.tup (.cons (.var 1) (.cons (.var 2) (.cons (.var 3) .nil)))) .nil)))) .nil)))))))
theorem ok_stepped (C : Addr) : FnD (g_stepped C) 2 8 [] (b_stepped C) := fnX_ok (fun _ => rfl) fun ⟨h, i⟩ hi P X rt nx hx => by
  obtain ⟨ok, h1⟩ : HOk h ∧ small i := hi
  unfold b_stepped
  change wpSs X [.dat (hallD C h), .dat (.int i), .un, .un, .un, .un, .un, .un] _ _
  refine w_setT (wc_X (h, i) (ves2 (ve_var rfl) (ve_var rfl)) rfl ⟨ok, h1⟩ hi_inj (fun d q => ?_) fun x q => hx _ _ q)
  obtain ⟨q1, rfl⟩ := q
  have q1 : inW h i := q1
  obtain ⟨w, rfl, hw⟩ := in_nat q1
  have rt : ∀ d u, 2 ≤ u.length → d = stpD C h w → P.rt (.dat d) u := fun d u a b => rt d u a ⟨q1, b⟩
  show asD _ (.dat (ahdD h w))
  unfold stpD stp at rt
  cases z : ahd h w with
  | none =>
    rw [z] at rt
    rw [show ahdD h w = .tup [.non, .str "end"] by unfold ahdD; rw [z]]
    refine ⟨rfl, ?_⟩
    refine w_if1 (p := true) ((ve_isN (ve_var rfl)).to rfl) (fun _ => ?_) (fun y => by cases y)
    exact w_ret (ve_tup (ves2 (vc_S h (ves1 (ve_var rfl)) rfl trivial (inj1 hallD_inj) fun d z => z) (ve_tup (ves3 (ve_var rfl) ve_non ve_str)))) (rt _ _ (by simp) rfl)
  | some y =>
    obtain ⟨g, wd⟩ := y
    rw [z] at rt
    obtain ⟨e, ew⟩ := ahd_eq z
    have hg := (ok.mem hw e).1
    have at_ : At h w g := ⟨ok, hw, e⟩
    rw [show ahdD h w = .tup [iD g, .str (wS wd)] by unfold ahdD; rw [z]]
    refine ⟨rfl, ?_⟩
    refine w_if1 (p := false) ((ve_isN (ve_var rfl)).to rfl) (fun y => by cases y) (fun _ => ?_)
    refine w_if1 (p := vain h w) (ve_vain ok hw (by rw [z]; exact fun y => by cases y) (ve_var rfl) (ve_var rfl) rfl) (fun q => ?_) (fun q => ?_)
    · exact w_ret (ve_tup (ves2 (vc_S h (ves1 (ve_var rfl)) rfl trivial (inj1 hallD_inj) fun d z => z) (ve_tup (ves3 (ve_var rfl) (ve_var rfl) ve_str)))) (rt _ _ (by simp) (by dsimp only; rw [if_pos q]; rfl))
    have rt : ∀ d u, 2 ≤ u.length → d = .tup [hallD C { h with stands := h.stands.set w (beh h w g).1, stores := h.stores.set g (beh h w g).2 }, toD' ⟨w, some g, wS wd⟩] → P.rt (.dat d) u := fun d u a b => rt d u a (by rw [b]; dsimp only; rw [if_neg (by rw [q]; decide)])
    have rest : wpSs X [.dat (hallD C h), .dat (iD w), .dat (iD g), .dat (.str (wS wd)), .dat (sdD (beh h w g).1), .dat (bxD (beh h w g).2), .un, .un] (.cons (.set (.v 6) (.call (g_with_item C) (.cons (.attr (.var 0) "stands" "Hall" C) (.cons (.var 1) (.cons (.var 4) .nil))))) (.cons (.set (.v 7) (.call (g_with_item C) (.cons (.attr (.var 0) "stores" "Hall" C) (.cons (.var 2) (.cons (.var 5) .nil))))) (.cons (.ret (.tup (.cons (.mk "Hall" C (.cons (.attr (.var 0) "gates" "Hall" C) (.cons (.attr (.var 0) "rows" "Hall" C) (.cons (.var 6) (.cons (.var 7) .nil))))) (.cons (.tup (.cons (.var 1) (.cons (.var 2) (.cons (.var 3) .nil)))) .nil)))) .nil))) P := by
      have l1 := ok.go.rl
      have l2 := ok.go.gl
      refine w_set (vc_S (h.stands.map sdD, w, sdD (beh h w g).1) (ves3 (va_stands (ve_var rfl)) (ve_var rfl) (ve_var rfl)) rfl ⟨by rw [List.length_map]; show w < h.stands.length; rw [ok.sl]; exact hw, by rw [List.length_map, ok.sl]; omega⟩ wi_inj fun d z => z) ?_
      refine w_set (vc_S (h.stores.map bxD, g, bxD (beh h w g).2) (ves3 (va_stores (ve_var rfl)) (ve_var rfl) (ve_var rfl)) rfl ⟨by rw [List.length_map]; show g < h.stores.length; rw [ok.tl]; exact hg, by rw [List.length_map, ok.tl]; omega⟩ wi_inj fun d z => z) ?_
      refine w_ret (ve_tup (ves2 (ve_mk (ves_cons (va_gates (ve_var rfl)) (ves3 (va_rows (ve_var rfl)) (ve_var rfl) (ve_var rfl)))) (ve_tup (ves3 (ve_var rfl) (ve_var rfl) (ve_var rfl))))) (rt _ _ (by simp) ?_)
      unfold hallD
      dsimp only
      rw [List.map_set, List.map_set]
      rfl
    have hc : VE X [.dat (hallD C h), .dat (iD w), .dat (iD g), .dat (.str (wS wd)), .un, .un, .un, .un] (.cmp .eq (.ix (.ix (.attr (.var 0) "gates" "Hall" C) (.var 2)) (.int 0)) (.con "COUNT" (.str "count"))) (.bl (!(h.gt g).1)) := (ve_eqS (va_kind (ve_var rfl) (ve_var rfl) hg) ve_con (by cases (h.gt g).1 <;> decide +kernel) (by decide +kernel)).to (by cases (h.gt g).1 <;> rfl)
    refine w_if hc (fun k => ?_) (fun k => ?_)
    · have k : (h.gt g).1 = false := by simpa using k
      exact w_set2 (vc_S (h, w, g) (ves3 (ve_var rfl) (ve_var rfl) (ve_var rfl)) rfl ⟨at_, k⟩ hnn_inj fun d z => z) (w_nil rest)
    · have k : (h.gt g).1 = true := by simpa using k
      exact w_set2 (vc_S (h, w, g) (ves3 (ve_var rfl) (ve_var rfl) (ve_var rfl)) rfl ⟨at_, k⟩ hnn_inj fun d z => z) (w_nil rest)
/-- who of the members has come less often -/
def msg (h : HM) (w : Nat) : List Nat := match wth h w with
  | some g => (h.gt g).2.filter fun m => decide (cme h m g < cme h w g)
  | none => []
theorem wth_at {h : HM} {w g : Nat} (e : wth h w = some g) : (h.row w)[(h.sd w).d]? = some g ∧ (h.sd w).w ≠ .come := by
  unfold wth at e
  split at e
  · rename_i g' wd z
    split at e
    · cases e
    · rename_i hne
      cases e
      obtain ⟨a, b⟩ := ahd_eq z
      exact ⟨a, by rw [b]; exact hne⟩
  · cases e
def g_missing (C : Addr) : Sg := fnX "missing" 5 (hiD C) (fun a => HOk a.1 ∧ small a.2) (fun a d => inW a.1 a.2 ∧ d = nL (msg a.1 a.2.toNat)) fun a x => ¬ inW a.1 a.2 ∧ x = "NoWalker"
def b_missing (C : Addr) : Ss := (.cons (.set (.v 2) (.call (g_within C) (.cons (.var 0) (.cons (.var 1) .nil)))) (.cons (.ite (.isN true (.var 2)) (.cons (.ret (.new (.lst .nil))) .nil) .nil) (.cons (.set (.v 3) (.call (g_came C) (.cons (.var 0) (.cons (.var 1) (.cons (.var 2) .nil))))) (.cons (.ret (.new (.comp (.v 4) (.l (.ix (.ix (.attr (.var 0) "gates" "Hall" C) (.var 2)) (.int 1))) (.so (.cmp .lt (.call (g_came C) (.cons (.var 0) (.cons (.var 4) (.cons (.var 2) .nil)))) (.var 3))) (.v (.var 4))))) .nil))))
theorem ve_came {C : Addr} {h : HM} (ok : HOk h) {w g : Nat} (hw : w < h.rows.length) (hg : g < h.gates.length) {X : Str → DD.Env → Prop} {v : DD.Env} {a b c : E} (ha : VE X v a (hallD C h)) (hb : VE X v b (iD w)) (hc : VE X v c (iD g)) (ho : ownRoots v (.cons a (.cons b (.cons c .nil))) = []) : VE X v (.call (g_came C) (.cons a (.cons b (.cons c .nil)))) (iD (cme h w g)) := vc_X (h, (w : Int), (g : Int)) (ves3 ha hb hc) ho ⟨ok, (ok.nW hw).2, (ok.nG hg).2⟩ hii_inj (fun d q => q.2.2) fun x q => q.elim (fun z => absurd (ok.nW hw).1 z.1) fun z => absurd (ok.nG hg).1 z.2.1
theorem ok_missing (C : Addr) : FnD (g_missing C) 2 5 [] (b_missing C) := fnX_ok (fun _ => rfl) fun ⟨h, i⟩ hi P X rt nx hx => by
  obtain ⟨ok, h1⟩ : HOk h ∧ small i := hi
  unfold b_missing
  change wpSs X [.dat (hallD C h), .dat (.int i), .un, .un, .un] _ _
  refine w_setW (wc_X (h, i) (ves2 (ve_var rfl) (ve_var rfl)) rfl ⟨ok, h1⟩ hi_inj (fun d q => ?_) fun x q => hx _ _ q)
  obtain ⟨q1, rfl⟩ := q
  have q1 : inW h i := q1
  obtain ⟨w, rfl, hw⟩ := in_nat q1
  have rt : ∀ d u, 2 ≤ u.length → d = nL (msg h w) → P.rt (.dat d) u := fun d u a b => rt d u a ⟨q1, b⟩
  unfold msg at rt
  show wpSs X [.dat (hallD C h), .dat (iD w), .dat (optD (wth h w)), .un, .un] _ _
  cases z : wth h w with
  | none =>
    rw [z] at rt
    refine w_if1 (p := true) ((ve_isN (ve_var rfl)).to rfl) (fun _ => ?_) (fun y => by cases y)
    exact w_ret (d := .lst []) (by show wpE _ _ _ _; walk_at "wps"; exact ⟨rfl, trivial⟩) (rt _ _ (by simp) rfl)
  | some g =>
    rw [z] at rt
    obtain ⟨e, _⟩ := wth_at z
    have hg := (ok.mem hw e).1
    have mo := ok.gtm hg
    have hm := ok.mlen hg
    refine w_if1 (p := false) ((ve_isN (ve_var rfl)).to rfl) (fun y => by cases y) (fun _ => ?_)
    refine w_set (ve_came ok hw hg (ve_var rfl) (ve_var rfl) (ve_var rfl) rfl) ?_
    refine w_ret (d := nL ((h.gt g).2.filter fun m => decide (cme h m g < cme h w g))) ?_ (rt _ _ (by simp) rfl)
    show wpE _ _ _ _
    rw [wpE, wpN, wpSr]
    refine (va_mems (C := C) (ve_var rfl) (ve_var rfl) hg : VE X _ _ _).use ?_
    refine ⟨by rw [List.length_map]; omega, ?_⟩
    refine compL_filE iD (fun m => if cme h m g < cme h w g then [.dat (iD m)] else []) (fun m hmm K k => ?_) ?_
    · show wpC noX [.dat (hallD C h), .dat (iD w), .dat (iD g), .dat (iD (cme h w g)), .dat (iD m)] _ _
      rw [wpC]
      refine ((ve_lt (i := ((cme h m g : Nat) : Int)) (j := ((cme h w g : Nat) : Int)) (ve_came ok (mo.lt m hmm) hg (ve_var rfl) (ve_var rfl) (ve_var rfl) rfl) (ve_var rfl)).use ?_)
      refine ⟨fun q => ?_, fun q => ?_⟩
      · have q := of_decide_eq_true q
        rw [if_pos (by omega)] at k
        exact k
      · have q := of_decide_eq_false q
        rw [if_neg (by omega)] at k
        exact k
    · have e : ∀ l : List Nat, (l.flatMap fun m => if cme h m g < cme h w g then [Tr.dat (iD m)] else []) = ((l.filter fun m => decide (cme h m g < cme h w g)).map iD).map .dat := by
        intro l
        induction l with
        | nil => rfl
        | cons m l ih =>
          rw [List.flatMap_cons, ih, List.filter_cons]
          by_cases z : cme h m g < cme h w g
          · rw [if_pos z, if_pos (by simpa using z)]; rfl
          · rw [if_neg z, if_neg (by simpa using z)]; rfl
      rw [e]
      exact ⟨all_isD _, by rw [map_toD]; rfl⟩
end LB
/-! rest: that it is come to -/
namespace LB
open PySem L2 DL DD
def rst (h : HM) : Bool := (List.range h.rows.length).all (idl h)
/-- one round of those that aren't idle -/
def rnd : HM → List Nat → HM × List To
  | h, [] => (h, [])
  | h, w :: ws => if idl h w = true then rnd h ws else ((rnd (stp h w).1 ws).1, (stp h w).2 :: (rnd (stp h w).1 ws).2)
inductive RestTo : HM → HM → List To → Prop
  | done {h : HM} : rst h = true → RestTo h h []
  | more {h h' : HM} {l k : List To} : rst h = false → RestTo (rnd h (List.range h.rows.length)).1 h' l → k = (rnd h (List.range h.rows.length)).2 ++ l → RestTo h h' k
theorem RestTo.det {h a b : HM} {k l : List To} (x : RestTo h a k) (y : RestTo h b l) : a = b ∧ k = l := by
  induction x generalizing b l with
  | done e =>
    cases y with
    | done _ => exact ⟨rfl, rfl⟩
    | more f _ _ => rw [e] at f; cases f
  | more e _ hk ih =>
    cases y with
    | done f => rw [e] at f; cases f
    | more f y2 hk2 =>
      obtain ⟨q1, q2⟩ := ih y2
      exact ⟨q1, by rw [hk, hk2, q2]⟩
theorem RestTo.rest {h a : HM} {k : List To} (x : RestTo h a k) : rst a = true := by
  induction x with
  | done e => exact e
  | more _ _ _ ih => exact ih
theorem rnd_snoc : ∀ {ws : List Nat} {h : HM} {w : Nat}, rnd h (ws ++ [w]) = if idl (rnd h ws).1 w = true then rnd h ws else ((stp (rnd h ws).1 w).1, (rnd h ws).2 ++ [(stp (rnd h ws).1 w).2])
  | [], h, w => by
    show rnd h [w] = _
    rw [rnd, rnd, rnd]
    rfl
  | x :: ws, h, w => by
    rw [List.cons_append, rnd, rnd]
    by_cases z : idl h x = true
    · rw [if_pos z, if_pos z, rnd_snoc]
    · rw [if_neg z, if_neg z, rnd_snoc]
      dsimp only
      by_cases y : idl (rnd (stp h x).1 ws).1 w = true
      · rw [if_pos y, if_pos y]
      · rw [if_neg y, if_neg y]; rfl
/-- how far -/
def prg (s : Sd) : Nat := 10 * s.d + (match s.w with | .come => 0 | .fill => 1 | .turn => 2 | .look => 2 | .tell => 1 + 2 * s.t | .hear => 2 + 2 * s.t | .pass => 9)
def mu (h : HM) : Nat := (h.stands.map prg).sum
theorem rds4 {n : Nat} (h : n ≤ 16) : rds n ≤ 4 := by
  have := @rds_lt n 4
  have : ¬ 4 < rds n := fun z => by have := this.mpr z; omega
  omega
theorem prg_le {s : Sd} (h : s.d ≤ 40) (t : (s.w = .tell ∨ s.w = .hear) → s.t ≤ 3) : prg s ≤ 409 := by
  unfold prg
  obtain ⟨d, w, t'⟩ := s
  cases w <;> dsimp only at * <;> first | omega | (have := t (by simp); omega)
theorem HOk.t3 {h : HM} (ok : HOk h) {w : Nat} (hw : w < h.rows.length) (z : (h.sd w).w = .tell ∨ (h.sd w).w = .hear) : (h.sd w).t ≤ 3 := by
  cases e : (h.row w)[(h.sd w).d]? with
  | none =>
    have h1 := List.getElem?_eq_none_iff.mp e
    have h2 := ok.dl w hw
    have := (ok.en w hw (by omega)).1
    rw [this] at z
    rcases z with z | z <;> cases z
  | some g =>
    have hg := (ok.mem hw e).1
    have hm := ok.mlen hg
    have := ok.sd w g hw e
    have r4 := rds4 (n := (h.gt g).2.length) (by omega)
    unfold SdOk at this
    split at this
    · rcases this with y | y | y | y
      · rw [y.1] at z; rcases z with z | z <;> cases z
      · have := y.2; omega
      · have := y.2; omega
      · rw [y.1] at z; rcases z with z | z <;> cases z
    · rcases z with z | z
      · exact absurd z this.1
      · exact absurd z this.2.1
theorem sum_bound {l : List Nat} {b : Nat} (h : ∀ x ∈ l, x ≤ b) : l.sum ≤ l.length * b := by
  induction l with
  | nil => simp
  | cons a l ih =>
    have h1 := h a List.mem_cons_self
    have h2 := ih fun x hx => h x (List.mem_cons_of_mem _ hx)
    rw [List.sum_cons, List.length_cons, Nat.succ_mul]
    omega
theorem mu_le {h : HM} (ok : HOk h) : mu h ≤ 4908 := by
  unfold mu
  have := sum_bound (l := h.stands.map prg) (b := 409) fun x hx => by
    obtain ⟨s, hs, rfl⟩ := List.mem_map.mp hx
    obtain ⟨w, hw⟩ := List.getElem?_of_mem hs
    have hw1 := (List.getElem?_eq_some_iff.mp hw).1
    rw [ok.sl] at hw1
    have e : h.sd w = s := getD_some hw
    rw [← e]
    have h1 := ok.dl w hw1
    have h2 := ok.row40 hw1
    exact prg_le (by omega) fun z => ok.t3 hw1 z
  rw [List.length_map, ok.sl] at this
  have := ok.go.rl
  omega
theorem sum_set_lt : ∀ {l : List Nat} {i x : Nat}, i < l.length → l.getD i 0 < x → l.sum < (l.set i x).sum
  | [], i, x, h, _ => by simp at h
  | a :: l, 0, x, h, k => by
    show a + l.sum < x + l.sum
    have : a < x := k
    omega
  | a :: l, i + 1, x, h, k => by
    have := sum_set_lt (l := l) (i := i) (x := x) (by simpa using h) (by simpa [List.getD_eq_getElem?_getD] using k)
    rw [List.set_cons_succ, List.sum_cons, List.sum_cons]
    omega
/-- a step that isn't idle goes on -/
theorem prg_beh {h : HM} (ok : HOk h) {w g : Nat} (hw : w < h.rows.length) (e : (h.row w)[(h.sd w).d]? = some g) : prg (h.sd w) < prg (beh h w g).1 := by
  have hg := (ok.mem hw e).1
  have hs := ok.sd w g hw e
  have hb := ok.st g hg
  have hm := ok.mlen hg
  have r4 := rds4 (n := (h.gt g).2.length) (by omega)
  unfold beh
  generalize h.st g = b at *
  have aorp : ∀ d t m : Nat, prg (aor d t m) = 10 * d + (if t = rds m then 9 else 1 + 2 * t) := fun d t m => by
    unfold aor; split
    · rfl
    · rfl
  cases b with
  | cnt l s =>
    have hb : (h.gt g).1 = false := hb
    unfold SdOk at hs
    rw [if_neg (by rw [hb]; decide)] at hs
    dsimp only
    generalize h.sd w = st at *
    obtain ⟨d, wd, t⟩ := st
    unfold behC prg
    cases wd <;> dsimp only at * <;> first | omega | (split <;> (dsimp only; omega)) | exact absurd rfl hs.1 | exact absurd rfl hs.2.1
  | row bs =>
    obtain ⟨h1, h2, h3⟩ := hb
    unfold SdOk at hs
    rw [if_pos h1] at hs
    dsimp only
    generalize h.sd w = st at *
    obtain ⟨d, wd, t⟩ := st
    unfold behR
    cases wd <;> dsimp only at *
    · rw [aorp]; unfold prg; dsimp only; split <;> omega
    · rcases hs with y | y | y | y <;> cases y.1
    · rcases hs with y | y | y | y <;> cases y.1
    · rcases hs with y | y | y | y <;> cases y.1
    · unfold prg; dsimp only; omega
    · rw [aorp]; unfold prg; dsimp only
      rcases hs with y | y | y | y <;> (try cases y.1)
      have := y.2
      split <;> omega
    · unfold prg; dsimp only; omega
theorem mu_stp {h : HM} (ok : HOk h) {w : Nat} (hw : w < h.rows.length) (hi : idl h w = false) : mu h < mu (stp h w).1 := by
  unfold idl at hi
  unfold stp
  cases e : ahd h w with
  | none => rw [e] at hi; cases hi
  | some z =>
    obtain ⟨g, wd⟩ := z
    rw [e] at hi
    have hv : vain h w = false := by simpa using hi
    dsimp only
    rw [if_neg (by rw [hv]; decide)]
    unfold mu
    show _ < ((h.stands.set w (beh h w g).1).map prg).sum
    rw [List.map_set]
    have hws : w < h.stands.length := by rw [ok.sl]; exact hw
    refine sum_set_lt (by rw [List.length_map]; exact hws) ?_
    have := prg_beh ok hw (ahd_eq e).1
    have e2 : (h.stands.map prg).getD w 0 = prg (h.sd w) := getD_some (by rw [List.getElem?_map, getD_lt (x := ⟨0, .come, 0⟩) hws]; rfl)
    rw [e2]
    exact this
theorem rnd_ok : ∀ {ws : List Nat} {h : HM}, HOk h → (∀ w ∈ ws, w < h.rows.length) → HOk (rnd h ws).1 ∧ (rnd h ws).1.gates = h.gates ∧ (rnd h ws).1.rows = h.rows ∧ mu h + (rnd h ws).2.length ≤ mu (rnd h ws).1
  | [], h, ok, _ => ⟨ok, rfl, rfl, Nat.le_refl _⟩
  | w :: ws, h, ok, hw => by
    rw [rnd]
    by_cases z : idl h w = true
    · rw [if_pos z]
      exact rnd_ok ok fun x hx => hw x (List.mem_cons_of_mem _ hx)
    · rw [if_neg z]
      obtain ⟨g1, g2⟩ := stp_gates h w
      have hm := mu_stp ok (hw w List.mem_cons_self) (by simpa using z)
      have := rnd_ok (stp_ok ok (hw w List.mem_cons_self)) (fun x hx => by rw [g2]; exact hw x (List.mem_cons_of_mem _ hx))
      rw [g1, g2] at this
      refine ⟨this.1, this.2.1, this.2.2.1, ?_⟩
      have := this.2.2.2
      dsimp only
      rw [List.length_cons]
      omega
theorem rnd_all : ∀ {ws : List Nat} {h : HM}, (∀ w ∈ ws, idl h w = true) → rnd h ws = (h, [])
  | [], h, _ => rfl
  | w :: ws, h, hw => by
    rw [rnd, if_pos (hw w List.mem_cons_self)]
    exact rnd_all fun x hx => hw x (List.mem_cons_of_mem _ hx)
/-- a round of a hall that isn't at rest does something -/
theorem rnd_go' : ∀ {ws : List Nat} {h : HM}, HOk h → (∀ w ∈ ws, w < h.rows.length) → (∃ w ∈ ws, idl h w = false) → mu h < mu (rnd h ws).1
  | [], h, _, _, ⟨_, z, _⟩ => nomatch z
  | w :: ws, h, ok, hw, ⟨x, hx, hi⟩ => by
    rw [rnd]
    by_cases z : idl h w = true
    · rw [if_pos z]
      refine rnd_go' ok (fun x hx => hw x (List.mem_cons_of_mem _ hx)) ⟨x, ?_, hi⟩
      rcases List.mem_cons.mp hx with y | y
      · subst y; rw [hi] at z; cases z
      · exact y
    · rw [if_neg z]
      obtain ⟨g1, g2⟩ := stp_gates h w
      have hm := mu_stp ok (hw w List.mem_cons_self) (by simpa using z)
      have := (rnd_ok (stp_ok ok (hw w List.mem_cons_self)) (fun x hx => by rw [g2]; exact hw x (List.mem_cons_of_mem _ hx))).2.2.2
      dsimp only
      omega
theorem rnd_go {h : HM} (ok : HOk h) (q : rst h = false) : mu h < mu (rnd h (List.range h.rows.length)).1 := by
  refine rnd_go' ok (fun w hw => List.mem_range.mp hw) ?_
  unfold rst at q
  rw [List.all_eq_false] at q
  obtain ⟨w, h1, h2⟩ := q
  exact ⟨w, h1, by simpa using h2⟩
/-- a path of steps that aren't idle -/
inductive Pth : HM → List Nat → Prop
  | nil {h : HM} : Pth h []
  | cons {h : HM} {w : Nat} {ws : List Nat} : w < h.rows.length → idl h w = false → Pth (stp h w).1 ws → Pth h (w :: ws)
theorem Pth.app {h : HM} {a b : List Nat} (x : Pth h a) (y : Pth (wvn h a).1 b) : Pth h (a ++ b) := by
  induction x with
  | nil => exact y
  | cons h1 h2 _ ih => exact .cons h1 h2 (ih y)
theorem Pth.in {h : HM} {a : List Nat} (x : Pth h a) : ∀ w ∈ a, w < h.rows.length := by
  induction x with
  | nil => exact fun _ z => nomatch z
  | @cons h w ws h1 h2 _ ih =>
    intro y hy
    rcases List.mem_cons.mp hy with z | z
    · rw [z]; exact h1
    · have := ih y z
      rwa [(stp_gates h w).2] at this
theorem rnd_pth : ∀ {ws : List Nat} {h : HM}, (∀ w ∈ ws, w < h.rows.length) → ∃ vs, Pth h vs ∧ wvn h vs = rnd h ws
  | [], h, _ => ⟨[], .nil, rfl⟩
  | w :: ws, h, hw => by
    rw [rnd]
    by_cases z : idl h w = true
    · rw [if_pos z]
      exact rnd_pth fun x hx => hw x (List.mem_cons_of_mem _ hx)
    · rw [if_neg z]
      obtain ⟨vs, p, e⟩ := rnd_pth (ws := ws) (h := (stp h w).1) fun x hx => by rw [(stp_gates h w).2]; exact hw x (List.mem_cons_of_mem _ hx)
      exact ⟨w :: vs, .cons (hw w List.mem_cons_self) (by simpa using z) p, by rw [wvn, e]⟩
theorem RestTo.pth {h a : HM} {l : List To} (x : RestTo h a l) : ∃ vs, Pth h vs ∧ wvn h vs = (a, l) := by
  induction x with
  | done _ => exact ⟨[], .nil, rfl⟩
  | @more h h' l k e y hk ih =>
    obtain ⟨vs, p, e1⟩ := rnd_pth (ws := List.range h.rows.length) (h := h) fun w hw => List.mem_range.mp hw
    obtain ⟨us, q, e2⟩ := ih
    rw [← e1] at q e2 hk
    refine ⟨vs ++ us, p.app q, ?_⟩
    rw [wvn_app, e2, hk]
theorem Pth.len {h : HM} {a : List Nat} (ok : HOk h) (x : Pth h a) : mu h + a.length ≤ mu (wvn h a).1 := by
  induction x with
  | nil => exact Nat.le_refl _
  | @cons h w ws h1 h2 _ ih =>
    have := ih (stp_ok ok h1)
    have := mu_stp ok h1 h2
    rw [wvn, List.length_cons]
    dsimp only
    omega
theorem RestTo.len {h a : HM} {l : List To} (ok : HOk h) (x : RestTo h a l) : l.length ≤ 4908 := by
  obtain ⟨vs, p, e⟩ := x.pth
  have h1 := p.len ok
  have h2 := mu_le (wvn_ok ok p.in).1
  have h3 := wvn_len (ws := vs) (h := h)
  rw [e] at h3
  dsimp only at h3
  omega
end LB
/-! the program's defs over halls: weaves, rest -/
namespace LB
open PySem L2 DL DD
def wkD (C : Addr) (r : HM × List To) : Dt := .tup [hallD C r.1, .lst (r.2.map toD')]
def toN (ws : List Int) : List Nat := ws.map Int.toNat
def g_woven (C : Addr) : Sg := fnX "woven" 7 (fun a : HM × List Int => [hallD C a.1, .lst (a.2.map .int)]) (fun a => HOk a.1 ∧ a.2.length ≤ 80000 ∧ ∀ i ∈ a.2, small i) (fun a d => (∀ i ∈ a.2, inW a.1 i) ∧ d = wkD C (wvn a.1 (toN a.2))) fun a x => (¬ ∀ i ∈ a.2, inW a.1 i) ∧ x = "NoWalker"
def b_woven (C : Addr) : Ss := (.cons (.own 2 (.lst .nil)) (.cons (.for (.v 3) (.l (.var 1)) (.cons (.set (.t (.cons (.v 0) (.cons (.v 4) .nil))) (.call (g_stepped C) (.cons (.var 0) (.cons (.var 3) .nil)))) (.cons (.app (.v 2) (.v (.var 4))) .nil))) (.cons (.frz 2) (.cons (.ret (.tup (.cons (.var 0) (.cons (.var 2) .nil)))) .nil))))
theorem tos_snoc (l : List To) (t : To) : ((l.map toD').map Tr.dat) ++ [Tr.dat (toD' t)] = ((l ++ [t]).map toD').map .dat := by simp
theorem wl_inj {C : Addr} {a : HM × List Int} : ∀ b : HM × List Int, ([hallD C b.1, .lst (b.2.map .int)] : List Dt) = [hallD C a.1, .lst (a.2.map .int)] → b = a := inj2 hallD_inj (lst_inj intD_inj)
theorem w_own {X : Str → DD.Env → Prop} {v : DD.Env} {i : Nat} {ss : Ss} {P : Po} (k : wpSs X (v.set i (.own [])) ss P) : wpSs X v (.cons (.own i (.lst .nil)) ss) P := k
theorem w_app {X : Str → DD.Env → Prop} {v : DD.Env} {i : Nat} {e : E} {d : Dt} {ts : List Tr} {ss : Ss} {P : Po} (h0 : v[i]? = some (.own ts)) (hl : ts.length ≤ 90000) (h : VE X v e d) (k : wpSs X (v.set i (.own (ts ++ [.dat d]))) ss P) : wpSs X v (.cons (.app (.v i) (.v e)) ss) P := by
  rw [wpSs, wpS, wpPl]
  unfold getV; rw [h0]
  exact ⟨ts, h0, hl, h.use k⟩
theorem w_frz {X : Str → DD.Env → Prop} {v : DD.Env} {i : Nat} {ds : List Dt} {ss : Ss} {P : Po} (h0 : v[i]? = some (.own (ds.map .dat))) (k : wpSs X (v.set i (.dat (.lst ds))) ss P) : wpSs X v (.cons (.frz i) ss) P := ⟨_, h0, by dsimp only; rw [valDs_dat]; exact k⟩
theorem ok_woven (C : Addr) : FnD (g_woven C) 2 5 [] (b_woven C) := fnX_ok (fun _ => rfl) fun ⟨h, ws⟩ hi P X rt nx hx => by
  obtain ⟨ok, hl, hs⟩ : HOk h ∧ ws.length ≤ 80000 ∧ ∀ i ∈ ws, small i := hi
  have hx : ∀ u : DD.Env, ¬ (∀ i ∈ ws, inW h i) → X "NoWalker" u := fun u z => hx _ u ⟨z, rfl⟩
  unfold b_woven
  change wpSs X [.dat (hallD C h), .dat (.lst (ws.map .int)), .un, .un, .un] _ _
  refine w_own ?_
  refine wp_for (ws.map .int) (by walk_at "wps") (fun k u => ∃ a b, u = [.dat (hallD C (wvn h (toN (ws.take k))).1), .dat (.lst (ws.map .int)), .own (((wvn h (toN (ws.take k))).2.map toD').map .dat), a, b] ∧ ∀ i ∈ ws.take k, inW h i) ⟨_, _, rfl, fun _ z => nomatch z⟩ ?_ ?_
  · rintro k d u hd ⟨a, b, rfl, hin⟩
    obtain ⟨i, hi, rfl⟩ := map_get hd
    have hk := (List.getElem?_eq_some_iff.mp hi).1
    have hv : ∀ w ∈ toN (ws.take k), w < h.rows.length := fun w hw => by
      obtain ⟨j, hj, rfl⟩ := List.mem_map.mp hw
      have := hin j hj
      omega
    obtain ⟨ok', g1, g2⟩ := wvn_ok ok hv
    have ln : (wvn h (toN (ws.take k))).2.length ≤ 90000 := by
      rw [wvn_len]; unfold toN; rw [List.length_map, List.length_take]; omega
    have eW : inW (wvn h (toN (ws.take k))).1 i ↔ inW h i := by unfold inW; rw [g2]
    show wpSs X [_, _, _, .dat (.int i), _] _ _
    refine w_setT (wc_X ((wvn h (toN (ws.take k))).1, i) (ves2 (ve_var rfl) (ve_var rfl)) (by simp [ownRoots, rootE]) ⟨ok', hs i (List.mem_of_getElem? hi)⟩ hi_inj (fun d q => ?_) fun x q => ?_)
    · obtain ⟨q1, rfl⟩ := q
      have q1 : inW h i := eW.mp q1
      refine ⟨rfl, ?_⟩
      refine w_app rfl (by rw [List.length_map, List.length_map]; exact ln) (ve_var rfl) ?_
      have e1 : wvn h (toN (ws.take (k + 1))) = ((stp (wvn h (toN (ws.take k))).1 i.toNat).1, (wvn h (toN (ws.take k))).2 ++ [(stp (wvn h (toN (ws.take k))).1 i.toNat).2]) := by
        unfold toN
        rw [take_snoc hi, List.map_append, wvn_app]
        rfl
      refine w_nil ⟨.dat (.int i), .dat (toD' (stp (wvn h (toN (ws.take k))).1 i.toNat).2), ?_, fun j hj => ?_⟩
      · rw [e1]
        dsimp only
        rw [tos_snoc]
        rfl
      · rw [take_snoc hi] at hj
        rcases List.mem_append.mp hj with z | z
        · exact hin j z
        · rw [List.mem_singleton.mp z]; exact q1
    · obtain ⟨q1, rfl⟩ := q
      exact hx _ fun z => q1 (eW.mpr (z i (List.mem_of_getElem? hi)))
  · rintro u ⟨a, b, rfl, hin⟩
    rw [List.length_map, List.take_length] at hin ⊢
    refine w_frz rfl ?_
    exact w_ret (ve_tup (ves2 (ve_var rfl) (ve_var rfl))) (rt _ _ (by simp) ⟨hin, rfl⟩)
def g_at_rest (C : Addr) : Sg := fnS "at_rest" 6 (fun a : HM => [hallD C a]) (fun a => HOk a) fun a d => d = .bl (rst a)
def b_at_rest (C : Addr) : Ss := (.cons (.ret (.f1 .all (.new (.comp (.v 1) (.r (.f1 .len (.attr (.var 0) "rows" "Hall" C))) .no (.v (.call (g_idle C) (.cons (.var 0) (.cons (.var 1) .nil)))))))) .nil)
theorem ve_idle {C : Addr} {h : HM} (ok : HOk h) {w : Nat} (hw : w < h.rows.length) {X : Str → DD.Env → Prop} {v : DD.Env} {a b : E} (ha : VE X v a (hallD C h)) (hb : VE X v b (iD w)) (ho : ownRoots v (.cons a (.cons b .nil)) = []) : VE X v (.call (g_idle C) (.cons a (.cons b .nil))) (.bl (idl h w)) := vc_X (h, (w : Int)) (ves2 ha hb) ho ⟨ok, (ok.nW hw).2⟩ hi_inj (fun d q => q.2) fun x q => absurd (ok.nW hw).1 q.1
theorem ve_stepped {C : Addr} {h : HM} (ok : HOk h) {w : Nat} (hw : w < h.rows.length) {X : Str → DD.Env → Prop} {v : DD.Env} {a b : E} (ha : VE X v a (hallD C h)) (hb : VE X v b (iD w)) (ho : ownRoots v (.cons a (.cons b .nil)) = []) : VE X v (.call (g_stepped C) (.cons a (.cons b .nil))) (stpD C h w) := vc_X (h, (w : Int)) (ves2 ha hb) ho ⟨ok, (ok.nW hw).2⟩ hi_inj (fun d q => q.2) fun x q => absurd (ok.nW hw).1 q.1
theorem ok_at_rest (C : Addr) : FnD (g_at_rest C) 1 2 [] (b_at_rest C) := fnS_ok (fun _ => rfl) fun h ok P rt nx => by
  have ok : HOk h := ok
  have rt : ∀ d u, 1 ≤ u.length → d = .bl (rst h) → P.rt (.dat d) u := rt
  have hl := ok.go.rl
  unfold b_at_rest
  change wpSs noX [.dat (hallD C h), .un] _ _
  refine w_ret (d := .bl (rst h)) ?_ (rt _ _ (by simp) rfl)
  show wpE _ _ _ _
  rw [wpE, wpE, wpN, wpSr]
  refine ((ve_lenT (va_rows (C := C) (ve_var rfl))).to (by rw [List.length_map]) : VE noX _ _ (iD h.rows.length)).use ?_
  show 0 ≤ _ ∧ _ ∧ _ ∧ _
  rw [Int.toNat_natCast]
  refine ⟨by omega, by omega, by rw [rngD_len]; omega, compL_mapE (fun k : Nat => (.int (k : Int) : Dt)) (fun w => .dat (.bl (idl h w))) (fun w hw K k => ?_) ?_⟩
  · have hw : w < h.rows.length := List.mem_range.mp hw
    show wpC noX [.dat (hallD C h), .dat (iD w)] _ _
    refine ⟨fun _ => (ve_idle ok hw (ve_var rfl) (ve_var rfl) rfl).use k, fun z => by cases z⟩
  · rw [show ((List.range h.rows.length).map fun w => Tr.dat (.bl (idl h w))) = (((List.range h.rows.length).map (idl h)).map Dt.bl).map Tr.dat by rw [List.map_map, List.map_map]; rfl]
    refine ⟨all_isD _, ?_⟩
    rw [map_toD]
    refine ⟨all_isB _, ?_⟩
    rw [map_toB]
    show Tr.dat (.bl _) = Tr.dat (.bl (rst h))
    unfold rst
    rw [List.all_map]
    rfl
def g_rested (C : Addr) : Sg := fnS "rested" 7 (fun a : HM => [hallD C a]) (fun a => HOk a) fun a d => ∃ h' l, RestTo a h' l ∧ d = wkD C (h', l)
def b_rested (C : Addr) : Ss := (.cons (.own 1 (.lst .nil)) (.cons (.set (.v 2) (.f1 .len (.attr (.var 0) "rows" "Hall" C))) (.cons (.whl (.not (.call (g_at_rest C) (.cons (.var 0) .nil))) (.cons (.for (.v 3) (.r (.var 2)) (.cons (.ite (.not (.call (g_idle C) (.cons (.var 0) (.cons (.var 3) .nil)))) (.cons (.set (.t (.cons (.v 0) (.cons (.v 4) .nil))) (.call (g_stepped C) (.cons (.var 0) (.cons (.var 3) .nil)))) (.cons (.app (.v 1) (.v (.var 4))) .nil)) .nil) .nil)) .nil)) (.cons (.frz 1) (.cons (.ret (.tup (.cons (.var 0) (.cons (.var 1) .nil)))) .nil)))))
theorem ve_rest {C : Addr} {h : HM} (ok : HOk h) {X : Str → DD.Env → Prop} {v : DD.Env} {a : E} (ha : VE X v a (hallD C h)) (ho : ownRoots v (.cons a .nil) = []) : VE X v (.call (g_at_rest C) (.cons a .nil)) (.bl (rst h)) := vc_S h (ves1 ha) ho ok (inj1 hallD_inj) fun d q => q
theorem ok_rested (C : Addr) : FnD (g_rested C) 1 5 [] (b_rested C) := fnS_ok (fun _ => rfl) fun h ok P rt nx => by
  have ok : HOk h := ok
  have hl := ok.go.rl
  have rt : ∀ d u, 1 ≤ u.length → (∃ h' l, RestTo h h' l ∧ d = wkD C (h', l)) → P.rt (.dat d) u := rt
  unfold b_rested
  change wpSs noX [.dat (hallD C h), .un, .un, .un, .un] _ _
  refine w_own ?_
  refine w_set ((ve_lenT (va_rows (C := C) (ve_var rfl))).to (by rw [List.length_map])) ?_
  show wpSs noX [.dat (hallD C h), .own [], .dat (iD h.rows.length), .un, .un] _ _
  refine wp_whl (fun m u => ∃ h1 l1 a b, u = [.dat (hallD C h1), .own ((l1.map toD').map .dat), .dat (iD h.rows.length), a, b] ∧ HOk h1 ∧ h1.rows.length = h.rows.length ∧ l1.length + mu h ≤ mu h1 ∧ (∀ h2 l2, RestTo h1 h2 l2 → RestTo h h2 (l1 ++ l2)) ∧ m = 5000 - mu h1) _ ⟨h, [], .un, .un, rfl, ok, rfl, by simp, fun _ _ z => z, rfl⟩ ?_
  rintro m u ⟨h1, l1, a, b, rfl, ok1, hr, hlen, hrest, rfl⟩
  have hmu := mu_le ok1
  refine (ve_not (ve_rest ok1 (ve_var rfl) (by simp [ownRoots, rootE]))).use ⟨fun q => ?_, fun q => ?_⟩
  · have q : rst h1 = false := by simpa using q
    refine wp_for (rngD h.rows.length) ?_ (fun k u => ∃ a b, u = [.dat (hallD C (rnd h1 (List.range k)).1), .own (((l1 ++ (rnd h1 (List.range k)).2).map toD').map .dat), .dat (iD h.rows.length), a, b]) ⟨a, b, by show _ = [Tr.dat (hallD C h1), Tr.own (((l1 ++ []).map toD').map .dat), _, _, _]; rw [List.append_nil]⟩ ?_ ?_
    · refine (ve_var rfl : VE noX _ (.var 2) (iD h.rows.length)).use ?_
      show 0 ≤ _ ∧ _ ∧ _
      rw [Int.toNat_natCast]
      exact ⟨by omega, by omega, rfl⟩
    · rintro k d u hd ⟨a, b, rfl⟩
      obtain ⟨hk, rfl⟩ := LB.rngD_get hd
      have hin : ∀ w ∈ List.range k, w < h1.rows.length := fun w hw => by have := List.mem_range.mp hw; omega
      obtain ⟨ok2, g1, g2, g3⟩ := rnd_ok ok1 hin
      have hmu2 := mu_le ok2
      have hk2 : k < (rnd h1 (List.range k)).1.rows.length := by rw [g2]; omega
      show wpSs noX [_, _, _, .dat (iD k), _] _ _
      refine w_if1 (ve_not (ve_idle ok2 hk2 (ve_var rfl) (ve_var rfl) (by simp [ownRoots, rootE]))) (fun z => ?_) (fun z => ?_)
      · have z : idl (rnd h1 (List.range k)).1 k = false := by simpa using z
        refine w_set2 (ve_stepped ok2 hk2 (ve_var rfl) (ve_var rfl) (by simp [ownRoots, rootE])) ?_
        refine w_app rfl (by rw [List.length_map, List.length_map, List.length_append]; omega) (ve_var rfl) ?_
        refine w_nil (X := noX) (w_nil (X := noX) (show ∃ a b, _ from ⟨.dat (iD k), .dat (toD' (stp (rnd h1 (List.range k)).1 k).2), ?_⟩))
        rw [List.range_succ, rnd_snoc, if_neg (by rw [z]; decide)]
        dsimp only
        rw [tos_snoc, ← List.append_assoc]
        rfl
      · have z : idl (rnd h1 (List.range k)).1 k = true := by simpa using z
        refine w_nil (X := noX) (show ∃ a b, _ from ⟨.dat (iD k), b, ?_⟩)
        rw [List.range_succ, rnd_snoc, if_pos z]
    · rintro u ⟨a, b, rfl⟩
      rw [LB.rngD_len]
      have hin : ∀ w ∈ List.range h.rows.length, w < h1.rows.length := fun w hw => by have := List.mem_range.mp hw; omega
      obtain ⟨ok2, g1, g2, g3⟩ := rnd_ok ok1 hin
      have hmu2 := mu_le ok2
      have hgo := rnd_go ok1 q
      rw [hr] at hgo
      refine w_nil ⟨5000 - mu (rnd h1 (List.range h.rows.length)).1, by omega, (rnd h1 (List.range h.rows.length)).1, l1 ++ (rnd h1 (List.range h.rows.length)).2, a, b, rfl, ok2, by rw [g2]; exact hr, by rw [List.length_append]; omega, fun h2 l2 z => ?_, rfl⟩
      rw [List.append_assoc]
      exact hrest _ _ (.more q (by rw [hr]; exact z) (by rw [hr]))
  · have q : rst h1 = true := by simpa using q
    refine w_frz rfl ?_
    refine w_ret (ve_tup (ves2 (ve_var rfl) (ve_var rfl))) (rt _ _ (by simp) ⟨h1, l1, ?_, rfl⟩)
    have := hrest _ _ (.done q)
    rwa [List.append_nil] at this
end LB
/-! a drawn hall, begun -/
namespace LB
open PySem L2 DL DD
def fbx (g : Bool × List Nat) : Bx := if g.1 = true then .row (List.replicate g.2.length (List.replicate (2 * rds g.2.length) 0)) else .cnt (g.2.length : Nat) 0
def hm0 (gs : List (Bool × List Nat)) (rs : List (List Nat)) : HM := { gates := gs, rows := rs, stands := List.replicate rs.length ⟨0, .come, 0⟩, stores := gs.map fbx }
def gZ (gs : List (Bool × List Nat)) : List RG := gs.map fun g => (kS g.1, g.2.map fun n : Nat => (n : Int))
def rZ (rs : List (List Nat)) : List (List Int) := rs.map fun r => r.map fun n : Nat => (n : Int)
theorem gL_gate (g : Bool × List Nat) : gL (kS g.1, g.2.map fun n : Nat => (n : Int)) = gateL g := by
  unfold gateL gL; rw [List.map_map]; rfl
theorem rL_row (r : List Nat) : rL (r.map fun n : Nat => (n : Int)) = rowL r := by
  unfold rowL rL; rw [List.map_map]; rfl
theorem gZ_map (gs : List (Bool × List Nat)) : (gZ gs).map gL = gs.map gateL := by
  unfold gZ; rw [List.map_map]; exact List.map_congr_left fun g _ => gL_gate g
theorem rZ_map (rs : List (List Nat)) : (rZ rs).map rL = rs.map rowL := by
  unfold rZ; rw [List.map_map]; exact List.map_congr_left fun g _ => rL_row g
theorem hallR_hm0 (C : Addr) (gs : List (Bool × List Nat)) (rs : List (List Nat)) : hallR C (gZ gs) (rZ rs) = hallD C (hm0 gs rs) := by
  unfold hallR hallD hm0 gZ rZ
  dsimp only
  rw [List.map_map, List.map_map, List.map_map, List.map_map, List.length_map, List.map_replicate]
  have e1 : gs.map (gN ∘ fun g => (kS g.1, g.2.map fun n : Nat => (n : Int))) = gs.map gateD := List.map_congr_left fun g _ => by
    show gN _ = gateD g
    unfold gN gateD; rw [List.map_map]; rfl
  have e2 : rs.map (rN ∘ fun r => r.map fun n : Nat => (n : Int)) = rs.map rowD := List.map_congr_left fun g _ => by
    show rN _ = rowD g
    unfold rN rowD; rw [List.map_map]; rfl
  have e3 : gs.map ((fun g : RG => fbD g.1 g.2.length) ∘ fun g => (kS g.1, g.2.map fun n : Nat => (n : Int))) = gs.map (bxD ∘ fbx) := List.map_congr_left fun g _ => by
    show fbD (kS g.1) (g.2.map fun n : Nat => (n : Int)).length = bxD (fbx g)
    obtain ⟨k, ms⟩ := g
    unfold fbD fbx
    rw [List.length_map]
    dsimp only
    cases k
    · rw [if_pos (show kS false = "count" from rfl), if_neg (by decide)]; rfl
    · rw [if_neg (show ¬ kS true = "count" by decide +kernel), if_pos rfl]
      unfold bxD
      dsimp only
      rw [List.map_replicate, List.map_replicate]
  rw [e1, e2, e3]
  rfl
theorem distinct_of_nodup {ns : List Int} (h : ns.Nodup) : distinct ns = ns.length := by
  unfold distinct
  rw [RZ.firstMet_nodup h ns.length (Nat.le_refl _), List.take_length]
theorem rowErrs_none {gs : List RG} {w : Int} : ∀ {r : List Int}, (∀ g ∈ r, 0 ≤ g ∧ g < (gs.length : Int) ∧ w ∈ (gs.getD g.toNat ("", [])).2) → rowErrs gs w r = none
  | [], _ => rfl
  | g :: r, h => by
    obtain ⟨h1, h2, h3⟩ := h g List.mem_cons_self
    rw [rowErrs, if_pos ⟨h1, h2⟩, if_pos h3]
    exact rowErrs_none fun x hx => h x (List.mem_cons_of_mem _ hx)
theorem rowsErr_none {gs : List RG} : ∀ {rs : List (List Int)} {i : Nat}, (∀ (k : Nat) (r : List Int), rs[k]? = some r → rowErr gs ((i + k : Nat) : Int) r = none) → rowsErr gs i rs = none
  | [], _, _ => rfl
  | r :: rs, i, h => by
    have h0 := h 0 r rfl
    rw [rowsErr, show ((i : Nat) : Int) = ((i + 0 : Nat) : Int) from rfl, h0]
    exact rowsErr_none fun k x e => by
      have := h (k + 1) x (by simpa using e)
      rwa [show i + (k + 1) = i + 1 + k by omega] at this
theorem gatesErr_none {n : Nat} : ∀ {gs : List RG}, (∀ g ∈ gs, gOk g n) → gatesErr n gs = none
  | [], _ => rfl
  | g :: gs, h => by
    rw [gatesErr, if_pos (h g List.mem_cons_self)]
    exact gatesErr_none fun x hx => h x (List.mem_cons_of_mem _ hx)
section
variable {gs : List (Bool × List Nat)} {rs : List (List Nat)}
theorem GOk.lok (h : GOk gs rs) : LOk (gZ gs) (rZ rs) := by
  refine ⟨fun g hg => ?_, fun r hr i hi => ?_, ?_, ?_⟩
  · obtain ⟨x, hx, rfl⟩ := List.mem_map.mp hg
    have := nd_le _ _ (h.g x hx).nd (h.g x hx).lt
    have := h.rl
    rw [List.length_map]; omega
  · obtain ⟨x, hx, rfl⟩ := List.mem_map.mp hr
    obtain ⟨y, hy, rfl⟩ := List.mem_map.mp hi
    obtain ⟨w, hw⟩ := List.getElem?_of_mem hx
    obtain ⟨g, hg, _⟩ := (h.r w x hw).2 y hy
    have := (List.getElem?_eq_some_iff.mp hg).1
    have := h.gl
    exact small_nat (by omega)
  · have := h.gl; unfold gZ; rw [List.length_map]; omega
  · have := h.rl; unfold rZ; rw [List.length_map]; omega
theorem GOk.none (h : GOk gs rs) : listsErr (gZ gs) (rZ rs) = none := by
  have hgl := h.gl
  have hrl := h.rl
  have l1 : (rZ rs).length = rs.length := by unfold rZ; rw [List.length_map]
  have l2 : (gZ gs).length = gs.length := by unfold gZ; rw [List.length_map]
  unfold listsErr
  rw [l1, l2, if_neg (by omega), if_neg (by omega)]
  have hg : gatesErr rs.length (gZ gs) = Option.none := gatesErr_none fun g hg => by
    obtain ⟨x, hx, rfl⟩ := List.mem_map.mp hg
    have mo := h.g x hx
    refine ⟨by cases x.1 <;> simp [kS], fun e => mo.ne (by simpa using e), fun m hm => ?_, distinct_of_nodup ?_⟩
    · obtain ⟨y, hy, rfl⟩ := List.mem_map.mp hm
      have := mo.lt y hy
      omega
    · show List.Pairwise _ _
      rw [List.pairwise_map]
      exact List.Pairwise.imp (fun {a b} hab e => hab (by omega)) mo.nd
  rw [hg]
  refine rowsErr_none fun k r hr => ?_
  unfold rZ at hr
  obtain ⟨x, hx, rfl⟩ := map_get hr
  obtain ⟨h1, h2⟩ := h.r k x hx
  unfold rowErr
  rw [List.length_map, if_neg (by omega)]
  refine rowErrs_none fun g hg => ?_
  obtain ⟨y, hy, rfl⟩ := List.mem_map.mp hg
  obtain ⟨gt, g1, g2⟩ := h2 y hy
  have := (List.getElem?_eq_some_iff.mp g1).1
  refine ⟨by omega, by rw [l2]; omega, ?_⟩
  rw [Int.toNat_natCast, getD_some (show (gZ gs)[y]? = some _ by unfold gZ; exact get_map g1)]
  rw [Nat.zero_add]
  exact List.mem_map.mpr ⟨k, g2, rfl⟩
theorem rep_getD {α : Type} {n i : Nat} {x d : α} (h : i < n) : (List.replicate n x).getD i d = x := getD_some (by rw [List.getElem?_replicate, if_pos h])
theorem hm0_sd {w : Nat} (h : w < rs.length) : (hm0 gs rs).sd w = ⟨0, .come, 0⟩ := rep_getD h
theorem hm0_st {g : Nat} (h : g < gs.length) : (hm0 gs rs).st g = fbx ((hm0 gs rs).gt g) := by
  show (gs.map fbx).getD g _ = fbx (gs.getD g _)
  exact getD_some (get_map (getD_lt h))
theorem hm0_ok (h : GOk gs rs) : HOk (hm0 gs rs) := by
  refine ⟨h, List.length_replicate, List.length_map .., fun w hw => ?_, fun w hw e => ?_, fun w g hw e => ?_, fun g hg => ?_⟩
  · rw [hm0_sd (gs := gs) (rs := rs) hw]; exact Nat.zero_le _
  · rw [hm0_sd (gs := gs) (rs := rs) hw]; exact ⟨rfl, rfl⟩
  · rw [hm0_sd (gs := gs) (rs := rs) hw]; exact sdok_come _ _
  · rw [hm0_st (gs := gs) (rs := rs) hg]
    generalize (hm0 gs rs).gt g = gt
    obtain ⟨k, ms⟩ := gt
    cases k
    · exact rfl
    · refine ⟨rfl, List.length_replicate, fun b hb => ?_⟩
      rw [List.eq_of_mem_replicate hb, List.length_replicate]
theorem ve_begun (h : GOk gs rs) {C : Addr} {X : Str → DD.Env → Prop} {v : DD.Env} {a b : E} (ha : VE X v a (gtD gs)) (hb : VE X v b (rwD rs)) (ho : ownRoots v (.cons a (.cons b .nil)) = []) : VE X v (.call (g_begun C) (.cons a (.cons b .nil))) (hallD C (hm0 gs rs)) := by
  refine vc_X (gZ gs, rZ rs) ?_ ho h.lok (fun b h => lsD_inj _ _ h) (fun d q => ?_) fun x q => ?_
  · have : lsD (gZ gs, rZ rs) = [gtD gs, rwD rs] := by unfold lsD gtD rwD; rw [gZ_map, rZ_map]
    rw [this]
    exact ves2 ha hb
  · rw [← hallR_hm0]; exact q.2
  · have q : listsErr (gZ gs) (rZ rs) = some x := q
    rw [h.none] at q; cases q
end
end LB
/-! values of list displays, comprehensions, slices -/
namespace LB
open PySem L2 DL DD
section
variable {X : Str → DD.Env → Prop} {v : DD.Env} {a b c e : E} {d d1 d2 : Dt} {i j k : Int} {P : Po} {ss : Ss}
abbrev VIs (X : Str → DD.Env → Prop) (v : DD.Env) (is : Is) (ds : List Dt) : Prop := wpIs X v is fun ts => ts = ds.map .dat
theorem vi_nil : VIs X v .nil [] := rfl
theorem vi_cons {is : Is} {ds : List Dt} (h : VE X v e d) (hs : VIs X v is ds) : VIs X v (.cons (.v e) is) (d :: ds) := by
  show wpI X v (.v e) _
  rw [wpI]
  exact h.use (wpIs_mono is hs (fun ts z => by rw [z]; rfl) fun _ z => z)
theorem vi1 (h1 : VE X v a d) : VIs X v (.cons (.v a) .nil) [d] := vi_cons h1 vi_nil
theorem vi2 (h1 : VE X v a d) (h2 : VE X v b d1) : VIs X v (.cons (.v a) (.cons (.v b) .nil)) [d, d1] := vi_cons h1 (vi1 h2)
theorem vi3 (h1 : VE X v a d) (h2 : VE X v b d1) (h3 : VE X v c d2) : VIs X v (.cons (.v a) (.cons (.v b) (.cons (.v c) .nil))) [d, d1, d2] := vi_cons h1 (vi2 h2 h3)
theorem ve_lst {is : Is} {ds : List Dt} (h : VIs X v is ds) : VE X v (.new (.lst is)) (.lst ds) := wpIs_mono is h (fun ts z => by subst z; exact ⟨all_isD _, by rw [map_toD]⟩) fun _ z => z
theorem flat_repl {α β : Type} (f : α → β) (n : Nat) (l : List α) : (List.replicate n (l.map f)).flatten = ((List.replicate n l).flatten).map f := by
  rw [List.map_flatten, List.map_replicate]
theorem ve_rep {ds : List Dt} {n : Nat} (ha : VE X v a (.lst ds)) (hb : VE X v b (iD n)) (hn : n ≤ 90000) (hl : ds.length * n ≤ 90000) : VE X v (.new (.rep a b)) (.lst (List.replicate n ds).flatten) := ha.use (hb.use ⟨all_isD _, by omega, by omega, by rw [List.length_map, Int.toNat_natCast]; exact hl, by
  rw [Int.toNat_natCast, flat_repl]
  exact ⟨all_isD _, by rw [map_toD]⟩⟩)
theorem ve_rep1 {n : Nat} (ha : VE X v a (.lst [d])) (hb : VE X v b (iD n)) (hn : n ≤ 90000) : VE X v (.new (.rep a b)) (.lst (List.replicate n d)) := (ve_rep ha hb hn (by simpa using hn)).to (by rw [flat_rep])
theorem ve_cat {as bs : List Dt} (ha : VE X v a (.lst as)) (hb : VE X v b (.lst bs)) (h : as.length + bs.length ≤ 90000) : VE X v (.new (.cat a b)) (.lst (as ++ bs)) := ha.use (hb.use ⟨all_isD _, all_isD _, by rw [List.length_map, List.length_map]; exact h, by
  rw [← List.map_append]
  exact ⟨all_isD _, by rw [map_toD]⟩⟩)
theorem ve_cpL {ds : List Dt} (ha : VE X v a (.lst ds)) : VE X v (.new (.cp a)) (.lst ds) := ha.use ⟨all_isD _, all_isD _, by rw [map_toD]⟩
theorem ve_cpN {ds : List Dt} (ha : VE X v a (.nup ds)) : VE X v (.new (.cp a)) (.lst ds) := ha.use ⟨all_isD _, all_isD _, by rw [map_toD]⟩
theorem ve_cpT {ds : List Dt} (ha : VE X v a (.tup ds)) : VE X v (.new (.cp a)) (.lst ds) := ha.use ⟨all_isD _, all_isD _, by rw [map_toD]⟩
/-- a comprehension over a list -/
theorem ve_comp {α : Type} {p : Pt} {s : Src} {it : DD.It} {c : α → Dt} {g : α → Dt} {as : List α} (hs : wpSr X v s fun z => z = as.map c) (hl : as.length ≤ 90000) (h : ∀ x ∈ as, asg p (c x) (wipeV v (slots p)) fun v' => wpI noX v' it fun t => t = .dat (g x)) : VE X v (.new (.comp p s .no it)) (.lst (as.map g)) := by
  refine wpSr_mono s hs (fun z e => ?_) fun _ z => z
  subst e
  refine ⟨by rw [List.length_map]; exact hl, compL_mapE c (fun x => .dat (g x)) (fun x hx K k => ?_) ?_⟩
  · refine asg_mono p (h x hx) fun v' q => ?_
    exact ⟨fun _ => wpI_mono it q (fun t z => by rw [z]; exact k) fun _ z => z, fun z => (by cases z)⟩
  · rw [show (as.map fun x => Tr.dat (g x)) = (as.map g).map Tr.dat from (map_map' _ _ _).symm]
    exact ⟨all_isD _, by rw [map_toD]⟩
/-- the same, filtered -/
theorem ve_compF {α : Type} {p : Pt} {s : Src} {it : DD.It} {t : E} {c : α → Dt} {g : α → Dt} {q : α → Bool} {as : List α} (hs : wpSr X v s fun z => z = as.map c) (hl : as.length ≤ 90000) (h : ∀ x ∈ as, asg p (c x) (wipeV v (slots p)) fun v' => wpE noX v' t (fun z => z = .dat (.bl (q x))) ∧ (q x = true → wpI noX v' it fun t => t = .dat (g x))) : VE X v (.new (.comp p s (.so t) it)) (.lst ((as.filter q).map g)) := by
  refine wpSr_mono s hs (fun z e => ?_) fun _ z => z
  subst e
  refine ⟨by rw [List.length_map]; exact hl, compL_filE c (fun x => if q x = true then [.dat (g x)] else []) (fun x hx K k => ?_) ?_⟩
  · refine asg_mono p (h x hx) fun v' ⟨q1, q2⟩ => ?_
    refine VE.use q1 ⟨fun z => ?_, fun z => ?_⟩
    · rw [if_pos z] at k
      exact wpI_mono it (q2 z) (fun t z => by rw [z]; exact k) fun _ z => z
    · rw [if_neg (by rw [z]; decide)] at k
      exact k
  · have e : ∀ l : List α, (l.flatMap fun x => if q x = true then [Tr.dat (g x)] else []) = ((l.filter q).map g).map .dat := by
      intro l
      induction l with
      | nil => rfl
      | cons m l ih =>
        rw [List.flatMap_cons, ih, List.filter_cons]
        by_cases z : q m = true
        · rw [if_pos z, if_pos z]; rfl
        · rw [if_neg z, if_neg z]; rfl
    rw [e]
    exact ⟨all_isD _, by rw [map_toD]⟩
theorem sr_l {ds : List Dt} (h : VE X v e (.lst ds)) : wpSr X v (.l e) fun z => z = ds := h.use rfl
theorem sr_scr {ds : List Dt} (h : VE X v e (.scr ds)) : wpSr X v (.l e) fun z => z = ds := h.use rfl
theorem sr_tup {ds : List Dt} (h : VE X v e (.tup ds)) : wpSr X v (.l e) fun z => z = ds := h.use rfl
theorem sr_nup {ds : List Dt} (h : VE X v e (.nup ds)) : wpSr X v (.l e) fun z => z = ds := h.use rfl
theorem sr_r {n : Nat} (h : VE X v e (iD n)) (hn : n ≤ 90000) : wpSr X v (.r e) fun z => z = (List.range n).map iD := h.use (by
  show 0 ≤ _ ∧ _ ∧ _
  rw [Int.toNat_natCast]
  exact ⟨by omega, by omega, rfl⟩)
theorem sr_rv {n : Nat} (h : VE X v e (iD n)) (hn : n ≤ 90000) : wpSr X v (.rv e) fun z => z = ((List.range n).reverse).map iD := h.use (by
  show 0 ≤ _ ∧ _ ∧ _
  rw [Int.toNat_natCast]
  exact ⟨by omega, by omega, by rw [List.map_reverse]; rfl⟩)
theorem wi_v (h : VE X v e d) : wpI X v (.v e) fun t => t = .dat d := h.use rfl
theorem ve_slL_to {α : Type} {f : α → Dt} {l : List α} {n : Nat} (ha : VE X v a (.lst (l.map f))) (hb : VE X v b (iD n)) : VE X v (.new (.sl a .no (.so b))) (.lst ((l.take n).map f)) := ha.use (by
  show wpE X v b _
  refine hb.use ?_
  simp only [asI, iD]
  refine ⟨all_isD _, ?_⟩
  rw [List.map_map]
  refine cutO_to ?_
  refine ⟨by rw [List.all_map]; exact List.all_eq_true.mpr fun _ _ => rfl, ?_⟩
  rw [List.map_map]; rfl)
theorem ve_slL_from {α : Type} {f : α → Dt} {l : List α} {n : Nat} (ha : VE X v a (.lst (l.map f))) (hb : VE X v b (iD n)) : VE X v (.new (.sl a (.so b) .no)) (.lst ((l.drop n).map f)) := ha.use (by
  show wpE X v b _
  refine hb.use ?_
  simp only [asI, iD, wpO]
  refine ⟨all_isD _, ?_⟩
  rw [List.map_map]
  refine cutO_from ?_
  refine ⟨by rw [List.all_map]; exact List.all_eq_true.mpr fun _ _ => rfl, ?_⟩
  rw [List.map_map]; rfl)
theorem ve_slS_from {α : Type} {f : α → Dt} {l : List α} {n : Nat} (ha : VE X v a (.scr (l.map f))) (hb : VE X v b (iD n)) : VE X v (.new (.sl a (.so b) .no)) (.lst ((l.drop n).map f)) := ha.use (by
  show wpE X v b _
  refine hb.use ?_
  simp only [asI, iD, wpO]
  refine ⟨all_isD _, ?_⟩
  rw [List.map_map]
  refine cutO_from ?_
  refine ⟨by rw [List.all_map]; exact List.all_eq_true.mpr fun _ _ => rfl, ?_⟩
  rw [List.map_map]; rfl)
theorem ve_neg (ha : VE X v a (.int i)) : VE X v (.neg a) (.int (-i)) := ha.use rfl
theorem ve_pow (ha : VE X v a (.int i)) (hb : VE X v b (.int j)) (h : L2.CPow i j) : VE X v (.bin .pow a b) (.int (i ^ j.toNat)) := V2 ha hb ⟨h, rfl⟩
theorem ve_ixT0 {ds : List Dt} (ha : VE X v a (.tup (d :: ds))) : VE X v (.ix a (.int 0)) d := ve_ixT (n := 0) ha rfl rfl
theorem ve_ixT1 {ds : List Dt} (ha : VE X v a (.tup (d :: d1 :: ds))) : VE X v (.ix a (.int 1)) d1 := ve_ixT (n := 1) ha rfl rfl
theorem ve_ixT2 {ds : List Dt} (ha : VE X v a (.tup (d :: d1 :: d2 :: ds))) : VE X v (.ix a (.int 2)) d2 := ve_ixT (n := 2) ha rfl rfl
theorem ve_ixL0 {ds : List Dt} (ha : VE X v a (.lst (d :: ds))) : VE X v (.ix a (.int 0)) d := ve_ixL (n := 0) ha rfl rfl
theorem ve_ixL1 {ds : List Dt} (ha : VE X v a (.lst (d :: d1 :: ds))) : VE X v (.ix a (.int 1)) d1 := ve_ixL (n := 1) ha rfl rfl
theorem ve_ixL2 {ds : List Dt} (ha : VE X v a (.lst (d :: d1 :: d2 :: ds))) : VE X v (.ix a (.int 2)) d2 := ve_ixL (n := 2) ha rfl rfl
theorem fa1 {p : Dt → Prop} (h1 : p d) : ∀ x ∈ [d], p x := fun x hx => by rw [List.mem_singleton.mp hx]; exact h1
theorem fa2 {p : Dt → Prop} (h1 : p d) (h2 : p d1) : ∀ x ∈ [d, d1], p x := List.forall_mem_cons.mpr ⟨h1, fa1 h2⟩
theorem fa3 {p : Dt → Prop} (h1 : p d) (h2 : p d1) (h3 : p d2) : ∀ x ∈ [d, d1, d2], p x := List.forall_mem_cons.mpr ⟨h1, fa2 h2 h3⟩
theorem fam {α : Type} {f : α → Dt} {p : Dt → Prop} {l : List α} (h : ∀ x ∈ l, p (f x)) : ∀ y ∈ l.map f, p y := fun y hy => by
  obtain ⟨x, hx, rfl⟩ := List.mem_map.mp hy
  exact h x hx
theorem ve_eqR (ha : VE X v a d) (hb : VE X v b d) (h : DOk 8 d) : VE X v (.cmp .eq a b) (.bl true) := (ve_eq ha hb h h).to (by rw [eqD_refl h])
theorem ve_neR (ha : VE X v a d) (hb : VE X v b d) (h : DOk 8 d) : VE X v (.cmp .ne a b) (.bl false) := (ve_ne ha hb h h).to (by rw [eqD_refl h]; rfl)
theorem ve_or_ff (ha : VE X v a (.bl false)) (hb : VE X v b (.bl false)) : VE X v (.or a b) (.bl false) := ve_or ha fun _ => hb
theorem ve_and_tt (ha : VE X v a (.bl true)) (hb : VE X v b (.bl true)) : VE X v (.and a b) (.bl true) := ve_and ha fun _ => hb
theorem ve_not_t (ha : VE X v a (.bl true)) : VE X v (.not a) (.bl false) := ve_not ha
theorem ve_not_f (ha : VE X v a (.bl false)) : VE X v (.not a) (.bl true) := ve_not ha
theorem ve_neIf (ha : VE X v a (.int i)) (hb : VE X v b (.int i)) : VE X v (.cmp .ne a b) (.bl false) := (ve_neI ha hb).to (by simp)
theorem ve_eqIt (ha : VE X v a (.int i)) (hb : VE X v b (.int i)) : VE X v (.cmp .eq a b) (.bl true) := (ve_eqI ha hb).to (by simp)
theorem w_if1f {A : Ss} (h : VE X v e (.bl false)) (k : wpSs X v ss P) : wpSs X v (.cons (.ite e A .nil) ss) P := w_if1 h (fun z => nomatch z) fun _ => k
theorem w_if1t {A : Ss} (h : VE X v e (.bl true)) (k : wpSs X v A { P with nx := fun u => wpSs X u ss P }) : wpSs X v (.cons (.ite e A .nil) ss) P := w_if1 h (fun _ => k) fun z => nomatch z
/-- isinstance of plain things -/
theorem ve_isi {T B : String} {k : Bool} (ha : VE X v a d) (h1 : tyT (.dat d) = some T) (h2 : isiB T B = some k) : VE X v (.isi a B) (.bl k) := ha.use ⟨T, k, h1, h2, rfl⟩
theorem ve_isiC {x : Str} {C : Addr} {ns : List Str} {ds : List Dt} (ha : VE X v a (.ins C ns ds)) : VE X v (.isiC a x C) (.bl true) := ha.use ⟨rfl, rfl⟩
theorem ve_mem {p : Bool} {ds : List Dt} (ha : VE X v a d) (hb : VE X v b (.lst ds)) (h1 : flatD d = true) (h2 : ds.all flatD = true) : VE X v (.mem p a b) (.bl (sgB p (inD d ds))) := ha.use (hb.use ⟨h1, by rw [List.all_map]; exact h2, by rw [map_toD]⟩)
theorem ve_memN {p : Bool} {ds : List Dt} (ha : VE X v a d) (hb : VE X v b (.nup ds)) (h1 : flatD d = true) (h2 : ds.all flatD = true) : VE X v (.mem p a b) (.bl (sgB p (inD d ds))) := ha.use (hb.use ⟨h1, by rw [List.all_map]; exact h2, by rw [map_toD]⟩)
/-- a loop over what is told apart by an own list of things -/
theorem w_for {α : Type} {p : Pt} {s : Src} {bd : Ss} {c : α → Dt} (as : List α) (hs : wpSr X v s fun z => z = as.map c) (I : Nat → DD.Env → Prop) (h0 : I 0 v) (ht : ∀ (k : Nat) (x : α) (u : DD.Env), as[k]? = some x → I k u → asg p (c x) u fun u' => wpSs X u' bd { nx := I (k + 1), ct := I (k + 1), bk := fun u => wpSs X u ss P, rt := P.rt }) (hd : ∀ u, I as.length u → wpSs X u ss P) : wpSs X v (.cons (.for p s bd) ss) P :=
  wp_for (as.map c) hs I h0 (fun k d u hk hi => by
    obtain ⟨x, hx, rfl⟩ := map_get hk
    exact ht k x u hx hi) fun u hu => hd u (by rwa [List.length_map] at hu)
end
end LB
/-! what several laws ask of what is told -/
namespace LB
open PySem L2 DL DD
def isInt : Dt → Bool
  | .int _ => true
  | _ => false
def g__law_whole (C : Addr) : Sg := fnS "_law_whole" 1 (fun d : Dt => [d]) (fun d => tyT (.dat d) ≠ none) fun d e => e = .bl (isInt d)
def b__law_whole (C : Addr) : Ss := (.cons (.ret (.and (.isi (.var 0) "int") (.not (.isi (.var 0) "bool")))) .nil)
theorem ok__law_whole (C : Addr) : FnD (g__law_whole C) 1 1 [] (b__law_whole C) := fnS_ok (fun _ => rfl) fun d hd P rt nx => by
  have hd : tyT (.dat d) ≠ none := hd
  unfold b__law_whole
  change wpSs noX [.dat d] _ _
  have fin : ∀ (T : String) (k l : Bool), tyT (.dat d) = some T → isiB T "int" = some k → isiB T "bool" = some l → (k && !l) = isInt d → wpSs noX [.dat d] (.cons (.ret (.and (.isi (.var 0) "int") (.not (.isi (.var 0) "bool")))) .nil) P := fun T k l h1 h2 h3 h4 =>
    w_ret (ve_and (ve_isi (ve_var rfl) h1 h2) fun _ => ve_not (ve_isi (ve_var rfl) h1 h3)) (rt _ _ (by simp) (by rw [h4]))
  cases d with
  | non => exact fin "NoneType" false false rfl (by decide +kernel) (by decide +kernel) rfl
  | bl b => exact fin "bool" true true rfl (by decide +kernel) (by decide +kernel) rfl
  | int b => exact fin "int" true false rfl (by decide +kernel) (by decide +kernel) rfl
  | str b => exact fin "str" false false rfl (by decide +kernel) (by decide +kernel) rfl
  | lst b => exact fin "list" false false rfl (by decide +kernel) (by decide +kernel) rfl
  | scr b => exact fin "list" false false rfl (by decide +kernel) (by decide +kernel) rfl
  | tup b => exact fin "tuple" false false rfl (by decide +kernel) (by decide +kernel) rfl
  | nup b => exact fin "tuple" false false rfl (by decide +kernel) (by decide +kernel) rfl
  | ins C ns ds => exact absurd rfl hd
theorem ve_whole {C : Addr} {X : Str → DD.Env → Prop} {v : DD.Env} {a : E} {d : Dt} (ha : VE X v a d) (ho : ownRoots v (.cons a .nil) = []) (hd : tyT (.dat d) ≠ none) : VE X v (.call (g__law_whole C) (.cons a .nil)) (.bl (isInt d)) := vc_S d (ves1 ha) ho hd (inj1 fun h => h) fun d q => q
theorem ve_wholeI {C : Addr} {X : Str → DD.Env → Prop} {v : DD.Env} {a : E} {i : Int} (ha : VE X v a (.int i)) (ho : ownRoots v (.cons a .nil) = []) : VE X v (.call (g__law_whole C) (.cons a .nil)) (.bl true) := ve_whole ha ho (by simp [tyT])
theorem ve_passed {C : Addr} {h : HM} (ok : HOk h) {w g : Nat} (hw : w < h.rows.length) (hg : g < h.gates.length) {X : Str → DD.Env → Prop} {v : DD.Env} {a b c : E} (ha : VE X v a (hallD C h)) (hb : VE X v b (iD w)) (hc : VE X v c (iD g)) (ho : ownRoots v (.cons a (.cons b (.cons c .nil))) = []) : VE X v (.call (g_passed C) (.cons a (.cons b (.cons c .nil)))) (iD (psd h w g)) := vc_X (h, (w : Int), (g : Int)) (ves3 ha hb hc) ho ⟨ok, (ok.nW hw).2, (ok.nG hg).2⟩ hii_inj (fun d q => q.2.2) fun x q => q.elim (fun z => absurd (ok.nW hw).1 z.1) fun z => absurd (ok.nG hg).1 z.2.1
theorem ve_missing {C : Addr} {h : HM} (ok : HOk h) {w : Nat} (hw : w < h.rows.length) {X : Str → DD.Env → Prop} {v : DD.Env} {a b : E} (ha : VE X v a (hallD C h)) (hb : VE X v b (iD w)) (ho : ownRoots v (.cons a (.cons b .nil)) = []) : VE X v (.call (g_missing C) (.cons a (.cons b .nil))) (nL (msg h w)) := vc_X (h, (w : Int)) (ves2 ha hb) ho ⟨ok, (ok.nW hw).2⟩ hi_inj (fun d q => q.2) fun x q => absurd (ok.nW hw).1 q.1
theorem ve_boxes {C : Addr} {h : HM} (ok : HOk h) {g : Nat} (hg : g < h.gates.length) {X : Str → DD.Env → Prop} {v : DD.Env} {a b : E} (ha : VE X v a (hallD C h)) (hb : VE X v b (iD g)) (ho : ownRoots v (.cons a (.cons b .nil)) = []) : VE X v (.call (g_boxes C) (.cons a (.cons b .nil))) (bxL (h.st g)) := vc_X (h, (g : Int)) (ves2 ha hb) ho ⟨ok, (ok.nG hg).2⟩ hi_inj (fun d q => q.2) fun x q => absurd (ok.nG hg).1 q.1
theorem ve_cell {C : Addr} {ns : List Int} {k : Nat} {X : Str → DD.Env → Prop} {v : DD.Env} {a : E} (ha : VE X v a (sD ns)) (ho : ownRoots v (.cons a (.cons (.int (k : Int)) .nil)) = []) : VE X v (.call (g__law_cell_at C) (.cons a (.cons (.int (k : Int)) .nil))) (.int (ns.getD k 0)) := vc_S (ns, k) (ves2 ha ve_nat) ho trivial (fun b h => sk_inj _ _ h) fun d q => q
theorem ve_mixed {C : Addr} {c k : Int} {X : Str → DD.Env → Prop} {v : DD.Env} {a b : E} (ha : VE X v a (.int c)) (hb : VE X v b (.int k)) (ho : ownRoots v (.cons a (.cons b .nil)) = []) : VE X v (.call (g__law_mixed C) (.cons a (.cons b .nil))) (.int (mixF c k)) := vc_S (c, k) (ves2 ha hb) ho trivial (inj2 intD_inj intD_inj) fun d q => q
theorem ve_wovenN {C : Addr} {h : HM} (ok : HOk h) {ws : List Nat} (hw : ∀ w ∈ ws, w < h.rows.length) (hl : ws.length ≤ 80000) {X : Str → DD.Env → Prop} {v : DD.Env} {a b : E} (ha : VE X v a (hallD C h)) (hb : VE X v b (.lst (ws.map iD))) (ho : ownRoots v (.cons a (.cons b .nil)) = []) : VE X v (.call (g_woven C) (.cons a (.cons b .nil))) (wkD C (wvn h ws)) := by
  have e : toN (ws.map fun n : Nat => (n : Int)) = ws := by unfold toN; rw [List.map_map]; exact List.map_id'' (fun _ => rfl) ws
  have hin : ∀ i ∈ (ws.map fun n : Nat => (n : Int)), inW h i := fun i hi => by
    obtain ⟨w, hw', rfl⟩ := List.mem_map.mp hi
    exact (ok.nW (hw w hw')).1
  refine vc_X (h, ws.map fun n : Nat => (n : Int)) (ves2 ha (by rw [← iD_int]; exact hb)) ho ⟨ok, by rw [List.length_map]; exact hl, fun i hi => ?_⟩ wl_inj (fun d q => ?_) fun x q => absurd hin q.1
  · obtain ⟨w, hw', rfl⟩ := List.mem_map.mp hi
    exact (ok.nW (hw w hw')).2
  · rw [q.2]; dsimp only; rw [e]
/-- a drawn hall -/
theorem wc_hall {C : Addr} {ns : List Int} {X : Str → DD.Env → Prop} {v : DD.Env} {a : E} {Q : Tr → Prop} (ha : VE X v a (sD ns)) (ho : ownRoots v (.cons a .nil) = []) (q : ∀ gs rs, GOk gs rs → Q (.dat (.lst [gtD gs, rwD rs]))) : wpE X v (.call (g__law_hall C) (.cons a .nil)) Q := wc_S ns (ves1 ha) ho trivial (inj1 (scr_inj intD_inj)) fun d ⟨gs, rs, e, h⟩ => by rw [e]; exact q gs rs h
/-- the lists copied -/
theorem ve_gcopy {gs : List (Bool × List Nat)} (hl : gs.length ≤ 90000) {X : Str → DD.Env → Prop} {v : DD.Env} {a : E} {i : Nat} (hi : i < v.length) (ha : VE X v a (gtD gs)) : VE X v (.new (.comp (.v i) (.l a) .no (.v (.tup (.cons (.ix (.var i) (.int 0)) (.cons (.new (.cp (.ix (.var i) (.int 1)))) .nil)))))) (gtD gs) := ve_comp (c := gateL) (g := gateL) (sr_l ha) hl fun g hg => by
  show wpI noX _ _ _
  have hv : (((v.set i .un).set i (.dat (gateL g)))[i]? : Option Tr) = some (.dat (.tup [.str (kS g.1), .lst (g.2.map iD)])) := by rw [List.getElem?_set_self (by rw [List.length_set]; exact hi)]; rfl
  exact wi_v (ve_tup (ves2 (ve_ixT (n := 0) (ve_var hv) rfl rfl) (ve_cpL (ve_ixT (n := 1) (ve_var hv) rfl rfl))))
theorem ve_rcopy {rs : List (List Nat)} (hl : rs.length ≤ 90000) {X : Str → DD.Env → Prop} {v : DD.Env} {a : E} {i : Nat} (hi : i < v.length) (ha : VE X v a (rwD rs)) : VE X v (.new (.comp (.v i) (.l a) .no (.v (.new (.cp (.var i)))))) (rwD rs) := ve_comp (c := rowL) (g := rowL) (sr_l ha) hl fun g hg => by
  show wpI noX _ _ _
  have hv : (((v.set i .un).set i (.dat (rowL g)))[i]? : Option Tr) = some (.dat (.lst (g.map iD))) := by rw [List.getElem?_set_self (by rw [List.length_set]; exact hi)]; rfl
  exact wi_v (ve_cpL (ve_var hv))
end LB
/-! a step, told by what it leaves -/
namespace LB
open PySem L2 DL DD
/-- what a step that goes on leaves -/
structure Went (h h' : HM) (w g : Nat) : Prop where
  gates : h'.gates = h.gates
  rows : h'.rows = h.rows
  sd : ∀ w', h'.sd w' = if w' = w then (beh h w g).1 else h.sd w'
  st : ∀ g', h'.st g' = if g' = g then (beh h w g).2 else h.st g'
theorem stp_go {h : HM} (ok : HOk h) {w g : Nat} (hw : w < h.rows.length) (e : (h.row w)[(h.sd w).d]? = some g) (nv : vain h w = false) : (stp h w).2 = ⟨w, some g, wS (h.sd w).w⟩ ∧ Went h (stp h w).1 w g := by
  have hg := (ok.mem hw e).1
  have hws : w < h.stands.length := by rw [ok.sl]; exact hw
  have hgs : g < h.stores.length := by rw [ok.tl]; exact hg
  have es : stp h w = ({ h with stands := h.stands.set w (beh h w g).1, stores := h.stores.set g (beh h w g).2 }, ⟨w, some g, wS (h.sd w).w⟩) := by
    unfold stp
    rw [ahd_of e]
    dsimp only
    rw [if_neg (by rw [nv]; decide)]
  rw [es]
  exact ⟨rfl, rfl, rfl, fun w' => getD_set hws, fun g' => getD_set hgs⟩
theorem stp_wait {h : HM} {w g : Nat} (e : (h.row w)[(h.sd w).d]? = some g) (nv : vain h w = true) : stp h w = (h, ⟨w, some g, "wait"⟩) := by
  unfold stp
  rw [ahd_of e]
  dsimp only
  rw [if_pos nv]
theorem stp_end {h : HM} {w : Nat} (e : (h.row w)[(h.sd w).d]? = none) : stp h w = (h, ⟨w, none, "end"⟩) := by
  unfold stp ahd
  rw [e]
theorem Went.row {h h' : HM} {w g : Nat} (a : Went h h' w g) (x : Nat) : h'.row x = h.row x := by unfold HM.row; rw [a.rows]
theorem Went.gt {h h' : HM} {w g : Nat} (a : Went h h' w g) (x : Nat) : h'.gt x = h.gt x := by unfold HM.gt; rw [a.gates]
theorem vain_look {h : HM} {w g : Nat} (e : (h.row w)[(h.sd w).d]? = some g) (ew : (h.sd w).w = .look) : vain h w = decide (side (h.st g) ≠ csg (vis h w g)) := by
  unfold vain; rw [ahd_of e, ew]
theorem vain_hear {h : HM} {w g : Nat} (e : (h.row w)[(h.sd w).d]? = some g) (ew : (h.sd w).w = .hear) : vain h w = decide (bxAt (h.st g) (plc h w g) (bnr (h.sd w).t (vis h w g) (h.gt g).2.length) ≠ rsg (vis h w g)) := by
  unfold vain; rw [ahd_of e, ew]
theorem vain_no {h : HM} {w : Nat} (e1 : (h.sd w).w ≠ .look) (e2 : (h.sd w).w ≠ .hear) : vain h w = false := by
  unfold vain
  cases z : ahd h w with
  | none => rfl
  | some y =>
    obtain ⟨g, wd⟩ := y
    obtain ⟨_, b⟩ := ahd_eq z
    cases wd <;> first | rfl | exact absurd b e1 | exact absurd b e2
theorem beh_cnt {h : HM} {w g : Nat} {l s : Int} (e : h.st g = .cnt l s) : beh h w g = behC (h.sd w) l s (h.gt g).2.length (vis h w g) := by unfold beh; rw [e]
theorem beh_row {h : HM} {w g : Nat} {bs : List (List Int)} (e : h.st g = .row bs) : beh h w g = behR (h.sd w) bs (plc h w g) (vis h w g) := by unfold beh; rw [e]
/-- an order of the first n -/
structure Ordr (n : Nat) (l : List Nat) : Prop where
  len : l.length = n
  nd : l.Nodup
  lt : ∀ x ∈ l, x < n
theorem Ordr.mem {n : Nat} {l : List Nat} (h : Ordr n l) {w : Nat} (hw : w < n) : w ∈ l := by
  refine Classical.byContradiction fun z => ?_
  have := nd_le n (w :: l) (List.nodup_cons.mpr ⟨z, h.nd⟩) fun x hx => by
    rcases List.mem_cons.mp hx with y | y
    · rw [y]; exact hw
    · exact h.lt x y
  rw [List.length_cons, h.len] at this
  omega
theorem nd_take {l : List Nat} (nd : l.Nodup) {j : Nat} {w : Nat} (e : l[j]? = some w) : w ∉ l.take j := fun z => by
  obtain ⟨i, hi⟩ := List.getElem?_of_mem z
  have hi2 := (List.getElem?_eq_some_iff.mp hi).1
  rw [List.length_take] at hi2
  rw [List.getElem?_take, if_pos (by omega)] at hi
  obtain ⟨a, b⟩ := List.getElem?_eq_some_iff.mp hi
  obtain ⟨c, d⟩ := List.getElem?_eq_some_iff.mp e
  have := (List.pairwise_iff_getElem.mp nd) i j a c (by omega)
  exact this (by rw [b, d])
theorem mem_take_succ {l : List Nat} {j w x : Nat} (e : l[j]? = some w) : x ∈ l.take (j + 1) ↔ x ∈ l.take j ∨ x = w := by
  rw [take_snoc e, List.mem_append, List.mem_singleton]
end LB
/-! orders, a step as due: k05 and k06 -/
namespace LB
open PySem L2 DL DD
def g__law_order (C : Addr) : Sg := fnS "_law_order" 2 (fun a : Int × Nat => [.int a.1, iD a.2]) (fun a => a.2 ≤ 100) fun a d => ∃ l, d = nL l ∧ Ordr a.2 l
def b__law_order (C : Addr) : Ss := (.cons (.own 2 (.rng (.var 1))) (.cons (.own 3 (.lst .nil)) (.cons (.for (.v 4) (.r (.var 1)) (.cons (.appPop 3 2 (.bin .mod (.call (g__law_mixed C) (.cons (.var 0) (.cons (.bin .add (.var 4) (.int 1)) .nil))) (.f1 .len (.var 2)))) .nil)) (.cons (.frz 3) (.cons (.ret (.var 3)) .nil)))))
theorem mem_erase {α : Type} : ∀ {l : List α} {k : Nat} {x : α}, x ∈ l.eraseIdx k → x ∈ l
  | a :: l, 0, x, h => List.mem_cons_of_mem _ h
  | a :: l, k + 1, x, h => by
    rcases List.mem_cons.mp (show x ∈ a :: l.eraseIdx k from h) with z | z
    · rw [z]; exact List.mem_cons_self
    · exact List.mem_cons_of_mem _ (mem_erase z)
/-- one out of the second list goes behind the first -/
theorem nd_move {f l : List Nat} {k m : Nat} (nd : (f ++ l).Nodup) (e : l[k]? = some m) : (f ++ [m] ++ l.eraseIdx k).Nodup ∧ ∀ x, x ∈ f ++ [m] ++ l.eraseIdx k → x ∈ f ++ l := by
  have hp : ∀ {l : List Nat} {k : Nat}, l[k]? = some m → List.Perm l (m :: l.eraseIdx k) := by
    intro l
    induction l with
    | nil => intro k e; simp at e
    | cons a l ih =>
      intro k e
      cases k with
      | zero => simp at e; subst e; exact List.Perm.refl _
      | succ k => exact (List.Perm.cons a (ih (by simpa using e))).trans (List.Perm.swap m a _)
  have p : List.Perm (f ++ l) (f ++ [m] ++ l.eraseIdx k) := by
    rw [List.append_assoc]
    exact List.Perm.append_left f (hp e)
  exact ⟨p.nodup_iff.mp nd, fun x hx => p.mem_iff.mpr hx⟩
theorem ok__law_order (C : Addr) : FnD (g__law_order C) 2 5 [] (b__law_order C) := fnS_ok (fun _ => rfl) fun ⟨c, n⟩ hn P rt nx => by
  have hn : n ≤ 100 := hn
  have rt : ∀ l u, 2 ≤ u.length → Ordr n l → P.rt (.dat (nL l)) u := fun l u a b => rt _ u a ⟨l, rfl, b⟩
  unfold b__law_order
  change wpSs noX [.dat (.int c), .dat (iD n), .un, .un, .un] _ _
  refine wp_cut (fun u => u = [.dat (.int c), .dat (iD n), oL (List.range n), .un, .un]) ?_ ?_
  · show wpN _ _ _ _
    rw [wpN]
    refine (ve_var rfl : VE noX _ (.var 1) (iD n)).use ?_
    show 0 ≤ _ ∧ _ ∧ _
    rw [Int.toNat_natCast]
    exact ⟨by omega, by omega, rfl⟩
  rintro u rfl
  refine wp_cut (fun u => u = [.dat (.int c), .dat (iD n), oL (List.range n), oL [], .un]) rfl ?_
  rintro u rfl
  refine w_for (c := iD) (List.range n) (sr_r (ve_var rfl) (by omega)) (fun k u => ∃ l f a, u = [.dat (.int c), .dat (iD n), oL l, oL f, a] ∧ l.length + k = n ∧ f.length = k ∧ (f ++ l).Nodup ∧ ∀ x ∈ f ++ l, x < n) ⟨List.range n, [], _, rfl, by simp, rfl, List.nodup_range, fun x hx => List.mem_range.mp hx⟩ ?_ ?_
  · rintro k x u hx ⟨l, f, a, rfl, h1, h2, h3, h4⟩
    have hk : k < n := by
      have := (List.getElem?_eq_some_iff.mp hx).1
      simpa using this
    show wpSs noX [_, _, _, _, .dat (iD x)] _ _
    have b1 := Int.emod_nonneg (mixF c ((x : Int) + 1)) (show (l.length : Int) ≠ 0 by omega)
    have b2 := Int.emod_lt_of_pos (mixF c ((x : Int) + 1)) (show (0 : Int) < l.length by omega)
    generalize hi : (mixF c ((x : Int) + 1) % (l.length : Int)).toNat = i
    have hil : i < l.length := by omega
    have he : l[i]? = some (l.getD i 0) := getD_lt hil
    obtain ⟨q1, q2⟩ := nd_move h3 he
    refine ⟨((f.map iD).map .dat), rfl, ((l.map iD).map .dat), rfl, ?_⟩
    have hlen : VE noX [.dat (.int c), .dat (iD n), oL l, oL f, .dat (iD x)] (.f1 .len (.var 2)) (iD l.length) := by
      show wpE _ _ _ _
      walk_at "wps"
      rw [List.length_map, List.length_map]
    refine (ve_mod (j := ((l.length : Nat) : Int)) (ve_mixed (ve_var rfl) (ve_add (i := ((x : Nat) : Int)) (ve_var rfl) ve_int) (by simp [ownRoots, rootE])) hlen (by omega)).use ?_
    refine ⟨by omega, by rw [List.length_map, List.length_map]; omega, by rw [List.length_map, List.length_map]; omega, by decide, iD (l.getD i 0), by rw [hi]; exact get_map (get_map he), ?_⟩
    rw [hi, erase_map, erase_map, oL_snoc]
    refine ⟨l.eraseIdx i, f ++ [l.getD i 0], .dat (iD x), rfl, ?_, ?_, q1, fun y hy => h4 y (q2 y hy)⟩
    · rw [List.length_eraseIdx, if_pos hil]; omega
    · rw [List.length_append, h2]; rfl
  · rintro u ⟨l, f, a, rfl, h1, h2, h3, h4⟩
    rw [List.length_range] at h1 h2
    have hl : l = [] := List.length_eq_zero_iff.mp (by omega)
    subst hl
    rw [List.append_nil] at h3 h4
    refine w_frz (ds := f.map iD) rfl ?_
    exact w_ret (ve_var rfl) (rt f _ (by simp) ⟨h2, h3, h4⟩)
theorem wc_order {C : Addr} {c : Int} {n : Nat} (hn : n ≤ 100) {X : Str → DD.Env → Prop} {v : DD.Env} {a b : E} {Q : Tr → Prop} (ha : VE X v a (.int c)) (hb : VE X v b (iD n)) (ho : ownRoots v (.cons a (.cons b .nil)) = []) (q : ∀ l, Ordr n l → Q (.dat (nL l))) : wpE X v (.call (g__law_order C) (.cons a (.cons b .nil))) Q := wc_S (c, n) (ves2 ha hb) ho hn (inj2 intD_inj natI) fun d ⟨l, e, h⟩ => by rw [e]; exact q l h
structure DnA where
  h : HM
  w : Nat
  g : Nat
  s : Str
def dnD (C : Addr) (a : DnA) : List Dt := [hallD C a.h, iD a.w, iD a.g, .str a.s]
theorem dn_inj {C : Addr} {a : DnA} : ∀ b, dnD C b = dnD C a → b = a := fun b h => by
  obtain ⟨a1, a2, a3, a4⟩ := a
  obtain ⟨b1, b2, b3, b4⟩ := b
  injection h with h1 h
  injection h with h2 h
  injection h with h3 h
  injection h with h4 _
  obtain rfl := hallD_inj h1
  obtain rfl := natI h2
  obtain rfl := natI h3
  obtain rfl := str_inj h4
  rfl
def g__law_done (C : Addr) : Sg := fnS "_law_done" 7 (dnD C) (fun a => HOk a.h ∧ a.w < a.h.rows.length ∧ (stp a.h a.w).2 = ⟨a.w, some a.g, a.s⟩ ∧ PyData.canLay0 (.str a.s) = true) fun a d => d = hallD C (stp a.h a.w).1
def b__law_done (C : Addr) : Ss := (.cons (.set (.v 4) (.call (g_stepped C) (.cons (.var 0) (.cons (.var 1) .nil)))) (.cons (.ite (.or (.not (.isi (.var 4) "tuple")) (.cmp .ne (.f1 .len (.var 4)) (.int 2))) (.cons (.ret .non) .nil) .nil) (.cons (.set (.v 5) (.ix (.var 4) (.int 1))) (.cons (.ite (.or (.not (.isi (.var 5) "tuple")) (.cmp .ne (.var 5) (.tup (.cons (.var 1) (.cons (.var 2) (.cons (.var 3) .nil)))))) (.cons (.ret .non) .nil) .nil) (.cons (.ite (.or (.not (.call (g__law_whole C) (.cons (.ix (.var 5) (.int 0)) .nil))) (.not (.call (g__law_whole C) (.cons (.ix (.var 5) (.int 1)) .nil)))) (.cons (.ret .non) .nil) .nil) (.cons (.ret (.ix (.var 4) (.int 0))) .nil))))))
theorem ok__law_done (C : Addr) : FnD (g__law_done C) 4 6 [] (b__law_done C) := fnS_ok (fun _ => rfl) fun ⟨h, w, g, s⟩ hi P rt nx => by
  obtain ⟨ok, hw, ht, hs⟩ : HOk h ∧ w < h.rows.length ∧ (stp h w).2 = ⟨w, some g, s⟩ ∧ PyData.canLay0 (.str s) = true := hi
  have rt : ∀ d u, 4 ≤ u.length → d = hallD C (stp h w).1 → P.rt (.dat d) u := rt
  unfold b__law_done
  change wpSs noX [.dat (hallD C h), .dat (iD w), .dat (iD g), .dat (.str s), .un, .un] _ _
  refine w_set (d := .tup [hallD C (stp h w).1, .tup [iD w, iD g, .str s]]) ((ve_stepped ok hw (ve_var rfl) (ve_var rfl) rfl).to (by unfold stpD; rw [ht]; rfl)) ?_
  refine w_if1f (ve_or_ff (ve_not_t (ve_isi (ve_var rfl) rfl (by decide +kernel))) (ve_neIf (ve_lenT (ve_var rfl)) ve_int)) ?_
  refine w_set (ve_ixT1 (ve_var rfl)) ?_
  refine w_if1f (ve_or_ff (ve_not_t (ve_isi (ve_var rfl) rfl (by decide +kernel))) (ve_neR (ve_var rfl) (ve_tup (ves3 (ve_var rfl) (ve_var rfl) (ve_var rfl))) (.tup (fa3 .int .int (.str hs))))) ?_
  refine w_if1f (ve_or_ff (ve_not_t (ve_wholeI (ve_ixT0 (ve_var rfl)) rfl)) (ve_not_t (ve_wholeI (ve_ixT1 (ve_var rfl)) rfl))) ?_
  exact w_ret (ve_ixT0 (ve_var rfl)) (rt _ _ (by simp) rfl)
theorem ve_done {C : Addr} {h : HM} {w g : Nat} {s : Str} (ok : HOk h) (hw : w < h.rows.length) (ht : (stp h w).2 = ⟨w, some g, s⟩) (hs : PyData.canLay0 (.str s) = true) {X : Str → DD.Env → Prop} {v : DD.Env} {a b c : E} (ha : VE X v a (hallD C h)) (hb : VE X v b (iD w)) (hc : VE X v c (iD g)) (ho : ownRoots v (.cons a (.cons b (.cons c (.cons (.str s) .nil)))) = []) : VE X v (.call (g__law_done C) (.cons a (.cons b (.cons c (.cons (.str s) .nil))))) (hallD C (stp h w).1) := vc_S ⟨h, w, g, s⟩ (ves_cons ha (ves3 hb hc ve_str)) ho ⟨ok, hw, ht, hs⟩ dn_inj fun d q => q
theorem bxL_dok (b : Bx) : DOk 8 (bxL b) := by
  cases b with
  | cnt l s => exact .lst (fa2 .int .int)
  | row bs => exact .lst (fam fun b _ => .lst (fam fun _ _ => .int))
theorem bxL_inj {a b : Bx} (h : bxL a = bxL b) : a = b ∨ (bits a = bits b) := by
  cases a with
  | cnt l s => cases b with
    | cnt l' s' =>
      unfold bxL at h
      injection h with h
      injection h with h1 h
      injection h with h2 _
      exact .inl (by rw [intD_inj h1, intD_inj h2])
    | row bs =>
      unfold bxL at h
      injection h with h
      cases bs with
      | nil => cases h
      | cons b bs => injection h with h1 _; cases h1
  | row bs => cases b with
    | cnt l s =>
      unfold bxL at h
      injection h with h
      cases bs with
      | nil => cases h
      | cons b bs => injection h with h1 _; cases h1
    | row bs' =>
      have := lst_inj (f := fun b : List Int => Dt.lst (b.map .int)) (lst_inj intD_inj) h
      exact .inl (by rw [this])
end LB
/-! a meeting of all at a gate that counts -/
namespace K05
open PySem L2 DL DD LB
/-- all go the same row through two gates of whom all are members -/
structure All (h : HM) (n : Nat) (r : List Nat) (k : Bool) : Prop where
  ok : HOk h
  rows : h.rows = List.replicate n r
  gl : h.gates.length = 2
  kind : ∀ g, g < 2 → (h.gt g).1 = k
  mem : ∀ g, g < 2 → (h.gt g).2.length = n
theorem All.rl {h : HM} {n : Nat} {r : List Nat} {k : Bool} (a : All h n r k) : h.rows.length = n := by rw [a.rows, List.length_replicate]
theorem All.row {h : HM} {n : Nat} {r : List Nat} {k : Bool} (a : All h n r k) {w : Nat} (hw : w < n) : h.row w = r := by
  unfold HM.row; rw [a.rows]; exact getD_some (by rw [List.getElem?_replicate, if_pos hw])
theorem All.go {h h' : HM} {n : Nat} {r : List Nat} {k : Bool} (a : All h n r k) {w g : Nat} (b : Went h h' w g) (ok : HOk h') : All h' n r k := ⟨ok, by rw [b.rows, a.rows], by rw [b.gates, a.gl], fun x hx => by rw [b.gt]; exact a.kind x hx, fun x hx => by rw [b.gt]; exact a.mem x hx⟩
def cntTo (r : List Nat) (k g : Nat) : Nat := (r.take k).count g
theorem All.vis {h : HM} {n : Nat} {r : List Nat} {k : Bool} (a : All h n r k) {w d g : Nat} (hw : w < n) (hd : (h.sd w).d = d) : vis h w g = cntTo r d g + 1 := by
  unfold LB.vis psd cntTo; rw [a.row hw, hd]
/-- the gate's boxes and the other gate's -/
structure Bxs (h : HM) (g : Nat) (b o : Bx) : Prop where
  here : h.st g = b
  other : h.st (1 - g) = o
theorem Bxs.go {h h' : HM} {g w : Nat} {b o : Bx} (hg : g < 2) (a : Bxs h g b o) (x : Went h h' w g) : Bxs h' g (beh h w g).2 o := ⟨by rw [x.st, if_pos rfl], by rw [x.st, if_neg (by omega)]; exact a.other⟩
def sdC (l : List Nat) (n k j w : Nat) : Sd := if w ∈ l.take j then (if j = n ∧ w = l.getD (n - 1) 0 then ⟨k, .fill, 0⟩ else ⟨k, .look, 0⟩) else ⟨k, .come, 0⟩
/-- j of them have come -/
structure Coming (h : HM) (n : Nat) (r l : List Nat) (k g : Nat) (s : Int) (o : Bx) (j : Nat) : Prop where
  a : All h n r false
  hl : Ordr n l
  hg : g < 2
  e : r[k]? = some g
  hs : s = csg (cntTo r k g)
  sd : ∀ w, w < n → h.sd w = sdC l n k j w
  b : Bxs h g (.cnt ((n : Int) - (j : Int)) s) o
theorem csg_ne (v : Nat) : csg (v + 1) = 1 - csg v ∧ (csg v = 0 ∨ csg v = 1) ∧ csg v ≠ csg (v + 1) := by
  unfold csg; omega
theorem sdC_d (l : List Nat) (n k j w : Nat) : (sdC l n k j w).d = k := by unfold sdC; split <;> (try split) <;> rfl
section
variable {h : HM} {n : Nat} {r l : List Nat} {k g : Nat} {s : Int} {o : Bx} {j : Nat}
theorem Coming.at_ (c : Coming h n r l k g s o j) {w : Nat} (hw : w < n) : (h.row w)[(h.sd w).d]? = some g := by
  rw [c.a.row hw, c.sd w hw, sdC_d]; exact c.e
theorem Coming.vis (c : Coming h n r l k g s o j) {w : Nat} (hw : w < n) : vis h w g = cntTo r k g + 1 := c.a.vis hw (by rw [c.sd w hw, sdC_d])
/-- one more comes -/
theorem Coming.come (c : Coming h n r l k g s o j) {w : Nat} (e : l[j]? = some w) : (stp h w).2 = ⟨w, some g, "come"⟩ ∧ Coming (stp h w).1 n r l k g s o (j + 1) := by
  have hj : j < n := by have := (List.getElem?_eq_some_iff.mp e).1; rw [c.hl.len] at this; exact this
  have hw : w < n := c.hl.lt w (List.mem_of_getElem? e)
  have hw' : w < h.rows.length := by rw [c.a.rl]; exact hw
  have hno := nd_take c.hl.nd e
  have hs : h.sd w = ⟨k, .come, 0⟩ := by rw [c.sd w hw]; unfold sdC; rw [if_neg hno]
  have nv : vain h w = false := vain_no (by rw [hs]; exact nofun) (by rw [hs]; exact nofun)
  obtain ⟨t, x⟩ := stp_go c.a.ok hw' (c.at_ hw) nv
  have bh := beh_cnt (w := w) c.b.here
  have ok' := stp_ok c.a.ok hw'
  rw [hs] at t
  refine ⟨t, c.a.go x ok', c.hl, c.hg, c.e, c.hs, fun w' hw'' => ?_, ?_⟩
  · rw [x.sd]
    by_cases z : w' = w
    · rw [if_pos z, bh, hs]
      subst z
      unfold behC sdC
      dsimp only
      rw [if_pos ((mem_take_succ e).mpr (.inr rfl))]
      by_cases y : j + 1 = n
      · rw [if_pos (by omega), if_pos ⟨y, by rw [show n - 1 = j by omega]; exact (getD_some e).symm⟩]
      · rw [if_neg (by omega), if_neg fun q => y q.1]
    · rw [if_neg z, c.sd w' hw'']
      unfold sdC
      by_cases y : w' ∈ l.take j
      · rw [if_pos y, if_pos ((mem_take_succ e).mpr (.inl y)), if_neg (fun q => by omega), if_neg fun q => z (by rw [q.2, show n - 1 = j by omega]; exact getD_some e)]
      · rw [if_neg y, if_neg fun q => ((mem_take_succ e).mp q).elim y z]
  · have := c.b.go c.hg x
    rw [bh, hs] at this
    unfold behC at this
    dsimp only at this
    by_cases y : (n : Int) - (j : Int) = 1
    · rw [if_pos y] at this
      rw [show (n : Int) - ((j + 1 : Nat) : Int) = 0 by omega]
      exact this
    · rw [if_neg y] at this
      rw [show (n : Int) - ((j + 1 : Nat) : Int) = (n : Int) - (j : Int) - 1 by omega]
      exact this
/-- one that has come looks in vain -/
theorem Coming.wait (c : Coming h n r l k g s o j) {w i : Nat} (e : l[i]? = some w) (hi : i < j) (hl : i ≠ n - 1) : stp h w = (h, ⟨w, some g, "wait"⟩) := by
  have hw : w < n := c.hl.lt w (List.mem_of_getElem? e)
  have hin : i < n := by have := (List.getElem?_eq_some_iff.mp e).1; rw [c.hl.len] at this; exact this
  have hm : w ∈ l.take j := List.mem_of_getElem? (i := i) (by rw [List.getElem?_take, if_pos hi]; exact e)
  have hs : h.sd w = ⟨k, .look, 0⟩ := by
    rw [c.sd w hw]; unfold sdC
    rw [if_pos hm, if_neg]
    rintro ⟨_, q⟩
    have hlast : l[n - 1]? = some w := by rw [q]; exact getD_lt (by rw [c.hl.len]; omega)
    obtain ⟨a1, a2⟩ := List.getElem?_eq_some_iff.mp e
    obtain ⟨b1, b2⟩ := List.getElem?_eq_some_iff.mp hlast
    exact (List.pairwise_iff_getElem.mp c.hl.nd) i (n - 1) a1 b1 (by omega) (by rw [a2, b2])
  refine stp_wait (c.at_ hw) ?_
  rw [vain_look (c.at_ hw) (by rw [hs]), c.vis hw, c.b.here]
  refine decide_eq_true ?_
  show s ≠ _
  rw [c.hs]
  exact (csg_ne _).2.2
end
def sdT (x : Wo) (l : List Nat) (n k w : Nat) : Sd := if w = l.getD (n - 1) 0 then ⟨k, x, 0⟩ else ⟨k, .look, 0⟩
/-- all have come; the last one fills, turns, or has turned -/
structure Turning (h : HM) (n : Nat) (r l : List Nat) (k g : Nat) (s : Int) (o : Bx) (x : Wo) (lf sv : Int) : Prop where
  a : All h n r false
  n0 : 0 < n
  hl : Ordr n l
  hg : g < 2
  e : r[k]? = some g
  hs : s = csg (cntTo r k g)
  sd : ∀ w, w < n → h.sd w = sdT x l n k w
  b : Bxs h g (.cnt lf sv) o
section
variable {h : HM} {n : Nat} {r l : List Nat} {k g : Nat} {s : Int} {o : Bx} {x : Wo} {lf sd : Int}
theorem sdT_d (x : Wo) (l : List Nat) (n k w : Nat) : (sdT x l n k w).d = k := by unfold sdT; split <;> rfl
theorem Coming.all (c : Coming h n r l k g s o n) (h0 : 0 < n) : Turning h n r l k g s o .fill 0 s := ⟨c.a, h0, c.hl, c.hg, c.e, c.hs, fun w hw => by
  rw [c.sd w hw]
  unfold sdC sdT
  rw [if_pos (by rw [List.take_of_length_le (by rw [c.hl.len]; exact Nat.le_refl _)]; exact c.hl.mem hw)]
  by_cases z : w = l.getD (n - 1) 0
  · rw [if_pos ⟨rfl, z⟩, if_pos z]
  · rw [if_neg fun q => z q.2, if_neg z], by have := c.b; rwa [Int.sub_self] at this⟩
theorem Turning.at_ (c : Turning h n r l k g s o x lf sd) {w : Nat} (hw : w < n) : (h.row w)[(h.sd w).d]? = some g := by
  rw [c.a.row hw, c.sd w hw, sdT_d]; exact c.e
theorem Turning.vis (c : Turning h n r l k g s o x lf sd) {w : Nat} (hw : w < n) : vis h w g = cntTo r k g + 1 := c.a.vis hw (by rw [c.sd w hw, sdT_d])
theorem Turning.last (c : Turning h n r l k g s o x lf sd) : l[n - 1]? = some (l.getD (n - 1) 0) ∧ l.getD (n - 1) 0 < n := by
  have e : l[n - 1]? = some (l.getD (n - 1) 0) := getD_lt (by rw [c.hl.len]; have := c.n0; omega)
  exact ⟨e, c.hl.lt _ (List.mem_of_getElem? e)⟩
theorem Turning.go (c : Turning h n r l k g s o x lf sd) {y : Wo} {lf' sd' : Int} (hx : x = .fill ∨ x = .turn) (hb : behC ⟨k, x, 0⟩ lf sd (h.gt g).2.length (cntTo r k g + 1) = (⟨k, y, 0⟩, .cnt lf' sd')) : (stp h (l.getD (n - 1) 0)).2 = ⟨l.getD (n - 1) 0, some g, wS x⟩ ∧ Turning (stp h (l.getD (n - 1) 0)).1 n r l k g s o y lf' sd' := by
  obtain ⟨e, hw⟩ := c.last
  generalize hwq : l.getD (n - 1) 0 = w at *
  have hw' : w < h.rows.length := by rw [c.a.rl]; exact hw
  have hs : h.sd w = ⟨k, x, 0⟩ := by rw [c.sd w hw]; unfold sdT; rw [if_pos hwq.symm]
  have nv : vain h w = false := vain_no (by rw [hs]; rcases hx with z | z <;> rw [z] <;> exact nofun) (by rw [hs]; rcases hx with z | z <;> rw [z] <;> exact nofun)
  obtain ⟨t, q⟩ := stp_go c.a.ok hw' (c.at_ hw) nv
  have bh := beh_cnt (w := w) c.b.here
  rw [hs, c.vis hw, hb] at bh
  rw [hs] at t
  refine ⟨t, c.a.go q (stp_ok c.a.ok hw'), c.n0, c.hl, c.hg, c.e, c.hs, fun w' hw'' => ?_, ?_⟩
  · rw [q.sd, bh]
    unfold sdT
    by_cases z : w' = w
    · rw [if_pos z, if_pos (by rw [hwq]; exact z)]
    · rw [if_neg z, if_neg (by rw [hwq]; exact z), c.sd w' hw'']
      unfold sdT
      rw [if_neg (by rw [hwq]; exact z)]
  · have := c.b.go c.hg q
    rwa [bh] at this
theorem Turning.fill (c : Turning h n r l k g s o .fill lf sd) : (stp h (l.getD (n - 1) 0)).2 = ⟨l.getD (n - 1) 0, some g, "fill"⟩ ∧ Turning (stp h (l.getD (n - 1) 0)).1 n r l k g s o .turn n sd := c.go (.inl rfl) (by rw [c.a.mem g c.hg]; rfl)
theorem Turning.turn (c : Turning h n r l k g s o .turn lf sd) : (stp h (l.getD (n - 1) 0)).2 = ⟨l.getD (n - 1) 0, some g, "turn"⟩ ∧ Turning (stp h (l.getD (n - 1) 0)).1 n r l k g s o .pass lf (csg (cntTo r k g + 1)) := c.go (.inr rfl) rfl
theorem Turning.wait (c : Turning h n r l k g s o x lf s) {w i : Nat} (e : l[i]? = some w) (hi : i < n - 1) : stp h w = (h, ⟨w, some g, "wait"⟩) := by
  have hw : w < n := c.hl.lt w (List.mem_of_getElem? e)
  have hs : h.sd w = ⟨k, .look, 0⟩ := by
    rw [c.sd w hw]; unfold sdT
    rw [if_neg]
    intro q
    have hlast := c.last.1
    rw [← q] at hlast
    obtain ⟨a1, a2⟩ := List.getElem?_eq_some_iff.mp e
    obtain ⟨b1, b2⟩ := List.getElem?_eq_some_iff.mp hlast
    exact (List.pairwise_iff_getElem.mp c.hl.nd) i (n - 1) a1 b1 (by omega) (by rw [a2, b2])
  refine stp_wait (c.at_ hw) ?_
  rw [vain_look (c.at_ hw) (by rw [hs]), c.vis hw, c.b.here]
  refine decide_eq_true ?_
  show s ≠ _
  rw [c.hs]
  exact (csg_ne _).2.2
end
/-- i of the order m have passed; the one that turned needn't look -/
structure Passing (h : HM) (n : Nat) (r l m : List Nat) (k g : Nat) (o : Bx) (i : Nat) : Prop where
  a : All h n r false
  n0 : 0 < n
  hl : Ordr n l
  hm : Ordr n m
  hg : g < 2
  e : r[k]? = some g
  sd : ∀ w, w < n → h.sd w = if w ∈ m.take i then ⟨k + 1, .come, 0⟩ else sdT .pass l n k w
  b : Bxs h g (.cnt n (csg (cntTo r k g + 1))) o
section
variable {h : HM} {n : Nat} {r l m : List Nat} {k g : Nat} {s : Int} {o : Bx} {x : Wo} {lf sd : Int} {i : Nat}
theorem Turning.pass (c : Turning h n r l k g s o .pass n (csg (cntTo r k g + 1))) (hm : Ordr n m) : Passing h n r l m k g o 0 := ⟨c.a, c.n0, c.hl, hm, c.hg, c.e, fun w hw => by rw [if_neg (by simp)]; exact c.sd w hw, c.b⟩
theorem Passing.at_ (c : Passing h n r l m k g o i) {w : Nat} (hw : w < n) (hn : w ∉ m.take i) : (h.row w)[(h.sd w).d]? = some g := by
  rw [c.a.row hw, c.sd w hw, if_neg hn, sdT_d]; exact c.e
theorem Passing.vis (c : Passing h n r l m k g o i) {w : Nat} (hw : w < n) (hn : w ∉ m.take i) : vis h w g = cntTo r k g + 1 := c.a.vis hw (by rw [c.sd w hw, if_neg hn, sdT_d])
/-- who looks finds its sign -/
theorem Passing.look (c : Passing h n r l m k g o i) {w : Nat} (e : m[i]? = some w) (hl : w ≠ l.getD (n - 1) 0) : (stp h w).2 = ⟨w, some g, "look"⟩ ∧ HOk (stp h w).1 ∧ Went h (stp h w).1 w g ∧ beh h w g = (⟨k, .pass, 0⟩, .cnt n (csg (cntTo r k g + 1))) := by
  have hw : w < n := c.hm.lt w (List.mem_of_getElem? e)
  have hw' : w < h.rows.length := by rw [c.a.rl]; exact hw
  have hn := nd_take c.hm.nd e
  have hs : h.sd w = ⟨k, .look, 0⟩ := by rw [c.sd w hw, if_neg hn]; unfold sdT; rw [if_neg hl]
  have nv : vain h w = false := by
    rw [vain_look (c.at_ hw hn) (by rw [hs]), c.vis hw hn, c.b.here]
    exact decide_eq_false fun z => z rfl
  obtain ⟨t, q⟩ := stp_go c.a.ok hw' (c.at_ hw hn) nv
  have bh := beh_cnt (w := w) c.b.here
  rw [hs] at t bh
  exact ⟨t, stp_ok c.a.ok hw', q, bh⟩
/-- whose next step is pass passes -/
theorem pass_go {h' : HM} (c : Passing h n r l m k g o i) {w : Nat} (e : m[i]? = some w) (a' : All h' n r false) (hs : ∀ w', w' < n → h'.sd w' = if w' = w then ⟨k, .pass, 0⟩ else h.sd w') (b' : Bxs h' g (.cnt n (csg (cntTo r k g + 1))) o) : (stp h' w).2 = ⟨w, some g, "pass"⟩ ∧ Passing (stp h' w).1 n r l m k g o (i + 1) := by
  have hw : w < n := c.hm.lt w (List.mem_of_getElem? e)
  have hw' : w < h'.rows.length := by rw [a'.rl]; exact hw
  have hsw : h'.sd w = ⟨k, .pass, 0⟩ := by rw [hs w hw, if_pos rfl]
  have at' : (h'.row w)[(h'.sd w).d]? = some g := by rw [a'.row hw, hsw]; exact c.e
  have nv : vain h' w = false := vain_no (by rw [hsw]; exact nofun) (by rw [hsw]; exact nofun)
  obtain ⟨t, q⟩ := stp_go a'.ok hw' at' nv
  have bh := beh_cnt (w := w) b'.here
  rw [hsw] at t bh
  refine ⟨t, a'.go q (stp_ok a'.ok hw'), c.n0, c.hl, c.hm, c.hg, c.e, fun w' hw'' => ?_, ?_⟩
  · rw [q.sd, bh]
    by_cases z : w' = w
    · rw [if_pos z, if_pos ((mem_take_succ e).mpr (.inr z))]; rfl
    · rw [if_neg z, hs w' hw'', if_neg z, c.sd w' hw'']
      by_cases y : w' ∈ m.take i
      · rw [if_pos y, if_pos ((mem_take_succ e).mpr (.inl y))]
      · rw [if_neg y, if_neg fun v => ((mem_take_succ e).mp v).elim y z]
  · have := b'.go c.hg q
    rw [bh] at this
    exact this
theorem Passing.last (c : Passing h n r l m k g o i) {w : Nat} (e : m[i]? = some w) (hl : w = l.getD (n - 1) 0) : (stp h w).2 = ⟨w, some g, "pass"⟩ ∧ Passing (stp h w).1 n r l m k g o (i + 1) := by
  have hw : w < n := c.hm.lt w (List.mem_of_getElem? e)
  have hn := nd_take c.hm.nd e
  refine pass_go c e c.a (fun w' hw' => ?_) c.b
  by_cases z : w' = w
  · rw [if_pos z, z, c.sd w hw, if_neg hn]; unfold sdT; rw [if_pos hl]
  · rw [if_neg z]
theorem Passing.next (c : Passing h n r l m k g o i) {w : Nat} (e : m[i]? = some w) (hl : w ≠ l.getD (n - 1) 0) : (stp (stp h w).1 w).2 = ⟨w, some g, "pass"⟩ ∧ Passing (stp (stp h w).1 w).1 n r l m k g o (i + 1) := by
  obtain ⟨_, ok, q, bh⟩ := c.look e hl
  refine pass_go c e (c.a.go q ok) (fun w' hw' => ?_) ?_
  · rw [q.sd, bh]
  · have := c.b.go c.hg q
    rw [bh] at this
    exact this
end
/-- between meetings: k of them were -/
structure Btw (h : HM) (n : Nat) (r : List Nat) (k : Nat) : Prop where
  a : All h n r false
  sd : ∀ w, w < n → h.sd w = ⟨k, .come, 0⟩
  b : ∀ g, g < 2 → h.st g = .cnt n (csg (cntTo r k g))
theorem cntTo_succ {r : List Nat} {k g x : Nat} (e : r[k]? = some g) : cntTo r (k + 1) x = cntTo r k x + (if x = g then 1 else 0) := by
  unfold cntTo
  rw [take_snoc e, List.count_append, List.count_cons, List.count_nil]
  by_cases z : x = g
  · rw [if_pos z, if_pos (by rw [z]; exact beq_self_eq_true _)]
  · rw [if_neg z, if_neg (fun q => z (beq_iff_eq.mp q).symm)]
section
variable {h : HM} {n : Nat} {r l m : List Nat} {k g : Nat} {o : Bx}
theorem Btw.begin (b : Btw h n r k) (e : r[k]? = some g) (hg : g < 2) (hl : Ordr n l) : Coming h n r l k g (csg (cntTo r k g)) (h.st (1 - g)) 0 := ⟨b.a, hl, hg, e, rfl, fun w hw => by rw [b.sd w hw]; unfold sdC; rw [if_neg (by simp)], ⟨by rw [b.b g hg]; simp, rfl⟩⟩
theorem Passing.done (c : Passing h n r l m k g o n) (ho : o = .cnt n (csg (cntTo r k (1 - g)))) : Btw h n r (k + 1) := by
  refine ⟨c.a, fun w hw => ?_, fun x hx => ?_⟩
  · rw [c.sd w hw, if_pos (by rw [List.take_of_length_le (by rw [c.hm.len]; exact Nat.le_refl _)]; exact c.hm.mem hw)]
  · rw [cntTo_succ c.e]
    have hg := c.hg
    by_cases z : x = g
    · rw [if_pos z, z]; exact c.b.here
    · rw [if_neg z, Nat.add_zero, show x = 1 - g by omega, c.b.other, ho]
end
end K05
/-! k05's own defs -/
namespace K05
open PySem L2 DL DD LB
structure KpA where
  h : HM
  g : Nat
  l : Int
  s : Int
def kpD (C : Addr) (a : KpA) : List Dt := [hallD C a.h, iD a.g, .int a.l, .int a.s, bxL (a.h.st (1 - a.g))]
theorem kp_inj {C : Addr} {a : KpA} : ∀ b, kpD C b = kpD C a → b = a := fun b h => by
  obtain ⟨a1, a2, a3, a4⟩ := a
  obtain ⟨b1, b2, b3, b4⟩ := b
  injection h with h1 h
  injection h with h2 h
  injection h with h3 h
  injection h with h4 _
  obtain rfl := hallD_inj h1
  obtain rfl := natI h2
  obtain rfl := intD_inj h3
  obtain rfl := intD_inj h4
  rfl
def g__law_kept (C : Addr) : Sg := fnS "_law_kept" 3 (kpD C) (fun a => HOk a.h ∧ a.h.gates.length = 2 ∧ a.g < 2 ∧ a.h.st a.g = .cnt a.l a.s) fun a d => d = .bl true
def b__law_kept (C : Addr) : Ss := (.cons (.ite (.isN true (.var 0)) (.cons (.ret (.bl false)) .nil) .nil) (.cons (.set (.v 5) (.call (g_boxes C) (.cons (.var 0) (.cons (.var 1) .nil)))) (.cons (.ite (.or (.not (.isi (.var 5) "list")) (.cmp .ne (.var 5) (.new (.lst (.cons (.v (.var 2)) (.cons (.v (.var 3)) .nil)))))) (.cons (.ret (.bl false)) .nil) .nil) (.cons (.ret (.and (.call (g__law_whole C) (.cons (.ix (.var 5) (.int 0)) .nil)) (.and (.call (g__law_whole C) (.cons (.ix (.var 5) (.int 1)) .nil)) (.cmp .eq (.call (g_boxes C) (.cons (.var 0) (.cons (.bin .sub (.int 1) (.var 1)) .nil))) (.var 4))))) .nil))))
theorem ok__law_kept (C : Addr) : FnD (g__law_kept C) 5 6 [] (b__law_kept C) := fnS_ok (fun _ => rfl) fun ⟨h, g, l, s⟩ hi P rt nx => by
  obtain ⟨ok, hgl, hg, hst⟩ : HOk h ∧ h.gates.length = 2 ∧ g < 2 ∧ h.st g = .cnt l s := hi
  unfold b__law_kept
  change wpSs noX [.dat (hallD C h), .dat (iD g), .dat (.int l), .dat (.int s), .dat (bxL (h.st (1 - g))), .un] _ _
  refine w_if1f ((ve_isN (ve_var rfl)).to rfl) ?_
  refine w_set (d := .lst [.int l, .int s]) ((ve_boxes ok (by omega) (ve_var rfl) (ve_var rfl) rfl).to (by rw [hst]; rfl)) ?_
  refine w_if1f (ve_or_ff (ve_not_t (ve_isi (ve_var rfl) rfl (by decide +kernel))) (ve_neR (ve_var rfl) (ve_lst (vi2 (ve_var rfl) (ve_var rfl))) (.lst (fa2 .int .int)))) ?_
  refine w_ret (ve_and_tt (ve_wholeI (ve_ixL0 (ve_var rfl)) rfl) (ve_and_tt (ve_wholeI (ve_ixL1 (ve_var rfl)) rfl) (ve_eqR (ve_boxes (g := 1 - g) ok (by omega) (ve_var rfl) ((ve_sub (j := ((g : Nat) : Int)) ve_int (ve_var rfl)).to (by show Dt.int _ = Dt.int _; congr 1; omega)) rfl) (ve_var rfl) (bxL_dok _)))) (rt _ _ (by simp) rfl)
theorem ve_kept {C : Addr} {h : HM} {g : Nat} {l s : Int} {o : Bx} (ok : HOk h) (hgl : h.gates.length = 2) (hg : g < 2) (b : Bxs h g (.cnt l s) o) {X : Str → DD.Env → Prop} {v : DD.Env} {e1 e2 e3 e4 e5 : E} (h1 : VE X v e1 (hallD C h)) (h2 : VE X v e2 (iD g)) (h3 : VE X v e3 (.int l)) (h4 : VE X v e4 (.int s)) (h5 : VE X v e5 (bxL o)) (ho : ownRoots v (.cons e1 (.cons e2 (.cons e3 (.cons e4 (.cons e5 .nil))))) = []) : VE X v (.call (g__law_kept C) (.cons e1 (.cons e2 (.cons e3 (.cons e4 (.cons e5 .nil)))))) (.bl true) := vc_S ⟨h, g, l, s⟩ (ves_cons h1 (ves_cons h2 (ves3 h3 h4 (by rw [← b.other] at h5; exact h5)))) ho ⟨ok, hgl, hg, b.here⟩ kp_inj fun d q => q
/-- a meeting: its hall, orders, gate, how many looks -/
structure MtA where
  h : HM
  l : List Nat
  g : Nat
  s : Int
  c : Int
def mtD (C : Addr) (a : MtA) : List Dt := [hallD C a.h, nL a.l, iD a.g, .int a.s, .int a.c]
theorem mt_inj {C : Addr} {a : MtA} : ∀ b, mtD C b = mtD C a → b = a := fun b h => by
  obtain ⟨a1, a2, a3, a4, a5⟩ := a
  obtain ⟨b1, b2, b3, b4, b5⟩ := b
  injection h with h1 h
  injection h with h2 h
  injection h with h3 h
  injection h with h4 h
  injection h with h5 _
  obtain rfl := hallD_inj h1
  obtain rfl := nL_inj h2
  obtain rfl := natI h3
  obtain rfl := intD_inj h4
  obtain rfl := intD_inj h5
  rfl
theorem lay_come : PyData.canLay0 (.str "come") = true := by decide +kernel
theorem lay_wait : PyData.canLay0 (.str "wait") = true := by decide +kernel
theorem lay_fill : PyData.canLay0 (.str "fill") = true := by decide +kernel
theorem lay_turn : PyData.canLay0 (.str "turn") = true := by decide +kernel
theorem lay_look : PyData.canLay0 (.str "look") = true := by decide +kernel
theorem lay_pass : PyData.canLay0 (.str "pass") = true := by decide +kernel
theorem ve_other {C : Addr} {h : HM} {g : Nat} (ok : HOk h) (hgl : h.gates.length = 2) (hg : g < 2) {X : Str → DD.Env → Prop} {v : DD.Env} {a b : E} (ha : VE X v a (hallD C h)) (hb : VE X v b (iD g)) (ho : ownRoots v (.cons a (.cons (.bin .sub (.int 1) b) .nil)) = []) : VE X v (.call (g_boxes C) (.cons a (.cons (.bin .sub (.int 1) b) .nil))) (bxL (h.st (1 - g))) := ve_boxes (g := 1 - g) ok (by omega) ha ((ve_sub (j := ((g : Nat) : Int)) ve_int hb).to (by show Dt.int _ = Dt.int _; congr 1; omega)) ho
def g__law_coming (C : Addr) : Sg := fnS "_law_coming" 8 (mtD C) (fun a => ∃ n r k, 0 < n ∧ Btw a.h n r k ∧ r[k]? = some a.g ∧ a.g < 2 ∧ Ordr n a.l ∧ a.s = csg (cntTo r k a.g)) fun a d => ∃ h', d = hallD C h' ∧ ∀ n r k, Btw a.h n r k → r[k]? = some a.g → 0 < n → Coming h' n r a.l k a.g a.s (a.h.st (1 - a.g)) n
def b__law_coming (C : Addr) : Ss := (.cons (.set (.v 5) (.call (g_boxes C) (.cons (.var 0) (.cons (.bin .sub (.int 1) (.var 2)) .nil)))) (.cons (.for (.v 6) (.r (.f1 .len (.var 1))) (.cons (.set (.v 0) (.call (g__law_done C) (.cons (.var 0) (.cons (.ix (.var 1) (.var 6)) (.cons (.var 2) (.cons (.str "come") .nil)))))) (.cons (.ite (.not (.call (g__law_kept C) (.cons (.var 0) (.cons (.var 2) (.cons (.bin .sub (.bin .sub (.f1 .len (.var 1)) (.var 6)) (.int 1)) (.cons (.var 3) (.cons (.var 5) .nil))))))) (.cons (.ret .non) .nil) .nil) (.cons (.ite (.cmp .gt (.var 6) (.int 0)) (.cons (.set (.v 0) (.call (g__law_done C) (.cons (.var 0) (.cons (.ix (.var 1) (.bin .mod (.var 4) (.var 6))) (.cons (.var 2) (.cons (.str "wait") .nil)))))) (.cons (.ite (.not (.call (g__law_kept C) (.cons (.var 0) (.cons (.var 2) (.cons (.bin .sub (.bin .sub (.f1 .len (.var 1)) (.var 6)) (.int 1)) (.cons (.var 3) (.cons (.var 5) .nil))))))) (.cons (.ret .non) .nil) .nil) .nil)) .nil) .nil)))) (.cons (.ret (.var 0)) .nil)))
theorem btw_det {h : HM} {n n' : Nat} {r r' : List Nat} {k k' : Nat} (a : Btw h n r k) (b : Btw h n' r' k') (hn : 0 < n) : n = n' ∧ r = r' ∧ k = k' := by
  have e1 : n = n' := by rw [← a.a.rl, b.a.rl]
  subst e1
  have e2 : r = r' := by rw [← a.a.row (w := 0) hn, b.a.row hn]
  have e3 := a.sd 0 hn
  rw [b.sd 0 hn] at e3
  exact ⟨rfl, e2, by injection e3 with e3; exact e3.symm⟩
theorem ok__law_coming (C : Addr) : FnD (g__law_coming C) 5 7 [] (b__law_coming C) := fnS_ok (fun _ => rfl) fun ⟨h, l, g, s, c⟩ hi P rt nx => by
  obtain ⟨n, r, k, hn, hb, he, hg, hl, hs⟩ : ∃ n r k, 0 < n ∧ Btw h n r k ∧ r[k]? = some g ∧ g < 2 ∧ Ordr n l ∧ s = csg (cntTo r k g) := hi
  have rt : ∀ h' u, 5 ≤ u.length → Coming h' n r l k g s (h.st (1 - g)) n → P.rt (.dat (hallD C h')) u := fun h' u a b => rt _ u a ⟨h', rfl, fun n' r' k' x y z => by
    obtain ⟨rfl, rfl, rfl⟩ := btw_det hb x hn
    exact b⟩
  subst hs
  unfold b__law_coming
  change wpSs noX [.dat (hallD C h), .dat (nL l), .dat (iD g), .dat (.int (csg (cntTo r k g))), .dat (.int c), .un, .un] _ _
  refine w_set (ve_other hb.a.ok hb.a.gl hg (ve_var rfl) (ve_var rfl) rfl) ?_
  have ll : ∀ {v : DD.Env}, v[1]? = some (.dat (nL l)) → VE noX v (.f1 .len (.var 1)) (iD n) := fun h => (ve_lenL (ds := l.map iD) (ve_var h)).to (by rw [List.length_map, hl.len])
  have h12 : n ≤ 12 := by have := hb.a.ok.go.rl; rw [hb.a.rl] at this; omega
  refine w_for (c := iD) (List.range n) (sr_r (ll rfl) (by omega)) (fun j u => ∃ h' a, u = [.dat (hallD C h'), .dat (nL l), .dat (iD g), .dat (.int (csg (cntTo r k g))), .dat (.int c), .dat (bxL (h.st (1 - g))), a] ∧ Coming h' n r l k g (csg (cntTo r k g)) (h.st (1 - g)) j) ⟨h, _, rfl, hb.begin he hg hl⟩ ?_ ?_
  · rintro j x u hx ⟨h1, a, rfl, c1⟩
    have hj : j < n := by simpa using (List.getElem?_eq_some_iff.mp hx).1
    have hxj : x = j := by rw [List.getElem?_range hj] at hx; exact (Option.some.inj hx).symm
    subst hxj
    have ew : l[x]? = some (l.getD x 0) := getD_lt (by rw [hl.len]; exact hj)
    have hw := hl.lt _ (List.mem_of_getElem? ew)
    obtain ⟨t1, c2⟩ := c1.come ew
    show wpSs noX [_, _, _, _, _, _, .dat (iD x)] _ _
    refine w_set (ve_done c1.a.ok (by rw [c1.a.rl]; exact hw) t1 lay_come (ve_var rfl) (ve_ixL (ds := l.map iD) (ve_var rfl) (ve_var rfl) (get_map ew)) (ve_var rfl) rfl) ?_
    have lf : ∀ {v : DD.Env}, v[1]? = some (.dat (nL l)) → v[6]? = some (.dat (iD x)) → VE noX v (.bin .sub (.bin .sub (.f1 .len (.var 1)) (.var 6)) (.int 1)) (.int ((n : Int) - ((x + 1 : Nat) : Int))) := fun a b => (ve_sub (ve_sub (i := ((n : Nat) : Int)) (j := ((x : Nat) : Int)) (ll a) (ve_var b)) ve_int).to (by congr 1; omega)
    refine w_if1f (ve_not_t (ve_kept c2.a.ok c2.a.gl hg c2.b (ve_var rfl) (ve_var rfl) (lf rfl rfl) (ve_var rfl) (ve_var rfl) rfl)) ?_
    refine w_if1 (ve_gt (i := ((x : Nat) : Int)) (ve_var rfl) ve_int) (fun q => ?_) (fun q => ?_)
    · have q : 0 < x := by have := of_decide_eq_true q; omega
      have b1 := Int.emod_nonneg c (show (x : Int) ≠ 0 by omega)
      have b2 := Int.emod_lt_of_pos c (show (0 : Int) < x by omega)
      obtain ⟨i, hi⟩ : ∃ i : Nat, c % (x : Int) = i := ⟨(c % (x : Int)).toNat, by omega⟩
      have hix : i < x := by omega
      have ei : l[i]? = some (l.getD i 0) := getD_lt (by rw [hl.len]; omega)
      have hwi := hl.lt _ (List.mem_of_getElem? ei)
      have t2 := c2.wait ei (by omega) (by omega)
      refine w_set (d := hallD C (stp h1 (l.getD x 0)).1) ((ve_done (w := l.getD i 0) c2.a.ok (by rw [c2.a.rl]; exact hwi) (by rw [t2]) lay_wait (ve_var rfl) (ve_ixL (n := i) (ds := l.map iD) (ve_var rfl) ((ve_mod (j := ((x : Nat) : Int)) (ve_var rfl) (ve_var rfl) (by omega)).to (by rw [hi])) (get_map ei)) (ve_var rfl) rfl).to (by rw [t2])) ?_
      refine w_if1f (ve_not_t (ve_kept c2.a.ok c2.a.gl hg c2.b (ve_var rfl) (ve_var rfl) (lf rfl rfl) (ve_var rfl) (ve_var rfl) rfl)) ?_
      exact w_nil (X := noX) (w_nil (X := noX) ⟨_, _, rfl, c2⟩)
    · exact w_nil (X := noX) ⟨_, _, rfl, c2⟩
  · rintro u ⟨h1, a, rfl, c1⟩
    rw [List.length_range] at c1
    exact w_ret (ve_var rfl) (rt h1 _ (by simp) c1)
def g__law_turning (C : Addr) : Sg := fnS "_law_turning" 8 (mtD C) (fun a => ∃ n r k o, 0 < n ∧ Coming a.h n r a.l k a.g a.s o n) fun a d => ∃ h', d = hallD C h' ∧ ∀ n r k o, Coming a.h n r a.l k a.g a.s o n → 0 < n → Turning h' n r a.l k a.g a.s o .pass n (csg (cntTo r k a.g + 1))
def b__law_turning (C : Addr) : Ss := (.cons (.set (.v 5) (.call (g_boxes C) (.cons (.var 0) (.cons (.bin .sub (.int 1) (.var 2)) .nil)))) (.cons (.set (.v 6) (.f1 .len (.var 1))) (.cons (.set (.v 0) (.call (g__law_done C) (.cons (.var 0) (.cons (.ix (.var 1) (.bin .sub (.var 6) (.int 1))) (.cons (.var 2) (.cons (.str "fill") .nil)))))) (.cons (.ite (.not (.call (g__law_kept C) (.cons (.var 0) (.cons (.var 2) (.cons (.var 6) (.cons (.var 3) (.cons (.var 5) .nil))))))) (.cons (.ret .non) .nil) .nil) (.cons (.ite (.cmp .gt (.var 6) (.int 1)) (.cons (.set (.v 0) (.call (g__law_done C) (.cons (.var 0) (.cons (.ix (.var 1) (.bin .mod (.var 4) (.bin .sub (.var 6) (.int 1)))) (.cons (.var 2) (.cons (.str "wait") .nil)))))) (.cons (.ite (.isN true (.var 0)) (.cons (.ret .non) .nil) .nil) .nil)) .nil) (.cons (.set (.v 0) (.call (g__law_done C) (.cons (.var 0) (.cons (.ix (.var 1) (.bin .sub (.var 6) (.int 1))) (.cons (.var 2) (.cons (.str "turn") .nil)))))) (.cons (.ite (.not (.call (g__law_kept C) (.cons (.var 0) (.cons (.var 2) (.cons (.var 6) (.cons (.bin .sub (.int 1) (.var 3)) (.cons (.var 5) .nil))))))) (.cons (.ret .non) .nil) .nil) (.cons (.ret (.var 0)) .nil))))))))
theorem ok__law_turning (C : Addr) : FnD (g__law_turning C) 5 7 [] (b__law_turning C) := fnS_ok (fun _ => rfl) fun ⟨h, l, g, s, c⟩ hi P rt nx => by
  obtain ⟨n, r, k, o, hn, hc⟩ : ∃ n r k o, 0 < n ∧ Coming h n r l k g s o n := hi
  have c0 := hc.all hn
  obtain ⟨t1, c1⟩ := c0.fill
  obtain ⟨t2, c2⟩ := c1.turn
  have e0 := c0.last
  generalize hwq : l.getD (n - 1) 0 = w at *
  have rt : ∀ u, 5 ≤ u.length → P.rt (.dat (hallD C (stp (stp h w).1 w).1)) u := fun u a => rt _ u a ⟨_, rfl, fun n' r' k' o' x z => by
    have e1 : n = n' := by rw [← hc.a.rl, x.a.rl]
    subst e1
    have e2 : r = r' := by rw [← hc.a.row (w := 0) hn, x.a.row hn]
    subst e2
    have e3 := hc.sd 0 hn
    rw [x.sd 0 hn] at e3
    have e3 := congrArg Sd.d e3
    rw [sdC_d, sdC_d] at e3
    have e3 : k = k' := e3.symm
    subst e3
    have e4 : o = o' := by rw [← hc.b.other, x.b.other]
    subst e4
    exact c2⟩
  have hg := hc.hg
  have hl := hc.hl
  unfold b__law_turning
  change wpSs noX [.dat (hallD C h), .dat (nL l), .dat (iD g), .dat (.int s), .dat (.int c), .un, .un] _ _
  refine w_set (d := bxL o) ((ve_other hc.a.ok hc.a.gl hg (ve_var rfl) (ve_var rfl) rfl).to (by rw [hc.b.other])) ?_
  refine w_set (d := iD n) ((ve_lenL (ds := l.map iD) (ve_var rfl)).to (by rw [List.length_map, hl.len])) ?_
  have el : ∀ {v : DD.Env}, v[1]? = some (.dat (nL l)) → v[6]? = some (.dat (iD n)) → VE noX v (.ix (.var 1) (.bin .sub (.var 6) (.int 1))) (iD w) := fun a b => ve_ixL (n := n - 1) (ds := l.map iD) (ve_var a) ((ve_sub (i := ((n : Nat) : Int)) (ve_var b) ve_int).to (by congr 1; omega)) (get_map e0.1)
  refine w_set (ve_done hc.a.ok (by rw [hc.a.rl]; exact e0.2) t1 lay_fill (ve_var rfl) (el rfl rfl) (ve_var rfl) rfl) ?_
  refine w_if1f (ve_not_t (ve_kept c1.a.ok c1.a.gl hg c1.b (ve_var rfl) (ve_var rfl) (ve_var rfl) (ve_var rfl) (ve_var rfl) rfl)) ?_
  refine wp_cut (fun u => u = [.dat (hallD C (stp h w).1), .dat (nL l), .dat (iD g), .dat (.int s), .dat (.int c), .dat (bxL o), .dat (iD n)]) ?_ ?_
  · refine (ve_gt (i := ((n : Nat) : Int)) (ve_var rfl) ve_int).use ⟨fun q => ?_, fun q => ?_⟩
    · have q : 1 < n := by have := of_decide_eq_true q; omega
      have b1 := Int.emod_nonneg c (show ((n - 1 : Nat) : Int) ≠ 0 by omega)
      have b2 := Int.emod_lt_of_pos c (show (0 : Int) < (n - 1 : Nat) by omega)
      obtain ⟨i, hi⟩ : ∃ i : Nat, c % ((n - 1 : Nat) : Int) = i := ⟨(c % ((n - 1 : Nat) : Int)).toNat, by omega⟩
      have ei : l[i]? = some (l.getD i 0) := getD_lt (by rw [hl.len]; omega)
      have hwi := hl.lt _ (List.mem_of_getElem? ei)
      have t3 := c1.wait ei (by omega)
      refine w_set (d := hallD C (stp h w).1) ((ve_done (w := l.getD i 0) c1.a.ok (by rw [c1.a.rl]; exact hwi) (by rw [t3]) lay_wait (ve_var rfl) (ve_ixL (n := i) (ds := l.map iD) (ve_var rfl) ((ve_mod (j := ((n - 1 : Nat) : Int)) (ve_var rfl) ((ve_sub (i := ((n : Nat) : Int)) (ve_var rfl) ve_int).to (by congr 1; omega)) (by omega)).to (by rw [hi])) (get_map ei)) (ve_var rfl) rfl).to (by rw [t3])) ?_
      exact w_if1f ((ve_isN (ve_var rfl)).to rfl) (w_nil (X := noX) rfl)
    · exact w_nil (X := noX) rfl
  rintro u rfl
  refine w_set (ve_done c1.a.ok (by rw [c1.a.rl]; exact e0.2) t2 lay_turn (ve_var rfl) (el rfl rfl) (ve_var rfl) rfl) ?_
  refine w_if1f (ve_not_t (ve_kept c2.a.ok c2.a.gl hg c2.b (ve_var rfl) (ve_var rfl) (ve_var rfl) ((ve_sub ve_int (ve_var rfl)).to (by rw [hc.hs]; congr 1; exact (csg_ne _).1.symm)) (ve_var rfl) rfl)) ?_
  exact w_ret (ve_var rfl) (rt _ (by simp))
structure PsA where
  h : HM
  m : List Nat
  g : Nat
  w : Nat
def psD (C : Addr) (a : PsA) : List Dt := [hallD C a.h, nL a.m, iD a.g, iD a.w]
theorem ps_inj {C : Addr} {a : PsA} : ∀ b, psD C b = psD C a → b = a := fun b h => by
  obtain ⟨a1, a2, a3, a4⟩ := a
  obtain ⟨b1, b2, b3, b4⟩ := b
  injection h with h1 h
  injection h with h2 h
  injection h with h3 h
  injection h with h4 _
  obtain rfl := hallD_inj h1
  obtain rfl := nL_inj h2
  obtain rfl := natI h3
  obtain rfl := natI h4
  rfl
def g__law_passing (C : Addr) : Sg := fnS "_law_passing" 8 (psD C) (fun a => ∃ n r l k o, Passing a.h n r l a.m k a.g o 0 ∧ a.w = l.getD (n - 1) 0) fun a d => ∃ h', d = hallD C h' ∧ ∀ n r l k o, Passing a.h n r l a.m k a.g o 0 → a.w = l.getD (n - 1) 0 → Passing h' n r l a.m k a.g o n
def b__law_passing (C : Addr) : Ss := (.cons (.for (.v 4) (.l (.var 1)) (.cons (.ite (.cmp .ne (.var 4) (.var 3)) (.cons (.set (.v 0) (.call (g__law_done C) (.cons (.var 0) (.cons (.var 4) (.cons (.var 2) (.cons (.str "look") .nil)))))) (.cons (.ite (.isN true (.var 0)) (.cons (.ret .non) .nil) .nil) .nil)) .nil) (.cons (.set (.v 0) (.call (g__law_done C) (.cons (.var 0) (.cons (.var 4) (.cons (.var 2) (.cons (.str "pass") .nil)))))) (.cons (.ite (.isN true (.var 0)) (.cons (.ret .non) .nil) .nil) .nil)))) (.cons (.ret (.var 0)) .nil))
theorem Passing.det {h : HM} {n n' g k k' i : Nat} {r r' l l' m : List Nat} {o o' : Bx} (a : Passing h n r l m k g o 0) (b : Passing h n' r' l' m k' g o' 0) (e : l.getD (n - 1) 0 = l'.getD (n' - 1) 0) : n = n' ∧ r = r' ∧ k = k' ∧ o = o' := by
  have e1 : n = n' := by rw [← a.a.rl, b.a.rl]
  subst e1
  have e2 : r = r' := by rw [← a.a.row (w := 0) a.n0, b.a.row a.n0]
  have e3 := a.sd 0 a.n0
  rw [b.sd 0 a.n0] at e3
  have e3 := congrArg Sd.d e3
  simp only [List.take_zero, List.not_mem_nil, if_false, sdT_d] at e3
  have e4 : o = o' := by rw [← a.b.other, b.b.other]
  exact ⟨rfl, e2, e3.symm, e4⟩
theorem Passing.re {h : HM} {n g k i : Nat} {r l l' m : List Nat} {o : Bx} (a : Passing h n r l m k g o i) (hl : Ordr n l') (e : l.getD (n - 1) 0 = l'.getD (n - 1) 0) : Passing h n r l' m k g o i := ⟨a.a, a.n0, hl, a.hm, a.hg, a.e, fun w hw => by rw [a.sd w hw]; unfold sdT; rw [e], a.b⟩
theorem ok__law_passing (C : Addr) : FnD (g__law_passing C) 4 5 [] (b__law_passing C) := fnS_ok (fun _ => rfl) fun ⟨h, m, g, w⟩ hi P rt nx => by
  obtain ⟨n, r, l, k, o, hp, hw⟩ : ∃ n r l k o, Passing h n r l m k g o 0 ∧ w = l.getD (n - 1) 0 := hi
  have rt : ∀ h' u, 4 ≤ u.length → Passing h' n r l m k g o n → P.rt (.dat (hallD C h')) u := fun h' u a b => rt _ u a ⟨h', rfl, fun n' r' l' k' o' x y => by
    have y : w = l'.getD (n' - 1) 0 := y
    obtain ⟨rfl, rfl, rfl, rfl⟩ := Passing.det (i := 0) hp x (by rw [← hw, y])
    exact b.re x.hl (by rw [← hw, y])⟩
  unfold b__law_passing
  change wpSs noX [.dat (hallD C h), .dat (nL m), .dat (iD g), .dat (iD w), .un] _ _
  refine w_for (c := iD) m (sr_l (ve_var rfl)) (fun j u => ∃ h' a, u = [.dat (hallD C h'), .dat (nL m), .dat (iD g), .dat (iD w), a] ∧ Passing h' n r l m k g o j) ⟨h, _, rfl, hp⟩ ?_ ?_
  · rintro j x u hx ⟨h1, a, rfl, c1⟩
    have hxn := hp.hm.lt _ (List.mem_of_getElem? hx)
    show wpSs noX [_, _, _, _, .dat (iD x)] _ _
    by_cases z : x = w
    · refine w_if1f ((ve_neI (i := ((x : Nat) : Int)) (j := ((w : Nat) : Int)) (ve_var rfl) (ve_var rfl)).to (by rw [z]; simp)) ?_
      obtain ⟨t, c2⟩ := c1.last hx (by rw [z]; exact hw)
      refine w_set (ve_done c1.a.ok (by rw [c1.a.rl]; exact hxn) t lay_pass (ve_var rfl) (ve_var rfl) (ve_var rfl) rfl) ?_
      exact w_if1f ((ve_isN (ve_var rfl)).to rfl) (w_nil (X := noX) ⟨_, _, rfl, c2⟩)
    · have hl : x ≠ l.getD (n - 1) 0 := by rw [← hw]; exact z
      obtain ⟨t1, ok1, w1, b1⟩ := c1.look hx hl
      obtain ⟨t2, c2⟩ := c1.next hx hl
      refine w_if1t ((ve_neI (i := ((x : Nat) : Int)) (j := ((w : Nat) : Int)) (ve_var rfl) (ve_var rfl)).to (by rw [decide_eq_true (by omega)])) ?_
      refine w_set (ve_done c1.a.ok (by rw [c1.a.rl]; exact hxn) t1 lay_look (ve_var rfl) (ve_var rfl) (ve_var rfl) rfl) ?_
      refine w_if1f ((ve_isN (ve_var rfl)).to rfl) (w_nil (X := noX) ?_)
      refine w_set (ve_done ok1 (by rw [w1.rows, c1.a.rl]; exact hxn) t2 lay_pass (ve_var rfl) (ve_var rfl) (ve_var rfl) rfl) ?_
      exact w_if1f ((ve_isN (ve_var rfl)).to rfl) (w_nil (X := noX) ⟨_, _, rfl, c2⟩)
  · rintro u ⟨h1, a, rfl, c1⟩
    rw [hp.hm.len] at c1
    exact w_ret (ve_var rfl) (rt h1 _ (by simp) c1)
structure MeA where
  h : HM
  c1 : Int
  c2 : Int
  n : Nat
  g : Nat
  s : Int
def meD (C : Addr) (a : MeA) : List Dt := [hallD C a.h, .lst [.int a.c1, .int a.c2], iD a.n, iD a.g, .int a.s]
theorem me_inj {C : Addr} {a : MeA} : ∀ b, meD C b = meD C a → b = a := fun b h => by
  obtain ⟨a1, a2, a3, a4, a5, a6⟩ := a
  obtain ⟨b1, b2, b3, b4, b5, b6⟩ := b
  injection h with h1 h
  injection h with h2 h
  injection h with h4 h
  injection h with h5 h
  injection h with h6 _
  injection h2 with h2
  injection h2 with h2 h3
  injection h3 with h3 _
  obtain rfl := hallD_inj h1
  obtain rfl := intD_inj h2
  obtain rfl := intD_inj h3
  obtain rfl := natI h4
  obtain rfl := natI h5
  obtain rfl := intD_inj h6
  rfl
def g__law_meeting (C : Addr) : Sg := fnS "_law_meeting" 9 (meD C) (fun a => 0 < a.n ∧ ∃ r k, Btw a.h a.n r k ∧ r[k]? = some a.g ∧ a.g < 2 ∧ a.s = csg (cntTo r k a.g)) fun a d => ∃ h', d = hallD C h' ∧ ∀ r k, Btw a.h a.n r k → Btw h' a.n r (k + 1)
def b__law_meeting (C : Addr) : Ss := (.cons (.set (.v 5) (.call (g__law_order C) (.cons (.ix (.var 1) (.int 0)) (.cons (.var 2) .nil)))) (.cons (.set (.v 0) (.call (g__law_coming C) (.cons (.var 0) (.cons (.var 5) (.cons (.var 3) (.cons (.var 4) (.cons (.ix (.var 1) (.int 1)) .nil))))))) (.cons (.ite (.isN true (.var 0)) (.cons (.ret .non) .nil) .nil) (.cons (.set (.v 0) (.call (g__law_turning C) (.cons (.var 0) (.cons (.var 5) (.cons (.var 3) (.cons (.var 4) (.cons (.ix (.var 1) (.int 1)) .nil))))))) (.cons (.ite (.isN true (.var 0)) (.cons (.ret .non) .nil) .nil) (.cons (.ret (.call (g__law_passing C) (.cons (.var 0) (.cons (.call (g__law_order C) (.cons (.ix (.var 1) (.int 1)) (.cons (.var 2) .nil))) (.cons (.var 3) (.cons (.ix (.var 5) (.bin .sub (.var 2) (.int 1))) .nil)))))) .nil))))))
theorem ok__law_meeting (C : Addr) : FnD (g__law_meeting C) 5 6 [] (b__law_meeting C) := fnS_ok (fun _ => rfl) fun ⟨h, c1, c2, n, g, s⟩ hi P rt nx => by
  obtain ⟨hn, r, k, hb, he, hg, hs⟩ : 0 < n ∧ ∃ r k, Btw h n r k ∧ r[k]? = some g ∧ g < 2 ∧ s = csg (cntTo r k g) := hi
  have rt : ∀ h' u, 5 ≤ u.length → Btw h' n r (k + 1) → P.rt (.dat (hallD C h')) u := fun h' u a b => rt _ u a ⟨h', rfl, fun r' k' x => by
    obtain ⟨_, rfl, rfl⟩ := btw_det hb x hn
    exact b⟩
  have h12 : n ≤ 12 := by have := hb.a.ok.go.rl; rw [hb.a.rl] at this; omega
  unfold b__law_meeting
  change wpSs noX [.dat (hallD C h), .dat (.lst [.int c1, .int c2]), .dat (iD n), .dat (iD g), .dat (.int s), .un] _ _
  refine w_setW (wc_order (by omega) (ve_ixL0 (ve_var rfl)) (ve_var rfl) rfl fun l hl => ?_)
  show wpSs noX [_, _, _, _, _, .dat (nL l)] _ _
  refine w_setW (wc_S ⟨h, l, g, s, c2⟩ (ves_cons (ve_var rfl) (ves_cons (ve_var rfl) (ves3 (ve_var rfl) (ve_var rfl) (ve_ixL1 (ve_var rfl))))) rfl ⟨n, r, k, hn, hb, he, hg, hl, hs⟩ mt_inj ?_)
  rintro d ⟨h1, rfl, q1⟩
  have q1 := q1 n r k hb he hn
  refine w_if1f ((ve_isN (ve_var rfl)).to rfl) ?_
  refine w_setW (wc_S ⟨h1, l, g, s, c2⟩ (ves_cons (ve_var rfl) (ves_cons (ve_var rfl) (ves3 (ve_var rfl) (ve_var rfl) (ve_ixL1 (ve_var rfl))))) rfl ⟨n, r, k, _, hn, q1⟩ mt_inj ?_)
  rintro d ⟨h2, rfl, q2⟩
  have q2 := q2 n r k _ q1 hn
  refine w_if1f ((ve_isN (ve_var rfl)).to rfl) ?_
  have e0 := q2.last
  rw [wpSs, wpS, wpE, wpEs]
  refine (ve_var rfl : VE noX _ (.var 0) (hallD C h2)).use ?_
  rw [wpEs]
  refine wc_order (by omega) (ve_ixL1 (ve_var rfl)) (ve_var rfl) rfl fun m hm => ?_
  refine (ves2 (ve_var rfl) (ve_ixL (n := n - 1) (ds := l.map iD) (ve_var rfl) ((ve_sub (i := ((n : Nat) : Int)) (ve_var rfl) ve_int).to (by congr 1; omega)) (get_map e0.1))).use ?_
  refine callS ⟨h2, m, g, l.getD (n - 1) 0⟩ rfl rfl ⟨n, r, l, k, _, q2.pass hm, rfl⟩ ps_inj ?_
  rintro d ⟨h3, rfl, q3⟩
  have q3 := q3 n r l k _ (q2.pass hm) rfl
  exact rt h3 _ (by simp) (q3.done (hb.b _ (by omega)))
def g__law_often (C : Addr) : Sg := fnS "_law_often" 5 (fun a : HM × Nat × List Nat => [hallD C a.1, iD a.2.1, nL a.2.2]) (fun a => Btw a.1 a.2.1 a.2.2 a.2.2.length) fun a d => d = .bl true
def b__law_often (C : Addr) : Ss := (.cons (.for (.v 3) (.r (.var 1)) (.cons (.set (.v 4) (.call (g_ahead C) (.cons (.var 0) (.cons (.var 3) .nil)))) (.cons (.ite (.cmp .ne (.var 4) (.tup (.cons .non (.cons (.str "end") .nil)))) (.cons (.ret (.bl false)) .nil) .nil) (.cons (.for (.v 5) (.r (.int 2)) (.cons (.ite (.or (.cmp .ne (.call (g_came C) (.cons (.var 0) (.cons (.var 3) (.cons (.var 5) .nil)))) (.cnt (.var 2) (.var 5))) (.cmp .ne (.call (g_passed C) (.cons (.var 0) (.cons (.var 3) (.cons (.var 5) .nil)))) (.cnt (.var 2) (.var 5)))) (.cons (.ret (.bl false)) .nil) .nil) .nil)) .nil)))) (.cons (.ret (.bl true)) .nil))
theorem ok__law_often (C : Addr) : FnD (g__law_often C) 3 6 [] (b__law_often C) := fnS_ok (fun _ => rfl) fun ⟨h, n, r⟩ hi P rt nx => by
  have hb : Btw h n r r.length := hi
  have ok := hb.a.ok
  have rt : ∀ u, 3 ≤ u.length → P.rt (.dat (.bl true)) u := fun u a => rt _ u a rfl
  have h12 : n ≤ 12 := by have := ok.go.rl; rw [hb.a.rl] at this; omega
  unfold b__law_often
  change wpSs noX [.dat (hallD C h), .dat (iD n), .dat (nL r), .un, .un, .un] _ _
  refine w_for (c := iD) (List.range n) (sr_r (ve_var rfl) (by omega)) (fun j u => ∃ a b c, u = [.dat (hallD C h), .dat (iD n), .dat (nL r), a, b, c]) ⟨_, _, _, rfl⟩ ?_ ?_
  · rintro j w u hw ⟨a, b, c, rfl⟩
    have hw := List.mem_range.mp (List.mem_of_getElem? hw)
    have hw' : w < h.rows.length := by rw [hb.a.rl]; exact hw
    have hs := hb.sd w hw
    have en : ahd h w = none := by unfold ahd; rw [hb.a.row hw, hs, List.getElem?_eq_none (Nat.le_refl _)]
    have hp : ∀ g, psd h w g = r.count g := fun g => by unfold psd; rw [hb.a.row hw, hs, List.take_of_length_le (Nat.le_refl _)]
    have hc : ∀ g, cme h w g = r.count g := fun g => by unfold cme wth; rw [en, hp]; rfl
    show wpSs noX [_, _, _, .dat (iD w), _, _] _ _
    refine w_set (d := .tup [.non, .str "end"]) ((ve_ahead ok hw' (ve_var rfl) (ve_var rfl) rfl).to (by unfold ahdD; rw [en])) ?_
    refine w_if1f (ve_neR (ve_var rfl) (ve_tup (ves2 ve_non ve_str)) (.tup (fa2 .non (.str (by decide +kernel))))) ?_
    refine w_for (c := iD) (List.range 2) (sr_r (n := 2) ve_int (by omega)) (fun j u => ∃ c, u = [.dat (hallD C h), .dat (iD n), .dat (nL r), .dat (iD w), .dat (.tup [.non, .str "end"]), c]) ⟨_, rfl⟩ ?_ ?_
    · rintro j g u hg ⟨c, rfl⟩
      have hg := List.mem_range.mp (List.mem_of_getElem? hg)
      have hg' : g < h.gates.length := by rw [hb.a.gl]; exact hg
      show wpSs noX [_, _, _, _, _, .dat (iD g)] _ _
      refine w_if1f (ve_or_ff (ve_neIf (i := ((r.count g : Nat) : Int)) ((ve_came ok hw' hg' (ve_var rfl) (ve_var rfl) (ve_var rfl) rfl).to (by rw [hc]; rfl)) (ve_cntL (ve_var rfl) (ve_var rfl))) (ve_neIf (i := ((r.count g : Nat) : Int)) ((ve_passed ok hw' hg' (ve_var rfl) (ve_var rfl) (ve_var rfl) rfl).to (by rw [hp]; rfl)) (ve_cntL (ve_var rfl) (ve_var rfl)))) ?_
      exact w_nil (X := noX) ⟨_, rfl⟩
    · rintro u ⟨c, rfl⟩
      exact w_nil (X := noX) ⟨_, _, _, rfl⟩
  · rintro u ⟨a, b, c, rfl⟩
    exact w_ret ve_bl (rt _ (by simp))
end K05
namespace K05
open PySem L2 DL DD LB
def b_law (C : Addr) : Ss := (.cons (.set (.v 1) (.call (g__law_cell_at C) (.cons (.var 0) (.cons (.int 0) .nil)))) (.cons (.set (.v 2) (.bin .add (.int 1) (.bin .mod (.var 1) (.int 5)))) (.cons (.ite (.cmp .eq (.bin .mod (.bin .div (.var 1) (.int 5)) (.int 4)) (.int 1)) (.cons (.set (.v 2) (.bin .add (.int 6) (.bin .mod (.bin .div (.var 1) (.int 20)) (.int 7)))) .nil) .nil) (.cons (.set (.v 3) (.bin .mod (.call (g__law_cell_at C) (.cons (.var 0) (.cons (.int 1) .nil))) (.int 5))) (.cons (.ite (.and (.cmp .lt (.var 2) (.int 4)) (.cmp .eq (.bin .mod (.bin .div (.call (g__law_cell_at C) (.cons (.var 0) (.cons (.int 1) .nil))) (.int 5)) (.int 8)) (.int 1))) (.cons (.set (.v 3) (.bin .add (.int 5) (.bin .mod (.bin .div (.call (g__law_cell_at C) (.cons (.var 0) (.cons (.int 1) .nil))) (.int 40)) (.int 36)))) .nil) .nil) (.cons (.set (.v 4) (.new (.lst (.cons (.v (.tup (.cons (.str "count") (.cons (.call (g__law_order C) (.cons (.call (g__law_cell_at C) (.cons (.var 0) (.cons (.int 2) .nil))) (.cons (.var 2) .nil))) .nil)))) (.cons (.v (.tup (.cons (.str "count") (.cons (.call (g__law_order C) (.cons (.var 1) (.cons (.var 2) .nil))) .nil)))) .nil))))) (.cons (.set (.v 5) (.new (.comp (.v 6) (.r (.var 3)) .no (.v (.bin .mod (.bin .div (.call (g__law_mixed C) (.cons (.call (g__law_cell_at C) (.cons (.var 0) (.cons (.int 3) .nil))) (.cons (.var 6) .nil))) (.int 3)) (.int 2)))))) (.cons (.set (.v 7) (.call (g_begun C) (.cons (.var 4) (.cons (.new (.comp (.v 8) (.r (.var 2)) .no (.v (.new (.cp (.var 5)))))) .nil)))) (.cons (.for (.v 6) (.r (.var 3)) (.cons (.set (.v 9) (.new (.lst (.cons (.v (.call (g__law_mixed C) (.cons (.call (g__law_cell_at C) (.cons (.var 0) (.cons (.int 4) .nil))) (.cons (.bin .mul (.int 2) (.var 6)) .nil)))) (.cons (.v (.call (g__law_mixed C) (.cons (.call (g__law_cell_at C) (.cons (.var 0) (.cons (.int 5) .nil))) (.cons (.bin .add (.bin .mul (.int 2) (.var 6)) (.int 1)) .nil)))) .nil))))) (.cons (.set (.v 7) (.call (g__law_meeting C) (.cons (.var 7) (.cons (.var 9) (.cons (.var 2) (.cons (.ix (.var 5) (.var 6)) (.cons (.bin .mod (.cnt (.new (.sl (.var 5) .no (.so (.var 6)))) (.ix (.var 5) (.var 6))) (.int 2)) .nil))))))) (.cons (.ite (.isN true (.var 7)) (.cons (.ret (.bl false)) .nil) .nil) .nil)))) (.cons (.ret (.call (g__law_often C) (.cons (.var 7) (.cons (.var 2) (.cons (.var 5) .nil))))) .nil))))))))))
theorem emod_ex (c : Int) {m : Nat} (h : 0 < m) : ∃ k : Nat, c % (m : Int) = k ∧ k < m := by
  have h1 := Int.emod_nonneg c (show (m : Int) ≠ 0 by omega)
  have h2 := Int.emod_lt_of_pos c (show (0 : Int) < m by omega)
  exact ⟨(c % m).toNat, by omega, by omega⟩
theorem cg_ok {n : Nat} {l1 l2 : List Nat} {k1 k2 : Bool} {r : List Nat} (h1 : 1 ≤ n) (h2 : n ≤ 12) (o1 : Ordr n l1) (o2 : Ordr n l2) (hr : r.length ≤ 40) (hg : ∀ g ∈ r, g < 2) : GOk [(k1, l1), (k2, l2)] (List.replicate n r) := by
  have mo : ∀ l, Ordr n l → MemOk n l := fun l o => ⟨fun e => by have := o.len; rw [e] at this; simp at this; omega, o.nd, o.lt⟩
  refine ⟨by simp; omega, by simp, fun g hg => ?_, fun w x hx => ?_⟩
  · rw [List.length_replicate]
    rcases List.mem_cons.mp hg with rfl | hg
    · exact mo _ o1
    · rw [List.mem_singleton.mp hg]; exact mo _ o2
  · have hw : w < n := by have := (List.getElem?_eq_some_iff.mp hx).1; simpa using this
    have hx := List.eq_of_mem_replicate (List.mem_of_getElem? hx)
    subst hx
    refine ⟨hr, fun g hg' => ?_⟩
    have := hg g hg'
    rcases (show g = 0 ∨ g = 1 by omega) with rfl | rfl
    · exact ⟨_, rfl, o1.mem hw⟩
    · exact ⟨_, rfl, o2.mem hw⟩
theorem btw0 {n : Nat} {l1 l2 : List Nat} {r : List Nat} (o1 : Ordr n l1) (o2 : Ordr n l2) (go : GOk [(false, l1), (false, l2)] (List.replicate n r)) : Btw (hm0 [(false, l1), (false, l2)] (List.replicate n r)) n r 0 := by
  have e : ∀ g, g < 2 → ((hm0 [(false, l1), (false, l2)] (List.replicate n r)).gt g).1 = false ∧ ((hm0 [(false, l1), (false, l2)] (List.replicate n r)).gt g).2.length = n := fun g hg => by
    rcases (show g = 0 ∨ g = 1 by omega) with rfl | rfl
    · exact ⟨rfl, o1.len⟩
    · exact ⟨rfl, o2.len⟩
  refine ⟨⟨hm0_ok go, rfl, rfl, fun g hg => (e g hg).1, fun g hg => (e g hg).2⟩, fun w hw => hm0_sd (by rw [List.length_replicate]; exact hw), fun g hg => ?_⟩
  rw [hm0_st (by exact hg)]
  unfold fbx
  rw [if_neg (by rw [(e g hg).1]; decide), (e g hg).2]
  rfl
theorem ok_law (C : Addr) : LawD 10 (b_law C) := fun ns hns => by
  unfold b_law
  change wpSs noX [.dat (sD ns), .un, .un, .un, .un, .un, .un, .un, .un, .un] _ _
  have cl : ∀ {v : DD.Env}, v[0]? = some (.dat (sD ns)) → ∀ (k : Nat), ownRoots v (.cons (.var 0) (.cons (.int (k : Int)) .nil)) = [] → VE noX v (.call (g__law_cell_at C) (.cons (.var 0) (.cons (.int (k : Int)) .nil))) (.int (ns.getD k 0)) := fun h k ho => ve_cell (ve_var h) ho
  refine w_set (cl rfl 0 rfl) ?_
  refine wp_cut (fun u => ∃ n : Nat, 1 ≤ n ∧ n ≤ 5 ∧ u = [.dat (sD ns), .dat (.int (ns.getD 0 0)), .dat (iD n), .un, .un, .un, .un, .un, .un, .un]) ?_ ?_
  · obtain ⟨k, e, h1⟩ := emod_ex (ns.getD 0 0) (show 0 < 5 by decide)
    exact (ve_add ve_int (ve_mod (ve_var rfl) ve_int (by decide)) : VE noX _ _ _).use ⟨1 + k, by omega, by omega, by
      show [_, _, Tr.dat (.int (1 + ns.getD 0 0 % 5)), _, _, _, _, _, _, _] = _
      rw [show (5 : Int) = ((5 : Nat) : Int) from rfl, e]
      congr 4⟩
  rintro u ⟨n, n1, n2, rfl⟩
  refine wp_cut (fun u => ∃ n : Nat, 1 ≤ n ∧ n ≤ 12 ∧ u = [.dat (sD ns), .dat (.int (ns.getD 0 0)), .dat (iD n), .un, .un, .un, .un, .un, .un, .un]) ?_ ?_
  · refine (ve_eqI (ve_mod (ve_div (ve_var rfl) ve_int ⟨by decide, by decide⟩) ve_int (by decide)) ve_int).use ⟨fun q => ?_, fun q => ?_⟩
    · obtain ⟨k, e, h1⟩ := emod_ex (ns.getD 0 0 / 20) (show 0 < 7 by decide)
      refine w_set (d := iD (6 + k)) ((ve_add ve_int (ve_mod (ve_div (ve_var rfl) ve_int ⟨by decide, by decide⟩) ve_int (by decide))).to (by rw [show (7 : Int) = ((7 : Nat) : Int) from rfl, e]; rfl)) ?_
      exact w_nil (X := noX) ⟨6 + k, by omega, by omega, rfl⟩
    · exact w_nil (X := noX) ⟨n, n1, by omega, rfl⟩
  clear n1 n2
  rintro u ⟨n, n1, n2, rfl⟩
  refine wp_cut (fun u => ∃ f : Nat, f ≤ 4 ∧ u = [.dat (sD ns), .dat (.int (ns.getD 0 0)), .dat (iD n), .dat (iD f), .un, .un, .un, .un, .un, .un]) ?_ ?_
  · obtain ⟨k, e, h1⟩ := emod_ex (ns.getD 1 0) (show 0 < 5 by decide)
    exact (ve_mod (cl rfl 1 rfl) ve_int (by decide) : VE noX _ _ _).use ⟨k, by omega, by rw [show (5 : Int) = ((5 : Nat) : Int) from rfl, e]; rfl⟩
  rintro u ⟨f, f1, rfl⟩
  refine wp_cut (fun u => ∃ f : Nat, f ≤ 40 ∧ u = [.dat (sD ns), .dat (.int (ns.getD 0 0)), .dat (iD n), .dat (iD f), .un, .un, .un, .un, .un, .un]) ?_ ?_
  · refine (ve_and (ve_lt (i := ((n : Nat) : Int)) (ve_var rfl) ve_int) fun _ => ve_eqI (ve_mod (ve_div (cl rfl 1 rfl) ve_int ⟨by decide, by decide⟩) ve_int (by decide)) ve_int).use ⟨fun q => ?_, fun q => ?_⟩
    · obtain ⟨k, e, h1⟩ := emod_ex (ns.getD 1 0 / 40) (show 0 < 36 by decide)
      refine w_set (d := iD (5 + k)) ((ve_add ve_int (ve_mod (ve_div (cl rfl 1 rfl) ve_int ⟨by decide, by decide⟩) ve_int (by decide))).to (by rw [show (36 : Int) = ((36 : Nat) : Int) from rfl, e]; rfl)) ?_
      exact w_nil (X := noX) ⟨5 + k, by omega, rfl⟩
    · exact w_nil (X := noX) ⟨f, by omega, rfl⟩
  clear f1
  rintro u ⟨f, f1, rfl⟩
  refine wp_cut (fun u => ∃ l1 l2, Ordr n l1 ∧ Ordr n l2 ∧ u = [.dat (sD ns), .dat (.int (ns.getD 0 0)), .dat (iD n), .dat (iD f), .dat (gtD [(false, l1), (false, l2)]), .un, .un, .un, .un, .un]) ?_ ?_
  · rw [wpS, wpE, wpN, wpIs, wpI, wpE, wpEs, wpE, wpEs]
    refine wc_order (by omega) (cl rfl 2 rfl) (ve_var rfl) rfl fun l1 o1 => ?_
    rw [wpEs]
    refine ⟨rfl, ?_⟩
    simp only [asD]
    rw [wpIs, wpI, wpE, wpEs, wpE, wpEs]
    refine wc_order (by omega) (ve_var rfl) (ve_var rfl) rfl fun l2 o2 => ?_
    rw [wpEs]
    refine ⟨rfl, ?_⟩
    simp only [asD]
    rw [wpIs]
    exact ⟨rfl, l1, l2, o1, o2, rfl⟩
  rintro u ⟨l1, l2, o1, o2, rfl⟩
  have hdr : ∀ k : Nat, mixF (ns.getD 3 0) (k : Int) / 3 % 2 = ((mixF (ns.getD 3 0) (k : Int) / 3 % 2).toNat : Nat) := fun k => by omega
  generalize hr : (List.range f).map (fun k : Nat => (mixF (ns.getD 3 0) (k : Int) / 3 % 2).toNat) = r
  have hrl : r.length = f := by rw [← hr]; simp
  have hrg : ∀ g ∈ r, g < 2 := fun g hg => by
    rw [← hr] at hg
    obtain ⟨k, _, rfl⟩ := List.mem_map.mp hg
    omega
  refine w_set (d := nL r) ?_ ?_
  · refine (ve_comp (c := iD) (g := fun k : Nat => .int (mixF (ns.getD 3 0) (k : Int) / 3 % 2)) (as := List.range f) (sr_r (ve_var rfl) (by omega)) (by simp; omega) fun k _ => ?_).to ?_
    · show wpI noX [_, _, _, _, _, _, .dat (iD k), _, _, _] _ _
      exact wi_v (ve_mod (ve_div (ve_mixed (cl rfl 3 rfl) (ve_var rfl) rfl) ve_int ⟨by decide, by decide⟩) ve_int (by decide))
    · unfold nL
      rw [← hr, List.map_map]
      congr 1
      exact List.map_congr_left fun k _ => by show Dt.int _ = Dt.int _; congr 1; exact hdr k
  have go : GOk [(false, l1), (false, l2)] (List.replicate n r) := cg_ok n1 n2 o1 o2 (by omega) hrg
  refine w_set (ve_begun go (ve_var rfl) ?_ rfl) ?_
  · refine (ve_comp (c := iD) (g := fun _ : Nat => nL r) (as := List.range n) (sr_r (ve_var rfl) (by omega)) (by simp; omega) fun k _ => ?_).to ?_
    · show wpI noX [_, _, _, _, _, _, _, _, .dat (iD k), _] _ _
      exact wi_v (ve_cpL (ve_var rfl))
    · unfold rwD
      rw [List.map_replicate]
      congr 1
      rw [List.map_const', List.length_range]
      rfl
  refine w_for (c := iD) (List.range f) (sr_r (ve_var rfl) (by omega)) (fun k u => ∃ h a b, u = [.dat (sD ns), .dat (.int (ns.getD 0 0)), .dat (iD n), .dat (iD f), .dat (gtD [(false, l1), (false, l2)]), .dat (nL r), a, .dat (hallD C h), .un, b] ∧ Btw h n r k) ⟨_, _, _, rfl, btw0 o1 o2 go⟩ ?_ ?_
  · rintro k x u hx ⟨h, a, b, rfl, hb⟩
    have hk : k < f := by simpa using (List.getElem?_eq_some_iff.mp hx).1
    have hxk : x = k := by rw [List.getElem?_range hk] at hx; exact (Option.some.inj hx).symm
    subst hxk
    have eg : r[x]? = some (r.getD x 0) := getD_lt (by omega)
    have hg := hrg _ (List.mem_of_getElem? eg)
    show wpSs noX [_, _, _, _, _, _, .dat (iD x), _, _, _] _ _
    refine w_set (d := .lst [.int (mixF (ns.getD 4 0) (2 * (x : Int))), .int (mixF (ns.getD 5 0) (2 * (x : Int) + 1))]) (ve_lst (vi2 (ve_mixed (cl rfl 4 rfl) (ve_mul ve_int (ve_var rfl) (.inl ⟨by decide, by decide⟩)) rfl) (ve_mixed (cl rfl 5 rfl) (ve_add (ve_mul ve_int (ve_var rfl) (.inl ⟨by decide, by decide⟩)) ve_int) rfl))) ?_
    have vg : ∀ {v : DD.Env}, v[5]? = some (.dat (nL r)) → v[6]? = some (.dat (iD x)) → VE noX v (.ix (.var 5) (.var 6)) (iD (r.getD x 0)) := fun a b => ve_ixL (ds := r.map iD) (ve_var a) (ve_var b) (get_map eg)
    refine w_setW (wc_S ⟨h, _, _, n, r.getD x 0, csg (cntTo r x (r.getD x 0))⟩ (ves_cons (ve_var rfl) (ves_cons (ve_var rfl) (ves3 (ve_var rfl) (vg rfl rfl) ((ve_mod (i := ((cntTo r x (r.getD x 0) : Nat) : Int)) (ve_cntL (ve_slL_to (l := r) (f := iD) (ve_var rfl) (ve_var rfl)) (vg rfl rfl)) ve_int (by decide)).to (by unfold csg; congr 1))))) rfl ⟨n1, r, x, hb, eg, hg, rfl⟩ me_inj ?_)
    rintro d ⟨h', rfl, q⟩
    refine w_if1f ((ve_isN (ve_var rfl)).to rfl) ?_
    exact w_nil (X := noX) ⟨h', _, _, rfl, q r x hb⟩
  · rintro u ⟨h, a, b, rfl, hb⟩
    rw [List.length_range, ← hrl] at hb
    refine w_ret (d := .bl true) (vc_S (h, n, r) (ves3 (ve_var rfl) (ve_var rfl) (ve_var rfl)) rfl hb (inj3 hallD_inj natI nL_inj) fun d q => q) rfl
end K05
namespace K05
open PySem PySem.Spec PyProof.Rows L2 DL DD LB
def topS (i : Nat) : Stmt := PySem.Challenge.pw_barrierrow_k05_a_gate_that_counts.main.body.getD i (.Pass ⟨0, 0, 0, 0⟩)
abbrev s_rounds : Stmt := topS 8
theorem sc_rounds : FnScope ["many", "turn"] ["many"] (defScope s_rounds) := ⟨rfl, rfl, rfl, by decide +kernel, rfl, by decide +kernel, by decide +kernel⟩
abbrev s_partner : Stmt := topS 9
theorem sc_partner : FnScope ["place", "turn", "many"] ["place", "turn", "many"] (defScope s_partner) := ⟨rfl, rfl, rfl, by decide +kernel, rfl, by decide +kernel, by decide +kernel⟩
abbrev s_check_gate : Stmt := topS 20
theorem sc_check_gate : FnScope ["word", "members", "walkers", "member"] ["word", "members", "walkers"] (defScope s_check_gate) := ⟨rfl, rfl, rfl, by decide +kernel, rfl, by decide +kernel, by decide +kernel⟩
abbrev s_check_row : Stmt := topS 21
theorem sc_check_row : FnScope ["gates", "walker", "row", "gate"] ["gates", "walker", "row"] (defScope s_check_row) := ⟨rfl, rfl, rfl, by decide +kernel, rfl, by decide +kernel, by decide +kernel⟩
abbrev s_check_lists : Stmt := topS 19
theorem sc_check_lists : FnScope ["gates", "rows", "word", "members", "walker", "row"] ["gates", "rows"] (defScope s_check_lists) := ⟨rfl, rfl, rfl, by decide +kernel, rfl, by decide +kernel, by decide +kernel⟩
abbrev s_first_boxes : Stmt := topS 22
theorem sc_first_boxes : FnScope ["word", "many"] ["word", "many"] (defScope s_first_boxes) := ⟨rfl, rfl, rfl, by decide +kernel, rfl, by decide +kernel, by decide +kernel⟩
abbrev s_begun : Stmt := topS 18
theorem sc_begun : FnScope ["gates", "rows", "word", "members", "row"] ["gates", "rows"] (defScope s_begun) := ⟨rfl, rfl, rfl, by decide +kernel, rfl, by decide +kernel, by decide +kernel⟩
abbrev s_need_walker : Stmt := topS 23
theorem sc_need_walker : FnScope ["hall", "walker"] ["hall", "walker"] (defScope s_need_walker) := ⟨rfl, rfl, rfl, by decide +kernel, rfl, by decide +kernel, by decide +kernel⟩
abbrev s_need_gate : Stmt := topS 24
theorem sc_need_gate : FnScope ["hall", "gate"] ["hall", "gate"] (defScope s_need_gate) := ⟨rfl, rfl, rfl, by decide +kernel, rfl, by decide +kernel, by decide +kernel⟩
abbrev s_passed : Stmt := topS 25
theorem sc_passed : FnScope ["hall", "walker", "gate", "done"] ["hall", "walker", "gate"] (defScope s_passed) := ⟨rfl, rfl, rfl, by decide +kernel, rfl, by decide +kernel, by decide +kernel⟩
abbrev s_ahead : Stmt := topS 29
theorem sc_ahead : FnScope ["hall", "walker", "done", "word", "_", "row"] ["hall", "walker"] (defScope s_ahead) := ⟨rfl, rfl, rfl, by decide +kernel, rfl, by decide +kernel, by decide +kernel⟩
abbrev s_within : Stmt := topS 27
theorem sc_within : FnScope ["hall", "walker", "gate", "word"] ["hall", "walker"] (defScope s_within) := ⟨rfl, rfl, rfl, by decide +kernel, rfl, by decide +kernel, by decide +kernel⟩
abbrev s_came : Stmt := topS 26
theorem sc_came : FnScope ["hall", "walker", "gate", "times"] ["hall", "walker", "gate"] (defScope s_came) := ⟨rfl, rfl, rfl, by decide +kernel, rfl, by decide +kernel, by decide +kernel⟩
abbrev s_boxes : Stmt := topS 28
theorem sc_boxes : FnScope ["hall", "gate", "store", "own"] ["hall", "gate"] (defScope s_boxes) := ⟨rfl, rfl, rfl, by decide +kernel, rfl, by decide +kernel, by decide +kernel⟩
abbrev s_this_visit : Stmt := topS 35
theorem sc_this_visit : FnScope ["hall", "walker", "gate"] ["hall", "walker", "gate"] (defScope s_this_visit) := ⟨rfl, rfl, rfl, by decide +kernel, rfl, by decide +kernel, by decide +kernel⟩
abbrev s_count_sign : Stmt := topS 36
theorem sc_count_sign : FnScope ["visit"] ["visit"] (defScope s_count_sign) := ⟨rfl, rfl, rfl, by decide +kernel, rfl, by decide +kernel, by decide +kernel⟩
abbrev s_row_sign : Stmt := topS 37
theorem sc_row_sign : FnScope ["visit"] ["visit"] (defScope s_row_sign) := ⟨rfl, rfl, rfl, by decide +kernel, rfl, by decide +kernel, by decide +kernel⟩
abbrev s_box_number : Stmt := topS 38
theorem sc_box_number : FnScope ["turn", "visit", "many"] ["turn", "visit", "many"] (defScope s_box_number) := ⟨rfl, rfl, rfl, by decide +kernel, rfl, by decide +kernel, by decide +kernel⟩
abbrev s_in_vain : Stmt := topS 34
theorem sc_in_vain : FnScope ["hall", "walker", "gate", "word", "visit", "members", "own", "turn"] ["hall", "walker"] (defScope s_in_vain) := ⟨rfl, rfl, rfl, by decide +kernel, rfl, by decide +kernel, by decide +kernel⟩
abbrev s_with_item : Stmt := topS 33
theorem sc_with_item : FnScope ["items", "at", "item"] ["items", "at", "item"] (defScope s_with_item) := ⟨rfl, rfl, rfl, by decide +kernel, rfl, by decide +kernel, by decide +kernel⟩
abbrev s_behind_counting : Stmt := topS 39
theorem sc_behind_counting : FnScope ["hall", "walker", "gate", "done", "word", "_", "left", "side"] ["hall", "walker", "gate"] (defScope s_behind_counting) := ⟨rfl, rfl, rfl, by decide +kernel, rfl, by decide +kernel, by decide +kernel⟩
abbrev s_ahead_of_round : Stmt := topS 41
theorem sc_ahead_of_round : FnScope ["done", "turn", "many"] ["done", "turn", "many"] (defScope s_ahead_of_round) := ⟨rfl, rfl, rfl, by decide +kernel, rfl, by decide +kernel, by decide +kernel⟩
abbrev s_behind_tell : Stmt := topS 42
theorem sc_behind_tell : FnScope ["hall", "walker", "gate", "members", "many", "store", "turn", "visit", "place", "told"] ["hall", "walker", "gate"] (defScope s_behind_tell) := ⟨rfl, rfl, rfl, by decide +kernel, rfl, by decide +kernel, by decide +kernel⟩
abbrev s_behind_row : Stmt := topS 40
theorem sc_behind_row : FnScope ["hall", "walker", "gate", "done", "word", "turn", "store", "many"] ["hall", "walker", "gate"] (defScope s_behind_row) := ⟨rfl, rfl, rfl, by decide +kernel, rfl, by decide +kernel, by decide +kernel⟩
abbrev s_same : Stmt := topS 32
theorem sc_same : FnScope ["hall"] ["hall"] (defScope s_same) := ⟨rfl, rfl, rfl, by decide +kernel, rfl, by decide +kernel, by decide +kernel⟩
abbrev s_stepped : Stmt := topS 31
theorem sc_stepped : FnScope ["hall", "walker", "gate", "word", "stand", "store", "stands", "stores"] ["hall", "walker"] (defScope s_stepped) := ⟨rfl, rfl, rfl, by decide +kernel, rfl, by decide +kernel, by decide +kernel⟩
abbrev s__law_cell_at : Stmt := topS 44
theorem sc__law_cell_at : FnScope ["_law_script", "_law_k"] ["_law_script", "_law_k"] (defScope s__law_cell_at) := ⟨rfl, rfl, rfl, by decide +kernel, rfl, by decide +kernel, by decide +kernel⟩
abbrev s__law_whole : Stmt := topS 45
theorem sc__law_whole : FnScope ["_law_found"] ["_law_found"] (defScope s__law_whole) := ⟨rfl, rfl, rfl, by decide +kernel, rfl, by decide +kernel, by decide +kernel⟩
abbrev s__law_mixed : Stmt := topS 46
theorem sc__law_mixed : FnScope ["_law_cell", "_law_k", "_law_drawn"] ["_law_cell", "_law_k"] (defScope s__law_mixed) := ⟨rfl, rfl, rfl, by decide +kernel, rfl, by decide +kernel, by decide +kernel⟩
abbrev s__law_order : Stmt := topS 47
theorem sc__law_order : FnScope ["_law_cell", "_law_many", "_law_left", "_law_found", "_law_k"] ["_law_cell", "_law_many"] (defScope s__law_order) := ⟨rfl, rfl, rfl, by decide +kernel, rfl, by decide +kernel, by decide +kernel⟩
abbrev s__law_done : Stmt := topS 48
theorem sc__law_done : FnScope ["_law_hall", "_law_walker", "_law_gate", "_law_word", "_law_found", "_law_told"] ["_law_hall", "_law_walker", "_law_gate", "_law_word"] (defScope s__law_done) := ⟨rfl, rfl, rfl, by decide +kernel, rfl, by decide +kernel, by decide +kernel⟩
abbrev s__law_kept : Stmt := topS 49
theorem sc__law_kept : FnScope ["_law_hall", "_law_gate", "_law_left", "_law_side", "_law_other", "_law_found"] ["_law_hall", "_law_gate", "_law_left", "_law_side", "_law_other"] (defScope s__law_kept) := ⟨rfl, rfl, rfl, by decide +kernel, rfl, by decide +kernel, by decide +kernel⟩
abbrev s__law_coming : Stmt := topS 50
theorem sc__law_coming : FnScope ["_law_hall", "_law_line", "_law_gate", "_law_side", "_law_looks", "_law_other", "_law_k"] ["_law_hall", "_law_line", "_law_gate", "_law_side", "_law_looks"] (defScope s__law_coming) := ⟨rfl, rfl, rfl, by decide +kernel, rfl, by decide +kernel, by decide +kernel⟩
abbrev s__law_turning : Stmt := topS 51
theorem sc__law_turning : FnScope ["_law_hall", "_law_line", "_law_gate", "_law_side", "_law_looks", "_law_other", "_law_many"] ["_law_hall", "_law_line", "_law_gate", "_law_side", "_law_looks"] (defScope s__law_turning) := ⟨rfl, rfl, rfl, by decide +kernel, rfl, by decide +kernel, by decide +kernel⟩
abbrev s__law_passing : Stmt := topS 52
theorem sc__law_passing : FnScope ["_law_hall", "_law_line", "_law_gate", "_law_last", "_law_walker"] ["_law_hall", "_law_line", "_law_gate", "_law_last"] (defScope s__law_passing) := ⟨rfl, rfl, rfl, by decide +kernel, rfl, by decide +kernel, by decide +kernel⟩
abbrev s__law_meeting : Stmt := topS 53
theorem sc__law_meeting : FnScope ["_law_hall", "_law_cells", "_law_many", "_law_gate", "_law_side", "_law_line"] ["_law_hall", "_law_cells", "_law_many", "_law_gate", "_law_side"] (defScope s__law_meeting) := ⟨rfl, rfl, rfl, by decide +kernel, rfl, by decide +kernel, by decide +kernel⟩
abbrev s__law_often : Stmt := topS 54
theorem sc__law_often : FnScope ["_law_hall", "_law_many", "_law_row", "_law_walker", "_law_found", "_law_gate"] ["_law_hall", "_law_many", "_law_row"] (defScope s__law_often) := ⟨rfl, rfl, rfl, by decide +kernel, rfl, by decide +kernel, by decide +kernel⟩
abbrev s_law : Stmt := topS 55
theorem sc_law : FnScope ["_law_script", "_law_cell", "_law_many", "_law_often_here", "_law_gates", "_law_row", "_law_k", "_law_hall", "_law_walker", "_law_cells"] ["_law_script"] (defScope s_law) := ⟨rfl, rfl, rfl, by decide +kernel, rfl, by decide +kernel, by decide +kernel⟩
abbrev s_init : Stmt := inClass (topS 17) 0
theorem sc_init : FnScope hallN hallN (defScope s_init) := ⟨rfl, rfl, rfl, by decide +kernel, rfl, by decide +kernel, by decide +kernel⟩
theorem m_rounds (C : Addr) : mSs ["many", "turn"] 0 (defScope s_rounds) [0] (b_rounds C) (defBody s_rounds) = true := rfl
theorem m_partner (C : Addr) : mSs ["place", "turn", "many"] 0 (defScope s_partner) [0, 1, 2] (b_partner C) (defBody s_partner) = true := rfl
theorem m_check_gate (C : Addr) : mSs ["word", "members", "walkers", "member"] 0 (defScope s_check_gate) [0, 1, 2] (b_check_gate C) (defBody s_check_gate) = true := rfl
theorem m_check_row (C : Addr) : mSs ["gates", "walker", "row", "gate"] 0 (defScope s_check_row) [0, 1, 2] (b_check_row C) (defBody s_check_row) = true := rfl
theorem m_check_lists (C : Addr) : mSs ["gates", "rows", "word", "members", "walker", "row"] 1 (defScope s_check_lists) [0, 1] (b_check_lists C) (defBody s_check_lists) = true := rfl
theorem m_first_boxes (C : Addr) : mSs ["word", "many"] 1 (defScope s_first_boxes) [0, 1] (b_first_boxes C) (defBody s_first_boxes) = true := rfl
theorem m_begun (C : Addr) : mSs ["gates", "rows", "word", "members", "row"] 2 (defScope s_begun) [0, 1] (b_begun C) (defBody s_begun) = true := rfl
theorem m_need_walker (C : Addr) : mSs ["hall", "walker"] 0 (defScope s_need_walker) [0, 1] (b_need_walker C) (defBody s_need_walker) = true := rfl
theorem m_need_gate (C : Addr) : mSs ["hall", "gate"] 0 (defScope s_need_gate) [0, 1] (b_need_gate C) (defBody s_need_gate) = true := rfl
theorem m_passed (C : Addr) : mSs ["hall", "walker", "gate", "done"] 1 (defScope s_passed) [0, 1, 2] (b_passed C) (defBody s_passed) = true := rfl
theorem m_ahead (C : Addr) : mSs ["hall", "walker", "done", "word", "_", "row"] 1 (defScope s_ahead) [0, 1] (b_ahead C) (defBody s_ahead) = true := rfl
theorem m_within (C : Addr) : mSs ["hall", "walker", "gate", "word"] 2 (defScope s_within) [0, 1] (b_within C) (defBody s_within) = true := rfl
theorem m_came (C : Addr) : mSs ["hall", "walker", "gate", "times"] 3 (defScope s_came) [0, 1, 2] (b_came C) (defBody s_came) = true := rfl
theorem m_boxes (C : Addr) : mSs ["hall", "gate", "store", "own"] 1 (defScope s_boxes) [0, 1] (b_boxes C) (defBody s_boxes) = true := rfl
theorem m_this_visit (C : Addr) : mSs ["hall", "walker", "gate"] 2 (defScope s_this_visit) [0, 1, 2] (b_this_visit C) (defBody s_this_visit) = true := rfl
theorem m_count_sign (C : Addr) : mSs ["visit"] 0 (defScope s_count_sign) [0] (b_count_sign C) (defBody s_count_sign) = true := rfl
theorem m_row_sign (C : Addr) : mSs ["visit"] 0 (defScope s_row_sign) [0] (b_row_sign C) (defBody s_row_sign) = true := rfl
theorem m_box_number (C : Addr) : mSs ["turn", "visit", "many"] 1 (defScope s_box_number) [0, 1, 2] (b_box_number C) (defBody s_box_number) = true := rfl
theorem m_in_vain (C : Addr) : mSs ["hall", "walker", "gate", "word", "visit", "members", "own", "turn"] 3 (defScope s_in_vain) [0, 1] (b_in_vain C) (defBody s_in_vain) = true := rfl
theorem m_with_item (C : Addr) : mSs ["items", "at", "item"] 0 (defScope s_with_item) [0, 1, 2] (b_with_item C) (defBody s_with_item) = true := rfl
theorem m_behind_counting (C : Addr) : mSs ["hall", "walker", "gate", "done", "word", "_", "left", "side"] 3 (defScope s_behind_counting) [0, 1, 2] (b_behind_counting C) (defBody s_behind_counting) = true := rfl
theorem m_ahead_of_round (C : Addr) : mSs ["done", "turn", "many"] 1 (defScope s_ahead_of_round) [0, 1, 2] (b_ahead_of_round C) (defBody s_ahead_of_round) = true := rfl
theorem m_behind_tell (C : Addr) : mSs ["hall", "walker", "gate", "members", "many", "store", "turn", "visit", "place", "told"] 3 (defScope s_behind_tell) [0, 1, 2] (b_behind_tell C) (defBody s_behind_tell) = true := rfl
theorem m_behind_row (C : Addr) : mSs ["hall", "walker", "gate", "done", "word", "turn", "store", "many"] 4 (defScope s_behind_row) [0, 1, 2] (b_behind_row C) (defBody s_behind_row) = true := rfl
theorem m_same (C : Addr) : mSs ["hall"] 2 (defScope s_same) [0] (b_same C) (defBody s_same) = true := rfl
theorem m_stepped (C : Addr) : mSs ["hall", "walker", "gate", "word", "stand", "store", "stands", "stores"] 5 (defScope s_stepped) [0, 1] (b_stepped C) (defBody s_stepped) = true := rfl
theorem m__law_cell_at (C : Addr) : mSs ["_law_script", "_law_k"] 0 (defScope s__law_cell_at) [0, 1] (b__law_cell_at C) (defBody s__law_cell_at) = true := rfl
theorem m__law_whole (C : Addr) : mSs ["_law_found"] 0 (defScope s__law_whole) [0] (b__law_whole C) (defBody s__law_whole) = true := rfl
theorem m__law_mixed (C : Addr) : mSs ["_law_cell", "_law_k", "_law_drawn"] 0 (defScope s__law_mixed) [0, 1] (b__law_mixed C) (defBody s__law_mixed) = true := rfl
theorem m__law_order (C : Addr) : mSs ["_law_cell", "_law_many", "_law_left", "_law_found", "_law_k"] 1 (defScope s__law_order) [0, 1] (b__law_order C) (defBody s__law_order) = true := rfl
theorem m__law_done (C : Addr) : mSs ["_law_hall", "_law_walker", "_law_gate", "_law_word", "_law_found", "_law_told"] 6 (defScope s__law_done) [0, 1, 2, 3] (b__law_done C) (defBody s__law_done) = true := rfl
theorem m__law_kept (C : Addr) : mSs ["_law_hall", "_law_gate", "_law_left", "_law_side", "_law_other", "_law_found"] 2 (defScope s__law_kept) [0, 1, 2, 3, 4] (b__law_kept C) (defBody s__law_kept) = true := rfl
theorem m__law_coming (C : Addr) : mSs ["_law_hall", "_law_line", "_law_gate", "_law_side", "_law_looks", "_law_other", "_law_k"] 7 (defScope s__law_coming) [1, 2, 3, 4] (b__law_coming C) (defBody s__law_coming) = true := rfl
theorem m__law_turning (C : Addr) : mSs ["_law_hall", "_law_line", "_law_gate", "_law_side", "_law_looks", "_law_other", "_law_many"] 7 (defScope s__law_turning) [1, 2, 3, 4] (b__law_turning C) (defBody s__law_turning) = true := rfl
theorem m__law_passing (C : Addr) : mSs ["_law_hall", "_law_line", "_law_gate", "_law_last", "_law_walker"] 7 (defScope s__law_passing) [1, 2, 3] (b__law_passing C) (defBody s__law_passing) = true := rfl
theorem m__law_meeting (C : Addr) : mSs ["_law_hall", "_law_cells", "_law_many", "_law_gate", "_law_side", "_law_line"] 8 (defScope s__law_meeting) [1, 2, 3, 4] (b__law_meeting C) (defBody s__law_meeting) = true := rfl
theorem m__law_often (C : Addr) : mSs ["_law_hall", "_law_many", "_law_row", "_law_walker", "_law_found", "_law_gate"] 4 (defScope s__law_often) [0, 1, 2] (b__law_often C) (defBody s__law_often) = true := rfl
theorem m_law (C : Addr) : mSs ["_law_script", "_law_cell", "_law_many", "_law_often_here", "_law_gates", "_law_row", "_law_k", "_law_hall", "_law_walker", "_law_cells"] 9 (defScope s_law) [] (b_law C) (defBody s_law) = true := rfl
theorem init_ok (X : Cx) (h1 : X.N = hallN) (h2 : X.env.scope = defScope s_init) : PSs X (defBody s_init) (tInit X.K) := by
  have pv : ∀ (i : Nat) (n : Str) (p : Pos), hallN[i]? = some n → (defScope s_init).names.lookup n = some .local → (n == ("__debug__" : Str)) = false → (n == ("__classdict__" : Str)) = false → PE X (.Name n p) (tVar i) := fun i n p e1 e2 e3 e4 => pe_var (by rw [h1]; exact e1) (by rw [h2]; exact .inl e2) e3 e4
  exact pss_cons (ps_fld (pv 0 _ _ rfl rfl (by decide +kernel) (by decide +kernel)) (pv 1 _ _ rfl rfl (by decide +kernel) (by decide +kernel)) rfl) (pss_cons (ps_fld (pv 0 _ _ rfl rfl (by decide +kernel) (by decide +kernel)) (pv 2 _ _ rfl rfl (by decide +kernel) (by decide +kernel)) rfl) (pss_cons (ps_fld (pv 0 _ _ rfl rfl (by decide +kernel) (by decide +kernel)) (pv 3 _ _ rfl rfl (by decide +kernel) (by decide +kernel)) rfl) (pss_one (ps_fld (pv 0 _ _ rfl rfl (by decide +kernel) (by decide +kernel)) (pv 4 _ _ rfl rfl (by decide +kernel) (by decide +kernel)) rfl))))
theorem cls_some {K : PySem.W.Frag} {C : Addr} (h : PySem.W.hasDictIn K C = true) : (PySem.W.clsIn K C).isSome = true := by
  unfold PySem.W.hasDictIn at h
  cases e : PySem.W.clsIn K C with
  | none => rw [e] at h; cases h
  | some _ => rfl
theorem ca_eq {K : PySem.W.Frag} {mg : Str → Option Value} {ca : Str → Addr} {x : Str} {e : Addr} (h : Wd0 K mg ca x) (q : mg x = some (.ref e)) : ca x = e := by
  have a := h.here
  rw [q] at a
  injection a with a
  injection a with a
  exact a.symm
theorem kit_ref {K : PySem.W.Frag} {C X : Addr} {b : Bool} (hd : PySem.W.hasDictIn K X = true) (te : PySem.W.typeIn K (.ref X) = some (.type "type")) (s : PySem.W.subIn K (.ref C) (.ref X) = some b) (d : ((Value.ref C == Value.ref X) : Bool) = false ∨ b = true) : PySem.W.kitOne K (.ref C) (.ref X) = some b := by
  have hc := cls_some hd
  unfold PySem.W.kitOne
  by_cases z : ((Value.ref C == Value.ref X) : Bool) = true
  · rw [if_pos z]; rcases d with d | d
    · rw [z] at d; cases d
    · rw [d]
  · rw [if_neg z]; unfold PySem.W.kitCls; dsimp only; rw [hc, te, s]; rfl
theorem kit_type {K : PySem.W.Frag} {C : Addr} (s : PySem.W.subIn K (.ref C) (.type "ValueError") = some true) : PySem.W.kitOne K (.ref C) (.type "ValueError") = some true := by
  unfold PySem.W.kitOne
  rw [if_neg (by intro z; cases z)]
  unfold PySem.W.kitCls; dsimp only; rw [if_pos (by rfl), s]
theorem ca_mk {K : PySem.W.Frag} {mg : Str → Option Value} {e0 e1 e2 e3 e4 e5 : Addr} (h0 : OwnE K mg "HallError" e0) (h1 : OwnE K mg "NoHall" e1) (h2 : OwnE K mg "NoGate" e2) (h3 : OwnE K mg "NoRow" e3) (h4 : OwnE K mg "Stranger" e4) (h5 : OwnE K mg "NoWalker" e5) : ∃ ca : Str → Addr, Wd0 K mg ca "HallError" ∧ Wd0 K mg ca "NoHall" ∧ Wd0 K mg ca "NoGate" ∧ Wd0 K mg ca "NoRow" ∧ Wd0 K mg ca "Stranger" ∧ Wd0 K mg ca "NoWalker" := by
  refine ⟨fun x => if x = ("HallError" : Str) then e0 else if x = ("NoHall" : Str) then e1 else if x = ("NoGate" : Str) then e2 else if x = ("NoRow" : Str) then e3 else if x = ("Stranger" : Str) then e4 else if x = ("NoWalker" : Str) then e5 else 0, ?_, ?_, ?_, ?_, ?_, ?_⟩
  · show OwnE K mg "HallError" (if ("HallError" : Str) = ("HallError" : Str) then e0 else if ("HallError" : Str) = ("NoHall" : Str) then e1 else if ("HallError" : Str) = ("NoGate" : Str) then e2 else if ("HallError" : Str) = ("NoRow" : Str) then e3 else if ("HallError" : Str) = ("Stranger" : Str) then e4 else if ("HallError" : Str) = ("NoWalker" : Str) then e5 else 0)
    rw [if_pos rfl]; exact h0
  · show OwnE K mg "NoHall" (if ("NoHall" : Str) = ("HallError" : Str) then e0 else if ("NoHall" : Str) = ("NoHall" : Str) then e1 else if ("NoHall" : Str) = ("NoGate" : Str) then e2 else if ("NoHall" : Str) = ("NoRow" : Str) then e3 else if ("NoHall" : Str) = ("Stranger" : Str) then e4 else if ("NoHall" : Str) = ("NoWalker" : Str) then e5 else 0)
    rw [if_neg (by decide +kernel), if_pos rfl]; exact h1
  · show OwnE K mg "NoGate" (if ("NoGate" : Str) = ("HallError" : Str) then e0 else if ("NoGate" : Str) = ("NoHall" : Str) then e1 else if ("NoGate" : Str) = ("NoGate" : Str) then e2 else if ("NoGate" : Str) = ("NoRow" : Str) then e3 else if ("NoGate" : Str) = ("Stranger" : Str) then e4 else if ("NoGate" : Str) = ("NoWalker" : Str) then e5 else 0)
    rw [if_neg (by decide +kernel), if_neg (by decide +kernel), if_pos rfl]; exact h2
  · show OwnE K mg "NoRow" (if ("NoRow" : Str) = ("HallError" : Str) then e0 else if ("NoRow" : Str) = ("NoHall" : Str) then e1 else if ("NoRow" : Str) = ("NoGate" : Str) then e2 else if ("NoRow" : Str) = ("NoRow" : Str) then e3 else if ("NoRow" : Str) = ("Stranger" : Str) then e4 else if ("NoRow" : Str) = ("NoWalker" : Str) then e5 else 0)
    rw [if_neg (by decide +kernel), if_neg (by decide +kernel), if_neg (by decide +kernel), if_pos rfl]; exact h3
  · show OwnE K mg "Stranger" (if ("Stranger" : Str) = ("HallError" : Str) then e0 else if ("Stranger" : Str) = ("NoHall" : Str) then e1 else if ("Stranger" : Str) = ("NoGate" : Str) then e2 else if ("Stranger" : Str) = ("NoRow" : Str) then e3 else if ("Stranger" : Str) = ("Stranger" : Str) then e4 else if ("Stranger" : Str) = ("NoWalker" : Str) then e5 else 0)
    rw [if_neg (by decide +kernel), if_neg (by decide +kernel), if_neg (by decide +kernel), if_neg (by decide +kernel), if_pos rfl]; exact h4
  · show OwnE K mg "NoWalker" (if ("NoWalker" : Str) = ("HallError" : Str) then e0 else if ("NoWalker" : Str) = ("NoHall" : Str) then e1 else if ("NoWalker" : Str) = ("NoGate" : Str) then e2 else if ("NoWalker" : Str) = ("NoRow" : Str) then e3 else if ("NoWalker" : Str) = ("Stranger" : Str) then e4 else if ("NoWalker" : Str) = ("NoWalker" : Str) then e5 else 0)
    rw [if_neg (by decide +kernel), if_neg (by decide +kernel), if_neg (by decide +kernel), if_neg (by decide +kernel), if_neg (by decide +kernel), if_pos rfl]; exact h5
theorem all_mk {l : PySem.W.OpenLaw} {w : World} {K : PySem.W.Frag} {h : Heap} {mg : Str → Option Value} {fa : Addr} (X : K.In h) (G : h.Ns mainGlobals mg) (hfa : mg "law" = some (.ref fa))
    {f8 f9 f20 f21 f19 f22 f18 f23 f24 f25 f29 f27 f26 f28 f35 f36 f37 f38 f34 f33 f39 f41 f42 f40 f32 f31 f44 f45 f46 f47 f48 f49 f50 f51 f52 f53 f54 f55 f17 e1 e2 e3 e4 e5 e6 C : Addr}
    {od8 an8 od9 an9 od20 an20 od21 an21 od19 an19 od22 an22 od18 an18 od23 an23 od24 an24 od25 an25 od29 an29 od27 an27 od26 an26 od28 an28 od35 an35 od36 an36 od37 an37 od38 an38 od34 an34 od33 an33 od39 an39 od41 an41 od42 an42 od40 an40 od32 an32 od31 an31 od44 an44 od45 an45 od46 an46 od47 an47 od48 an48 od49 an49 od50 an50 od51 an51 od52 an52 od53 an53 od54 an54 od55 an55 od17 an17 : Option Addr} {sl8 sl9 sl20 sl21 sl19 sl22 sl18 sl23 sl24 sl25 sl29 sl27 sl26 sl28 sl35 sl36 sl37 sl38 sl34 sl33 sl39 sl41 sl42 sl40 sl32 sl31 sl44 sl45 sl46 sl47 sl48 sl49 sl50 sl51 sl52 sl53 sl54 sl55 sl17 : Array (Option Value)} {oc8 kV8 dc8 pm8 cd8 ct8 oc9 kV9 dc9 pm9 cd9 ct9 oc20 kV20 dc20 pm20 cd20 ct20 oc21 kV21 dc21 pm21 cd21 ct21 oc19 kV19 dc19 pm19 cd19 ct19 oc22 kV22 dc22 pm22 cd22 ct22 oc18 kV18 dc18 pm18 cd18 ct18 oc23 kV23 dc23 pm23 cd23 ct23 oc24 kV24 dc24 pm24 cd24 ct24 oc25 kV25 dc25 pm25 cd25 ct25 oc29 kV29 dc29 pm29 cd29 ct29 oc27 kV27 dc27 pm27 cd27 ct27 oc26 kV26 dc26 pm26 cd26 ct26 oc28 kV28 dc28 pm28 cd28 ct28 oc35 kV35 dc35 pm35 cd35 ct35 oc36 kV36 dc36 pm36 cd36 ct36 oc37 kV37 dc37 pm37 cd37 ct37 oc38 kV38 dc38 pm38 cd38 ct38 oc34 kV34 dc34 pm34 cd34 ct34 oc33 kV33 dc33 pm33 cd33 ct33 oc39 kV39 dc39 pm39 cd39 ct39 oc41 kV41 dc41 pm41 cd41 ct41 oc42 kV42 dc42 pm42 cd42 ct42 oc40 kV40 dc40 pm40 cd40 ct40 oc32 kV32 dc32 pm32 cd32 ct32 oc31 kV31 dc31 pm31 cd31 ct31 oc44 kV44 dc44 pm44 cd44 ct44 oc45 kV45 dc45 pm45 cd45 ct45 oc46 kV46 dc46 pm46 cd46 ct46 oc47 kV47 dc47 pm47 cd47 ct47 oc48 kV48 dc48 pm48 cd48 ct48 oc49 kV49 dc49 pm49 cd49 ct49 oc50 kV50 dc50 pm50 cd50 ct50 oc51 kV51 dc51 pm51 cd51 ct51 oc52 kV52 dc52 pm52 cd52 ct52 oc53 kV53 dc53 pm53 cd53 ct53 oc54 kV54 dc54 pm54 cd54 ct54 oc55 kV55 dc55 pm55 cd55 ct55 oc17 kV17 dc17 pm17 cd17 ct17 : Value}
    (a8 : PySem.W.nsIn K mainGlobals "rounds" = some (some (.ref f8))) (l8 : K.lookup f8 = some ⟨oc8, od8, .func (PySem.W.fnOf "rounds" "rounds" (defArgs s_rounds) (defBody s_rounds) (defScope s_rounds) .none kV8 dc8 pm8 an8 cd8 ct8), sl8⟩) (c8 : PySem.W.codeIn K cd8 "rounds" = true) (k8 : PySem.W.keepIn K (.ref f8) = true)
    (a9 : PySem.W.nsIn K mainGlobals "partner" = some (some (.ref f9))) (l9 : K.lookup f9 = some ⟨oc9, od9, .func (PySem.W.fnOf "partner" "partner" (defArgs s_partner) (defBody s_partner) (defScope s_partner) .none kV9 dc9 pm9 an9 cd9 ct9), sl9⟩) (c9 : PySem.W.codeIn K cd9 "partner" = true) (k9 : PySem.W.keepIn K (.ref f9) = true)
    (a20 : PySem.W.nsIn K mainGlobals "check_gate" = some (some (.ref f20))) (l20 : K.lookup f20 = some ⟨oc20, od20, .func (PySem.W.fnOf "check_gate" "check_gate" (defArgs s_check_gate) (defBody s_check_gate) (defScope s_check_gate) .none kV20 dc20 pm20 an20 cd20 ct20), sl20⟩) (c20 : PySem.W.codeIn K cd20 "check_gate" = true) (k20 : PySem.W.keepIn K (.ref f20) = true)
    (a21 : PySem.W.nsIn K mainGlobals "check_row" = some (some (.ref f21))) (l21 : K.lookup f21 = some ⟨oc21, od21, .func (PySem.W.fnOf "check_row" "check_row" (defArgs s_check_row) (defBody s_check_row) (defScope s_check_row) .none kV21 dc21 pm21 an21 cd21 ct21), sl21⟩) (c21 : PySem.W.codeIn K cd21 "check_row" = true) (k21 : PySem.W.keepIn K (.ref f21) = true)
    (a19 : PySem.W.nsIn K mainGlobals "check_lists" = some (some (.ref f19))) (l19 : K.lookup f19 = some ⟨oc19, od19, .func (PySem.W.fnOf "check_lists" "check_lists" (defArgs s_check_lists) (defBody s_check_lists) (defScope s_check_lists) .none kV19 dc19 pm19 an19 cd19 ct19), sl19⟩) (c19 : PySem.W.codeIn K cd19 "check_lists" = true) (k19 : PySem.W.keepIn K (.ref f19) = true)
    (a22 : PySem.W.nsIn K mainGlobals "first_boxes" = some (some (.ref f22))) (l22 : K.lookup f22 = some ⟨oc22, od22, .func (PySem.W.fnOf "first_boxes" "first_boxes" (defArgs s_first_boxes) (defBody s_first_boxes) (defScope s_first_boxes) .none kV22 dc22 pm22 an22 cd22 ct22), sl22⟩) (c22 : PySem.W.codeIn K cd22 "first_boxes" = true) (k22 : PySem.W.keepIn K (.ref f22) = true)
    (a18 : PySem.W.nsIn K mainGlobals "begun" = some (some (.ref f18))) (l18 : K.lookup f18 = some ⟨oc18, od18, .func (PySem.W.fnOf "begun" "begun" (defArgs s_begun) (defBody s_begun) (defScope s_begun) .none kV18 dc18 pm18 an18 cd18 ct18), sl18⟩) (c18 : PySem.W.codeIn K cd18 "begun" = true) (k18 : PySem.W.keepIn K (.ref f18) = true)
    (a23 : PySem.W.nsIn K mainGlobals "need_walker" = some (some (.ref f23))) (l23 : K.lookup f23 = some ⟨oc23, od23, .func (PySem.W.fnOf "need_walker" "need_walker" (defArgs s_need_walker) (defBody s_need_walker) (defScope s_need_walker) .none kV23 dc23 pm23 an23 cd23 ct23), sl23⟩) (c23 : PySem.W.codeIn K cd23 "need_walker" = true) (k23 : PySem.W.keepIn K (.ref f23) = true)
    (a24 : PySem.W.nsIn K mainGlobals "need_gate" = some (some (.ref f24))) (l24 : K.lookup f24 = some ⟨oc24, od24, .func (PySem.W.fnOf "need_gate" "need_gate" (defArgs s_need_gate) (defBody s_need_gate) (defScope s_need_gate) .none kV24 dc24 pm24 an24 cd24 ct24), sl24⟩) (c24 : PySem.W.codeIn K cd24 "need_gate" = true) (k24 : PySem.W.keepIn K (.ref f24) = true)
    (a25 : PySem.W.nsIn K mainGlobals "passed" = some (some (.ref f25))) (l25 : K.lookup f25 = some ⟨oc25, od25, .func (PySem.W.fnOf "passed" "passed" (defArgs s_passed) (defBody s_passed) (defScope s_passed) .none kV25 dc25 pm25 an25 cd25 ct25), sl25⟩) (c25 : PySem.W.codeIn K cd25 "passed" = true) (k25 : PySem.W.keepIn K (.ref f25) = true)
    (a29 : PySem.W.nsIn K mainGlobals "ahead" = some (some (.ref f29))) (l29 : K.lookup f29 = some ⟨oc29, od29, .func (PySem.W.fnOf "ahead" "ahead" (defArgs s_ahead) (defBody s_ahead) (defScope s_ahead) .none kV29 dc29 pm29 an29 cd29 ct29), sl29⟩) (c29 : PySem.W.codeIn K cd29 "ahead" = true) (k29 : PySem.W.keepIn K (.ref f29) = true)
    (a27 : PySem.W.nsIn K mainGlobals "within" = some (some (.ref f27))) (l27 : K.lookup f27 = some ⟨oc27, od27, .func (PySem.W.fnOf "within" "within" (defArgs s_within) (defBody s_within) (defScope s_within) .none kV27 dc27 pm27 an27 cd27 ct27), sl27⟩) (c27 : PySem.W.codeIn K cd27 "within" = true) (k27 : PySem.W.keepIn K (.ref f27) = true)
    (a26 : PySem.W.nsIn K mainGlobals "came" = some (some (.ref f26))) (l26 : K.lookup f26 = some ⟨oc26, od26, .func (PySem.W.fnOf "came" "came" (defArgs s_came) (defBody s_came) (defScope s_came) .none kV26 dc26 pm26 an26 cd26 ct26), sl26⟩) (c26 : PySem.W.codeIn K cd26 "came" = true) (k26 : PySem.W.keepIn K (.ref f26) = true)
    (a28 : PySem.W.nsIn K mainGlobals "boxes" = some (some (.ref f28))) (l28 : K.lookup f28 = some ⟨oc28, od28, .func (PySem.W.fnOf "boxes" "boxes" (defArgs s_boxes) (defBody s_boxes) (defScope s_boxes) .none kV28 dc28 pm28 an28 cd28 ct28), sl28⟩) (c28 : PySem.W.codeIn K cd28 "boxes" = true) (k28 : PySem.W.keepIn K (.ref f28) = true)
    (a35 : PySem.W.nsIn K mainGlobals "this_visit" = some (some (.ref f35))) (l35 : K.lookup f35 = some ⟨oc35, od35, .func (PySem.W.fnOf "this_visit" "this_visit" (defArgs s_this_visit) (defBody s_this_visit) (defScope s_this_visit) .none kV35 dc35 pm35 an35 cd35 ct35), sl35⟩) (c35 : PySem.W.codeIn K cd35 "this_visit" = true) (k35 : PySem.W.keepIn K (.ref f35) = true)
    (a36 : PySem.W.nsIn K mainGlobals "count_sign" = some (some (.ref f36))) (l36 : K.lookup f36 = some ⟨oc36, od36, .func (PySem.W.fnOf "count_sign" "count_sign" (defArgs s_count_sign) (defBody s_count_sign) (defScope s_count_sign) .none kV36 dc36 pm36 an36 cd36 ct36), sl36⟩) (c36 : PySem.W.codeIn K cd36 "count_sign" = true) (k36 : PySem.W.keepIn K (.ref f36) = true)
    (a37 : PySem.W.nsIn K mainGlobals "row_sign" = some (some (.ref f37))) (l37 : K.lookup f37 = some ⟨oc37, od37, .func (PySem.W.fnOf "row_sign" "row_sign" (defArgs s_row_sign) (defBody s_row_sign) (defScope s_row_sign) .none kV37 dc37 pm37 an37 cd37 ct37), sl37⟩) (c37 : PySem.W.codeIn K cd37 "row_sign" = true) (k37 : PySem.W.keepIn K (.ref f37) = true)
    (a38 : PySem.W.nsIn K mainGlobals "box_number" = some (some (.ref f38))) (l38 : K.lookup f38 = some ⟨oc38, od38, .func (PySem.W.fnOf "box_number" "box_number" (defArgs s_box_number) (defBody s_box_number) (defScope s_box_number) .none kV38 dc38 pm38 an38 cd38 ct38), sl38⟩) (c38 : PySem.W.codeIn K cd38 "box_number" = true) (k38 : PySem.W.keepIn K (.ref f38) = true)
    (a34 : PySem.W.nsIn K mainGlobals "in_vain" = some (some (.ref f34))) (l34 : K.lookup f34 = some ⟨oc34, od34, .func (PySem.W.fnOf "in_vain" "in_vain" (defArgs s_in_vain) (defBody s_in_vain) (defScope s_in_vain) .none kV34 dc34 pm34 an34 cd34 ct34), sl34⟩) (c34 : PySem.W.codeIn K cd34 "in_vain" = true) (k34 : PySem.W.keepIn K (.ref f34) = true)
    (a33 : PySem.W.nsIn K mainGlobals "with_item" = some (some (.ref f33))) (l33 : K.lookup f33 = some ⟨oc33, od33, .func (PySem.W.fnOf "with_item" "with_item" (defArgs s_with_item) (defBody s_with_item) (defScope s_with_item) .none kV33 dc33 pm33 an33 cd33 ct33), sl33⟩) (c33 : PySem.W.codeIn K cd33 "with_item" = true) (k33 : PySem.W.keepIn K (.ref f33) = true)
    (a39 : PySem.W.nsIn K mainGlobals "behind_counting" = some (some (.ref f39))) (l39 : K.lookup f39 = some ⟨oc39, od39, .func (PySem.W.fnOf "behind_counting" "behind_counting" (defArgs s_behind_counting) (defBody s_behind_counting) (defScope s_behind_counting) .none kV39 dc39 pm39 an39 cd39 ct39), sl39⟩) (c39 : PySem.W.codeIn K cd39 "behind_counting" = true) (k39 : PySem.W.keepIn K (.ref f39) = true)
    (a41 : PySem.W.nsIn K mainGlobals "ahead_of_round" = some (some (.ref f41))) (l41 : K.lookup f41 = some ⟨oc41, od41, .func (PySem.W.fnOf "ahead_of_round" "ahead_of_round" (defArgs s_ahead_of_round) (defBody s_ahead_of_round) (defScope s_ahead_of_round) .none kV41 dc41 pm41 an41 cd41 ct41), sl41⟩) (c41 : PySem.W.codeIn K cd41 "ahead_of_round" = true) (k41 : PySem.W.keepIn K (.ref f41) = true)
    (a42 : PySem.W.nsIn K mainGlobals "behind_tell" = some (some (.ref f42))) (l42 : K.lookup f42 = some ⟨oc42, od42, .func (PySem.W.fnOf "behind_tell" "behind_tell" (defArgs s_behind_tell) (defBody s_behind_tell) (defScope s_behind_tell) .none kV42 dc42 pm42 an42 cd42 ct42), sl42⟩) (c42 : PySem.W.codeIn K cd42 "behind_tell" = true) (k42 : PySem.W.keepIn K (.ref f42) = true)
    (a40 : PySem.W.nsIn K mainGlobals "behind_row" = some (some (.ref f40))) (l40 : K.lookup f40 = some ⟨oc40, od40, .func (PySem.W.fnOf "behind_row" "behind_row" (defArgs s_behind_row) (defBody s_behind_row) (defScope s_behind_row) .none kV40 dc40 pm40 an40 cd40 ct40), sl40⟩) (c40 : PySem.W.codeIn K cd40 "behind_row" = true) (k40 : PySem.W.keepIn K (.ref f40) = true)
    (a32 : PySem.W.nsIn K mainGlobals "same" = some (some (.ref f32))) (l32 : K.lookup f32 = some ⟨oc32, od32, .func (PySem.W.fnOf "same" "same" (defArgs s_same) (defBody s_same) (defScope s_same) .none kV32 dc32 pm32 an32 cd32 ct32), sl32⟩) (c32 : PySem.W.codeIn K cd32 "same" = true) (k32 : PySem.W.keepIn K (.ref f32) = true)
    (a31 : PySem.W.nsIn K mainGlobals "stepped" = some (some (.ref f31))) (l31 : K.lookup f31 = some ⟨oc31, od31, .func (PySem.W.fnOf "stepped" "stepped" (defArgs s_stepped) (defBody s_stepped) (defScope s_stepped) .none kV31 dc31 pm31 an31 cd31 ct31), sl31⟩) (c31 : PySem.W.codeIn K cd31 "stepped" = true) (k31 : PySem.W.keepIn K (.ref f31) = true)
    (a44 : PySem.W.nsIn K mainGlobals "_law_cell_at" = some (some (.ref f44))) (l44 : K.lookup f44 = some ⟨oc44, od44, .func (PySem.W.fnOf "_law_cell_at" "_law_cell_at" (defArgs s__law_cell_at) (defBody s__law_cell_at) (defScope s__law_cell_at) .none kV44 dc44 pm44 an44 cd44 ct44), sl44⟩) (c44 : PySem.W.codeIn K cd44 "_law_cell_at" = true) (k44 : PySem.W.keepIn K (.ref f44) = true)
    (a45 : PySem.W.nsIn K mainGlobals "_law_whole" = some (some (.ref f45))) (l45 : K.lookup f45 = some ⟨oc45, od45, .func (PySem.W.fnOf "_law_whole" "_law_whole" (defArgs s__law_whole) (defBody s__law_whole) (defScope s__law_whole) .none kV45 dc45 pm45 an45 cd45 ct45), sl45⟩) (c45 : PySem.W.codeIn K cd45 "_law_whole" = true) (k45 : PySem.W.keepIn K (.ref f45) = true)
    (a46 : PySem.W.nsIn K mainGlobals "_law_mixed" = some (some (.ref f46))) (l46 : K.lookup f46 = some ⟨oc46, od46, .func (PySem.W.fnOf "_law_mixed" "_law_mixed" (defArgs s__law_mixed) (defBody s__law_mixed) (defScope s__law_mixed) .none kV46 dc46 pm46 an46 cd46 ct46), sl46⟩) (c46 : PySem.W.codeIn K cd46 "_law_mixed" = true) (k46 : PySem.W.keepIn K (.ref f46) = true)
    (a47 : PySem.W.nsIn K mainGlobals "_law_order" = some (some (.ref f47))) (l47 : K.lookup f47 = some ⟨oc47, od47, .func (PySem.W.fnOf "_law_order" "_law_order" (defArgs s__law_order) (defBody s__law_order) (defScope s__law_order) .none kV47 dc47 pm47 an47 cd47 ct47), sl47⟩) (c47 : PySem.W.codeIn K cd47 "_law_order" = true) (k47 : PySem.W.keepIn K (.ref f47) = true)
    (a48 : PySem.W.nsIn K mainGlobals "_law_done" = some (some (.ref f48))) (l48 : K.lookup f48 = some ⟨oc48, od48, .func (PySem.W.fnOf "_law_done" "_law_done" (defArgs s__law_done) (defBody s__law_done) (defScope s__law_done) .none kV48 dc48 pm48 an48 cd48 ct48), sl48⟩) (c48 : PySem.W.codeIn K cd48 "_law_done" = true) (k48 : PySem.W.keepIn K (.ref f48) = true)
    (a49 : PySem.W.nsIn K mainGlobals "_law_kept" = some (some (.ref f49))) (l49 : K.lookup f49 = some ⟨oc49, od49, .func (PySem.W.fnOf "_law_kept" "_law_kept" (defArgs s__law_kept) (defBody s__law_kept) (defScope s__law_kept) .none kV49 dc49 pm49 an49 cd49 ct49), sl49⟩) (c49 : PySem.W.codeIn K cd49 "_law_kept" = true) (k49 : PySem.W.keepIn K (.ref f49) = true)
    (a50 : PySem.W.nsIn K mainGlobals "_law_coming" = some (some (.ref f50))) (l50 : K.lookup f50 = some ⟨oc50, od50, .func (PySem.W.fnOf "_law_coming" "_law_coming" (defArgs s__law_coming) (defBody s__law_coming) (defScope s__law_coming) .none kV50 dc50 pm50 an50 cd50 ct50), sl50⟩) (c50 : PySem.W.codeIn K cd50 "_law_coming" = true) (k50 : PySem.W.keepIn K (.ref f50) = true)
    (a51 : PySem.W.nsIn K mainGlobals "_law_turning" = some (some (.ref f51))) (l51 : K.lookup f51 = some ⟨oc51, od51, .func (PySem.W.fnOf "_law_turning" "_law_turning" (defArgs s__law_turning) (defBody s__law_turning) (defScope s__law_turning) .none kV51 dc51 pm51 an51 cd51 ct51), sl51⟩) (c51 : PySem.W.codeIn K cd51 "_law_turning" = true) (k51 : PySem.W.keepIn K (.ref f51) = true)
    (a52 : PySem.W.nsIn K mainGlobals "_law_passing" = some (some (.ref f52))) (l52 : K.lookup f52 = some ⟨oc52, od52, .func (PySem.W.fnOf "_law_passing" "_law_passing" (defArgs s__law_passing) (defBody s__law_passing) (defScope s__law_passing) .none kV52 dc52 pm52 an52 cd52 ct52), sl52⟩) (c52 : PySem.W.codeIn K cd52 "_law_passing" = true) (k52 : PySem.W.keepIn K (.ref f52) = true)
    (a53 : PySem.W.nsIn K mainGlobals "_law_meeting" = some (some (.ref f53))) (l53 : K.lookup f53 = some ⟨oc53, od53, .func (PySem.W.fnOf "_law_meeting" "_law_meeting" (defArgs s__law_meeting) (defBody s__law_meeting) (defScope s__law_meeting) .none kV53 dc53 pm53 an53 cd53 ct53), sl53⟩) (c53 : PySem.W.codeIn K cd53 "_law_meeting" = true) (k53 : PySem.W.keepIn K (.ref f53) = true)
    (a54 : PySem.W.nsIn K mainGlobals "_law_often" = some (some (.ref f54))) (l54 : K.lookup f54 = some ⟨oc54, od54, .func (PySem.W.fnOf "_law_often" "_law_often" (defArgs s__law_often) (defBody s__law_often) (defScope s__law_often) .none kV54 dc54 pm54 an54 cd54 ct54), sl54⟩) (c54 : PySem.W.codeIn K cd54 "_law_often" = true) (k54 : PySem.W.keepIn K (.ref f54) = true)
    (a55 : PySem.W.nsIn K mainGlobals "law" = some (some (.ref f55))) (l55 : K.lookup f55 = some ⟨oc55, od55, .func (PySem.W.fnOf "law" "law" (defArgs s_law) (defBody s_law) (defScope s_law) .none kV55 dc55 pm55 an55 cd55 ct55), sl55⟩) (c55 : PySem.W.codeIn K cd55 "law" = true) (k55 : PySem.W.keepIn K (.ref f55) = true)
    (z_ValueError : PySem.W.nsIn K mainGlobals "ValueError" = some none)
    (z_any : PySem.W.nsIn K mainGlobals "any" = some none)
    (z_bool : PySem.W.nsIn K mainGlobals "bool" = some none)
    (z_enumerate : PySem.W.nsIn K mainGlobals "enumerate" = some none)
    (z_int : PySem.W.nsIn K mainGlobals "int" = some none)
    (z_isinstance : PySem.W.nsIn K mainGlobals "isinstance" = some none)
    (z_len : PySem.W.nsIn K mainGlobals "len" = some none)
    (z_list : PySem.W.nsIn K mainGlobals "list" = some none)
    (z_range : PySem.W.nsIn K mainGlobals "range" = some none)
    (z_set : PySem.W.nsIn K mainGlobals "set" = some none)
    (z_tuple : PySem.W.nsIn K mainGlobals "tuple" = some none)
    (aC : PySem.W.nsIn K mainGlobals "Hall" = some (some (.ref C))) (a17 : PySem.W.findIn K (.ref C) "__init__" = some (some (.ref f17))) (i17 : PySem.W.isFn K (.ref f17) = true) (l17 : K.lookup f17 = some ⟨oc17, od17, .func (PySem.W.fnOf "__init__" "Hall.__init__" (defArgs s_init) (defBody s_init) (defScope s_init) .none kV17 dc17 pm17 an17 cd17 ct17), sl17⟩) (c17 : PySem.W.codeIn K cd17 "Hall.__init__" = true) (k17 : PySem.W.keepIn K (.ref f17) = true)
    (pg : PySem.W.plainGet K C Str.empty = true) (hd : PySem.W.hasDictIn K C = true) (po : PySem.W.plainOver K C = true) (sa : PySem.W.findIn K (.ref C) "__setattr__" = some (some (.builtin "object.__setattr__"))) (mk : PySem.W.makesIn K C = true) (kc : PySem.W.keepIn K (.ref C) = true)
    (g1 : PySem.W.findIn K (.ref C) "gates" = some none) (g2 : PySem.W.findIn K (.ref C) "rows" = some none) (g3 : PySem.W.findIn K (.ref C) "stands" = some none) (g4 : PySem.W.findIn K (.ref C) "stores" = some none)
    (is1 : PySem.W.findIn K (.ref C) "__class__" = some (some (.builtin "object.__class__"))) (is2 : PySem.W.specialIn K (.builtin "object.__class__") "__get__" = some (some (.builtin "getset_descriptor.__get__"))) (is3 : PySem.W.takesIn K (.builtin "object.__class__") = some true) (is4 : PySem.W.mroIn K C (.type "object") = some true)
    (ae1 : PySem.W.nsIn K mainGlobals "HallError" = some (some (.ref e1))) (xe1 : PySem.W.excIn K e1 [.type "ValueError", .type "Exception", .type "BaseException", .type "object"] "ValueError.__new__" = true) (ke1 : PySem.W.keepIn K (.ref e1) = true) (be1 : PySem.W.subIn K (.ref e1) (.type "BaseException") = some true) (te1 : PySem.W.typeIn K (.ref e1) = some (.type "type"))
    (ae2 : PySem.W.nsIn K mainGlobals "NoHall" = some (some (.ref e2))) (xe2 : PySem.W.excIn K e2 [.type "ValueError", .type "Exception", .type "BaseException", .type "object"] "ValueError.__new__" = true) (ke2 : PySem.W.keepIn K (.ref e2) = true) (be2 : PySem.W.subIn K (.ref e2) (.type "BaseException") = some true) (te2 : PySem.W.typeIn K (.ref e2) = some (.type "type"))
    (ae3 : PySem.W.nsIn K mainGlobals "NoGate" = some (some (.ref e3))) (xe3 : PySem.W.excIn K e3 [.type "ValueError", .type "Exception", .type "BaseException", .type "object"] "ValueError.__new__" = true) (ke3 : PySem.W.keepIn K (.ref e3) = true) (be3 : PySem.W.subIn K (.ref e3) (.type "BaseException") = some true) (te3 : PySem.W.typeIn K (.ref e3) = some (.type "type"))
    (ae4 : PySem.W.nsIn K mainGlobals "NoRow" = some (some (.ref e4))) (xe4 : PySem.W.excIn K e4 [.type "ValueError", .type "Exception", .type "BaseException", .type "object"] "ValueError.__new__" = true) (ke4 : PySem.W.keepIn K (.ref e4) = true) (be4 : PySem.W.subIn K (.ref e4) (.type "BaseException") = some true) (te4 : PySem.W.typeIn K (.ref e4) = some (.type "type"))
    (ae5 : PySem.W.nsIn K mainGlobals "Stranger" = some (some (.ref e5))) (xe5 : PySem.W.excIn K e5 [.type "ValueError", .type "Exception", .type "BaseException", .type "object"] "ValueError.__new__" = true) (ke5 : PySem.W.keepIn K (.ref e5) = true) (be5 : PySem.W.subIn K (.ref e5) (.type "BaseException") = some true) (te5 : PySem.W.typeIn K (.ref e5) = some (.type "type"))
    (ae6 : PySem.W.nsIn K mainGlobals "NoWalker" = some (some (.ref e6))) (xe6 : PySem.W.excIn K e6 [.type "ValueError", .type "Exception", .type "BaseException", .type "object"] "ValueError.__new__" = true) (ke6 : PySem.W.keepIn K (.ref e6) = true) (be6 : PySem.W.subIn K (.ref e6) (.type "BaseException") = some true) (te6 : PySem.W.typeIn K (.ref e6) = some (.type "type"))
    {tg1 tg2 tg3 tg4 tg5 tg6 : Tok} {tw ts : Addr} {ow os : Option Addr} {nw ns : Nat} {lw ls : Array (Option Value)}
    (aCOUNT : PySem.W.nsIn K mainGlobals "COUNT" = some (some (.str "count" tg1)))
    (aWORDS : PySem.W.nsIn K mainGlobals "WORDS" = some (some (.ref tw))) (lWORDS : K.lookup tw = some ⟨.type "tuple", ow, .seq #[.str "count" tg2, .str "row" tg3] nw, lw⟩)
    (aSTART : PySem.W.nsIn K mainGlobals "START" = some (some (.ref ts))) (lSTART : K.lookup ts = some ⟨.type "tuple", os, .seq #[.int 0 tg5, .str "come" tg4, .int 0 tg6] ns, ls⟩)
    {tgMOST_WALKERS : Tok} (aMOST_WALKERS : PySem.W.nsIn K mainGlobals "MOST_WALKERS" = some (some (.int 12 tgMOST_WALKERS)))
    {tgMOST_GATES : Tok} (aMOST_GATES : PySem.W.nsIn K mainGlobals "MOST_GATES" = some (some (.int 12 tgMOST_GATES)))
    {tgLONGEST_ROW : Tok} (aLONGEST_ROW : PySem.W.nsIn K mainGlobals "LONGEST_ROW" = some (some (.int 40 tgLONGEST_ROW)))
    :
    ∃ fd : FuncData, (∀ (s : Shared) (v : Value), BindsTo s fd ⟨[v], []⟩ [("_law_script", v)]) ∧ ∀ base : Heap, K.In base → base.Ns mainGlobals mg → FnOk l.prog w K mg base CX0 10 fa fd ["_law_script"] (spLaw K) := by
  have A_rounds : At K mg "rounds" s_rounds ["many"] := at_mk X G a8 l8 c8 k8 fun _ _ _ _ _ _ us hl => match us, hl with | [_], _ => rfl
  have A_partner : At K mg "partner" s_partner ["place", "turn", "many"] := at_mk X G a9 l9 c9 k9 fun _ _ _ _ _ _ us hl => match us, hl with | [_, _, _], _ => rfl
  have A_check_gate : At K mg "check_gate" s_check_gate ["word", "members", "walkers"] := at_mk X G a20 l20 c20 k20 fun _ _ _ _ _ _ us hl => match us, hl with | [_, _, _], _ => rfl
  have A_check_row : At K mg "check_row" s_check_row ["gates", "walker", "row"] := at_mk X G a21 l21 c21 k21 fun _ _ _ _ _ _ us hl => match us, hl with | [_, _, _], _ => rfl
  have A_check_lists : At K mg "check_lists" s_check_lists ["gates", "rows"] := at_mk X G a19 l19 c19 k19 fun _ _ _ _ _ _ us hl => match us, hl with | [_, _], _ => rfl
  have A_first_boxes : At K mg "first_boxes" s_first_boxes ["word", "many"] := at_mk X G a22 l22 c22 k22 fun _ _ _ _ _ _ us hl => match us, hl with | [_, _], _ => rfl
  have A_begun : At K mg "begun" s_begun ["gates", "rows"] := at_mk X G a18 l18 c18 k18 fun _ _ _ _ _ _ us hl => match us, hl with | [_, _], _ => rfl
  have A_need_walker : At K mg "need_walker" s_need_walker ["hall", "walker"] := at_mk X G a23 l23 c23 k23 fun _ _ _ _ _ _ us hl => match us, hl with | [_, _], _ => rfl
  have A_need_gate : At K mg "need_gate" s_need_gate ["hall", "gate"] := at_mk X G a24 l24 c24 k24 fun _ _ _ _ _ _ us hl => match us, hl with | [_, _], _ => rfl
  have A_passed : At K mg "passed" s_passed ["hall", "walker", "gate"] := at_mk X G a25 l25 c25 k25 fun _ _ _ _ _ _ us hl => match us, hl with | [_, _, _], _ => rfl
  have A_ahead : At K mg "ahead" s_ahead ["hall", "walker"] := at_mk X G a29 l29 c29 k29 fun _ _ _ _ _ _ us hl => match us, hl with | [_, _], _ => rfl
  have A_within : At K mg "within" s_within ["hall", "walker"] := at_mk X G a27 l27 c27 k27 fun _ _ _ _ _ _ us hl => match us, hl with | [_, _], _ => rfl
  have A_came : At K mg "came" s_came ["hall", "walker", "gate"] := at_mk X G a26 l26 c26 k26 fun _ _ _ _ _ _ us hl => match us, hl with | [_, _, _], _ => rfl
  have A_boxes : At K mg "boxes" s_boxes ["hall", "gate"] := at_mk X G a28 l28 c28 k28 fun _ _ _ _ _ _ us hl => match us, hl with | [_, _], _ => rfl
  have A_this_visit : At K mg "this_visit" s_this_visit ["hall", "walker", "gate"] := at_mk X G a35 l35 c35 k35 fun _ _ _ _ _ _ us hl => match us, hl with | [_, _, _], _ => rfl
  have A_count_sign : At K mg "count_sign" s_count_sign ["visit"] := at_mk X G a36 l36 c36 k36 fun _ _ _ _ _ _ us hl => match us, hl with | [_], _ => rfl
  have A_row_sign : At K mg "row_sign" s_row_sign ["visit"] := at_mk X G a37 l37 c37 k37 fun _ _ _ _ _ _ us hl => match us, hl with | [_], _ => rfl
  have A_box_number : At K mg "box_number" s_box_number ["turn", "visit", "many"] := at_mk X G a38 l38 c38 k38 fun _ _ _ _ _ _ us hl => match us, hl with | [_, _, _], _ => rfl
  have A_in_vain : At K mg "in_vain" s_in_vain ["hall", "walker"] := at_mk X G a34 l34 c34 k34 fun _ _ _ _ _ _ us hl => match us, hl with | [_, _], _ => rfl
  have A_with_item : At K mg "with_item" s_with_item ["items", "at", "item"] := at_mk X G a33 l33 c33 k33 fun _ _ _ _ _ _ us hl => match us, hl with | [_, _, _], _ => rfl
  have A_behind_counting : At K mg "behind_counting" s_behind_counting ["hall", "walker", "gate"] := at_mk X G a39 l39 c39 k39 fun _ _ _ _ _ _ us hl => match us, hl with | [_, _, _], _ => rfl
  have A_ahead_of_round : At K mg "ahead_of_round" s_ahead_of_round ["done", "turn", "many"] := at_mk X G a41 l41 c41 k41 fun _ _ _ _ _ _ us hl => match us, hl with | [_, _, _], _ => rfl
  have A_behind_tell : At K mg "behind_tell" s_behind_tell ["hall", "walker", "gate"] := at_mk X G a42 l42 c42 k42 fun _ _ _ _ _ _ us hl => match us, hl with | [_, _, _], _ => rfl
  have A_behind_row : At K mg "behind_row" s_behind_row ["hall", "walker", "gate"] := at_mk X G a40 l40 c40 k40 fun _ _ _ _ _ _ us hl => match us, hl with | [_, _, _], _ => rfl
  have A_same : At K mg "same" s_same ["hall"] := at_mk X G a32 l32 c32 k32 fun _ _ _ _ _ _ us hl => match us, hl with | [_], _ => rfl
  have A_stepped : At K mg "stepped" s_stepped ["hall", "walker"] := at_mk X G a31 l31 c31 k31 fun _ _ _ _ _ _ us hl => match us, hl with | [_, _], _ => rfl
  have A__law_cell_at : At K mg "_law_cell_at" s__law_cell_at ["_law_script", "_law_k"] := at_mk X G a44 l44 c44 k44 fun _ _ _ _ _ _ us hl => match us, hl with | [_, _], _ => rfl
  have A__law_whole : At K mg "_law_whole" s__law_whole ["_law_found"] := at_mk X G a45 l45 c45 k45 fun _ _ _ _ _ _ us hl => match us, hl with | [_], _ => rfl
  have A__law_mixed : At K mg "_law_mixed" s__law_mixed ["_law_cell", "_law_k"] := at_mk X G a46 l46 c46 k46 fun _ _ _ _ _ _ us hl => match us, hl with | [_, _], _ => rfl
  have A__law_order : At K mg "_law_order" s__law_order ["_law_cell", "_law_many"] := at_mk X G a47 l47 c47 k47 fun _ _ _ _ _ _ us hl => match us, hl with | [_, _], _ => rfl
  have A__law_done : At K mg "_law_done" s__law_done ["_law_hall", "_law_walker", "_law_gate", "_law_word"] := at_mk X G a48 l48 c48 k48 fun _ _ _ _ _ _ us hl => match us, hl with | [_, _, _, _], _ => rfl
  have A__law_kept : At K mg "_law_kept" s__law_kept ["_law_hall", "_law_gate", "_law_left", "_law_side", "_law_other"] := at_mk X G a49 l49 c49 k49 fun _ _ _ _ _ _ us hl => match us, hl with | [_, _, _, _, _], _ => rfl
  have A__law_coming : At K mg "_law_coming" s__law_coming ["_law_hall", "_law_line", "_law_gate", "_law_side", "_law_looks"] := at_mk X G a50 l50 c50 k50 fun _ _ _ _ _ _ us hl => match us, hl with | [_, _, _, _, _], _ => rfl
  have A__law_turning : At K mg "_law_turning" s__law_turning ["_law_hall", "_law_line", "_law_gate", "_law_side", "_law_looks"] := at_mk X G a51 l51 c51 k51 fun _ _ _ _ _ _ us hl => match us, hl with | [_, _, _, _, _], _ => rfl
  have A__law_passing : At K mg "_law_passing" s__law_passing ["_law_hall", "_law_line", "_law_gate", "_law_last"] := at_mk X G a52 l52 c52 k52 fun _ _ _ _ _ _ us hl => match us, hl with | [_, _, _, _], _ => rfl
  have A__law_meeting : At K mg "_law_meeting" s__law_meeting ["_law_hall", "_law_cells", "_law_many", "_law_gate", "_law_side"] := at_mk X G a53 l53 c53 k53 fun _ _ _ _ _ _ us hl => match us, hl with | [_, _, _, _, _], _ => rfl
  have A__law_often : At K mg "_law_often" s__law_often ["_law_hall", "_law_many", "_law_row"] := at_mk X G a54 l54 c54 k54 fun _ _ _ _ _ _ us hl => match us, hl with | [_, _, _], _ => rfl
  have A_law : At K mg "law" s_law ["_law_script"] := at_mk X G a55 l55 c55 k55 fun _ _ _ _ _ _ us hl => match us, hl with | [_], _ => rfl
  have n_ValueError : mg "ValueError" = none := PySem.W.mg_none_of X G z_ValueError
  have n_any : mg "any" = none := PySem.W.mg_none_of X G z_any
  have n_bool : mg "bool" = none := PySem.W.mg_none_of X G z_bool
  have n_enumerate : mg "enumerate" = none := PySem.W.mg_none_of X G z_enumerate
  have n_int : mg "int" = none := PySem.W.mg_none_of X G z_int
  have n_isinstance : mg "isinstance" = none := PySem.W.mg_none_of X G z_isinstance
  have n_len : mg "len" = none := PySem.W.mg_none_of X G z_len
  have n_list : mg "list" = none := PySem.W.mg_none_of X G z_list
  have n_range : mg "range" = none := PySem.W.mg_none_of X G z_range
  have n_set : mg "set" = none := PySem.W.mg_none_of X G z_set
  have n_tuple : mg "tuple" = none := PySem.W.mg_none_of X G z_tuple
  have e := hfa.symm.trans (PySem.W.mg_of X G a55)
  cases e
  refine ⟨PySem.W.fnOf "law" "law" (defArgs s_law) (defBody s_law) (defScope s_law) .none kV55 dc55 pm55 an55 cd55 ct55, fun s v => .of_eq rfl, fun base _ _ => ?_⟩
  have Fl := fun_mk (x := "law") (qual := "law") (st := s_law) l55 c55 k55
  have kH : Kls l.prog w K mg base "Hall" C := kls_mk (PySem.W.mg_of X G aC) pg hd po sa mk kc a17 i17 l17 c17 k17 g1 g2 g3 g4 is1 is2 is3 is4 sc_init (fun _ _ _ _ _ _ us hl => match us, hl with | [_, _, _, _, _], _ => rfl) (fun X h1 h2 h3 => by rw [← h3]; exact init_ok X h1 h2)
  obtain ⟨ca, x_HallError, x_NoHall, x_NoGate, x_NoRow, x_Stranger, x_NoWalker⟩ := ca_mk (K := K) (mg := mg) ⟨⟨_, _, _, _, PySem.F.excBase_ValueError, xe1⟩, PySem.W.mg_of X G ae1, ke1, be1, te1⟩ ⟨⟨_, _, _, _, PySem.F.excBase_ValueError, xe2⟩, PySem.W.mg_of X G ae2, ke2, be2, te2⟩ ⟨⟨_, _, _, _, PySem.F.excBase_ValueError, xe3⟩, PySem.W.mg_of X G ae3, ke3, be3, te3⟩ ⟨⟨_, _, _, _, PySem.F.excBase_ValueError, xe4⟩, PySem.W.mg_of X G ae4, ke4, be4, te4⟩ ⟨⟨_, _, _, _, PySem.F.excBase_ValueError, xe5⟩, PySem.W.mg_of X G ae5, ke5, be5, te5⟩ ⟨⟨_, _, _, _, PySem.F.excBase_ValueError, xe6⟩, PySem.W.mg_of X G ae6, ke6, be6, te6⟩
  have c_COUNT : Wd l.prog w K mg base ca (.c "COUNT" (.str "count")) := con_str (PySem.W.mg_of X G aCOUNT)
  have c_WORDS : Wd l.prog w K mg base ca (.c "WORDS" (.tup [.str "count", .str "row"])) := con_words (PySem.W.mg_of X G aWORDS) lWORDS
  have c_START : Wd l.prog w K mg base ca (.c "START" (.tup [.int 0, .str "come", .int 0])) := con_start (PySem.W.mg_of X G aSTART) lSTART
  have c_MOST_WALKERS : Wd l.prog w K mg base ca (.c "MOST_WALKERS" (.int 12)) := con_int (PySem.W.mg_of X G aMOST_WALKERS)
  have c_MOST_GATES : Wd l.prog w K mg base ca (.c "MOST_GATES" (.int 12)) := con_int (PySem.W.mg_of X G aMOST_GATES)
  have c_LONGEST_ROW : Wd l.prog w K mg base ca (.c "LONGEST_ROW" (.int 40)) := con_int (PySem.W.mg_of X G aLONGEST_ROW)
  have q_HallError : ca "HallError" = e1 := ca_eq x_HallError (PySem.W.mg_of X G ae1)
  have q_NoHall : ca "NoHall" = e2 := ca_eq x_NoHall (PySem.W.mg_of X G ae2)
  have q_NoGate : ca "NoGate" = e3 := ca_eq x_NoGate (PySem.W.mg_of X G ae3)
  have q_NoRow : ca "NoRow" = e4 := ca_eq x_NoRow (PySem.W.mg_of X G ae4)
  have q_Stranger : ca "Stranger" = e5 := ca_eq x_Stranger (PySem.W.mg_of X G ae5)
  have q_NoWalker : ca "NoWalker" = e6 := ca_eq x_NoWalker (PySem.W.mg_of X G ae6)
  have D_rounds : Def l.prog w K mg base (L2.CX l.prog w) (g_rounds C).lv (g_rounds C).nm _ (toPr ca (g_rounds C)) := def_mk 0 A_rounds sc_rounds rfl (fnd_kp (ok_rounds C) (by decide)) (m_rounds C) ⟨trivial, ⟨⟨⟨⟨trivial, trivial⟩, trivial⟩, ⟨trivial, trivial⟩⟩, ⟨trivial, trivial⟩⟩⟩
  have D_partner : Def l.prog w K mg base (L2.CX l.prog w) (g_partner C).lv (g_partner C).nm _ (toPr ca (g_partner C)) := def_mk 0 A_partner sc_partner rfl (fnd_kp (ok_partner C) (by decide)) (m_partner C) ⟨⟨⟨trivial, ⟨trivial, trivial⟩⟩, trivial⟩, trivial⟩
  have D_check_gate : Def l.prog w K mg base (L2.CX l.prog w) (g_check_gate C).lv (g_check_gate C).nm _ (toPr ca (g_check_gate C)) := def_mk 0 A_check_gate sc_check_gate rfl (fnd_kp (ok_check_gate C) (by decide)) (m_check_gate C) ⟨⟨⟨trivial, c_WORDS⟩, ⟨⟨x_NoGate, trivial⟩, trivial⟩, trivial⟩, ⟨⟨⟨⟨n_len, trivial⟩, trivial⟩, ⟨⟨x_NoGate, trivial⟩, trivial⟩, trivial⟩, ⟨⟨⟨n_any, ⟨trivial, trivial, ⟨n_range, trivial, trivial⟩⟩⟩, ⟨⟨x_NoGate, trivial⟩, trivial⟩, trivial⟩, ⟨⟨⟨⟨⟨n_len, n_set⟩, trivial⟩, ⟨n_len, trivial⟩⟩, ⟨⟨x_NoGate, trivial⟩, trivial⟩, trivial⟩, trivial⟩⟩⟩⟩
  have D_check_row : Def l.prog w K mg base (L2.CX l.prog w) (g_check_row C).lv (g_check_row C).nm _ (toPr ca (g_check_row C)) := def_mk 0 A_check_row sc_check_row rfl (fnd_kp (ok_check_row C) (by decide)) (m_check_row C) ⟨⟨⟨⟨n_len, trivial⟩, c_LONGEST_ROW⟩, ⟨⟨x_NoRow, ⟨trivial, ⟨trivial, ⟨trivial, ⟨c_LONGEST_ROW, ⟨trivial, trivial⟩⟩⟩⟩⟩⟩, trivial⟩, trivial⟩, ⟨⟨trivial, ⟨⟨⟨n_range, trivial, ⟨n_len, trivial⟩⟩, ⟨⟨x_NoRow, ⟨trivial, ⟨trivial, ⟨trivial, ⟨trivial, ⟨trivial, trivial⟩⟩⟩⟩⟩⟩, trivial⟩, trivial⟩, ⟨⟨⟨trivial, ⟨⟨trivial, trivial⟩, trivial⟩⟩, ⟨⟨x_Stranger, ⟨trivial, ⟨trivial, ⟨trivial, ⟨trivial, trivial⟩⟩⟩⟩⟩, trivial⟩, trivial⟩, trivial⟩⟩⟩, trivial⟩⟩
  have D_check_lists : Def l.prog w K mg base (L2.CX l.prog w) (g_check_lists C).lv (g_check_lists C).nm _ (toPr ca (g_check_lists C)) := def_mk 1 A_check_lists sc_check_lists rfl (fnd_kp (ok_check_lists C) (by decide)) (m_check_lists C) ⟨⟨⟨trivial, ⟨n_len, trivial⟩, c_MOST_WALKERS⟩, ⟨⟨x_NoHall, ⟨trivial, ⟨c_MOST_WALKERS, ⟨trivial, ⟨⟨n_len, trivial⟩, trivial⟩⟩⟩⟩⟩, trivial⟩, trivial⟩, ⟨⟨⟨trivial, ⟨n_len, trivial⟩, c_MOST_GATES⟩, ⟨⟨x_NoHall, ⟨trivial, ⟨c_MOST_GATES, ⟨trivial, ⟨⟨n_len, trivial⟩, trivial⟩⟩⟩⟩⟩, trivial⟩, trivial⟩, ⟨⟨trivial, ⟨⟨⟨_, D_check_gate⟩, ⟨trivial, ⟨trivial, ⟨⟨n_len, trivial⟩, trivial⟩⟩⟩⟩, trivial⟩⟩, ⟨⟨⟨n_enumerate, trivial⟩, ⟨⟨⟨_, D_check_row⟩, ⟨trivial, ⟨trivial, ⟨trivial, trivial⟩⟩⟩⟩, trivial⟩⟩, trivial⟩⟩⟩⟩
  have D_first_boxes : Def l.prog w K mg base (L2.CX l.prog w) (g_first_boxes C).lv (g_first_boxes C).nm _ (toPr ca (g_first_boxes C)) := def_mk 1 A_first_boxes sc_first_boxes rfl (fnd_kp (ok_first_boxes C) (by decide)) (m_first_boxes C) ⟨⟨⟨trivial, c_COUNT⟩, ⟨⟨trivial, ⟨trivial, trivial⟩⟩, trivial⟩, trivial⟩, ⟨⟨⟨⟨⟨trivial, trivial⟩, ⟨trivial, ⟨⟨_, D_rounds⟩, ⟨trivial, trivial⟩⟩⟩⟩, trivial⟩, trivial⟩, trivial⟩⟩
  have D_begun : Def l.prog w K mg base (L2.CX l.prog w) (g_begun C).lv (g_begun C).nm _ (toPr ca (g_begun C)) := def_mk 2 A_begun sc_begun rfl (fnd_kp (ok_begun C) (by decide)) (m_begun C) ⟨⟨⟨_, D_check_lists⟩, ⟨trivial, ⟨trivial, trivial⟩⟩⟩, ⟨⟨kH, ⟨⟨n_tuple, ⟨trivial, trivial, ⟨trivial, ⟨⟨n_tuple, trivial⟩, trivial⟩⟩⟩⟩, ⟨⟨n_tuple, ⟨trivial, trivial, ⟨n_tuple, trivial⟩⟩⟩, ⟨⟨⟨c_START, trivial⟩, ⟨n_len, trivial⟩⟩, ⟨⟨n_tuple, ⟨trivial, trivial, ⟨⟨_, D_first_boxes⟩, ⟨trivial, ⟨⟨n_len, trivial⟩, trivial⟩⟩⟩⟩⟩, trivial⟩⟩⟩⟩⟩, trivial⟩⟩
  have D_need_walker : Def l.prog w K mg base (L2.CX l.prog w) (g_need_walker C).lv (g_need_walker C).nm _ (toPr ca (g_need_walker C)) := def_mk 0 A_need_walker sc_need_walker rfl (fnd_kp (ok_need_walker C) (by decide)) (m_need_walker C) ⟨⟨⟨n_range, trivial, ⟨n_len, ⟨kH, trivial⟩⟩⟩, ⟨⟨x_NoWalker, ⟨trivial, ⟨trivial, trivial⟩⟩⟩, trivial⟩, trivial⟩, trivial⟩
  have D_need_gate : Def l.prog w K mg base (L2.CX l.prog w) (g_need_gate C).lv (g_need_gate C).nm _ (toPr ca (g_need_gate C)) := def_mk 0 A_need_gate sc_need_gate rfl (fnd_kp (ok_need_gate C) (by decide)) (m_need_gate C) ⟨⟨⟨n_range, trivial, ⟨n_len, ⟨kH, trivial⟩⟩⟩, ⟨⟨x_NoGate, ⟨trivial, ⟨trivial, trivial⟩⟩⟩, trivial⟩, trivial⟩, trivial⟩
  have D_passed : Def l.prog w K mg base (L2.CX l.prog w) (g_passed C).lv (g_passed C).nm _ (toPr ca (g_passed C)) := def_mk 1 A_passed sc_passed rfl (fnd_kp (ok_passed C) (by decide)) (m_passed C) ⟨⟨⟨_, D_need_walker⟩, ⟨trivial, ⟨trivial, trivial⟩⟩⟩, ⟨⟨⟨_, D_need_gate⟩, ⟨trivial, ⟨trivial, trivial⟩⟩⟩, ⟨⟨⟨⟨kH, trivial⟩, trivial⟩, trivial⟩, ⟨⟨⟨⟨⟨kH, trivial⟩, trivial⟩, trivial, trivial⟩, trivial⟩, trivial⟩⟩⟩⟩
  have D_ahead : Def l.prog w K mg base (L2.CX l.prog w) (g_ahead C).lv (g_ahead C).nm _ (toPr ca (g_ahead C)) := def_mk 1 A_ahead sc_ahead rfl (fnd_kp (ok_ahead C) (by decide)) (m_ahead C) ⟨⟨⟨_, D_need_walker⟩, ⟨trivial, ⟨trivial, trivial⟩⟩⟩, ⟨⟨⟨kH, trivial⟩, trivial⟩, ⟨⟨⟨kH, trivial⟩, trivial⟩, ⟨⟨⟨trivial, ⟨n_len, trivial⟩⟩, ⟨⟨trivial, ⟨trivial, trivial⟩⟩, trivial⟩, trivial⟩, ⟨⟨⟨trivial, trivial⟩, ⟨trivial, trivial⟩⟩, trivial⟩⟩⟩⟩⟩
  have D_within : Def l.prog w K mg base (L2.CX l.prog w) (g_within C).lv (g_within C).nm _ (toPr ca (g_within C)) := def_mk 2 A_within sc_within rfl (fnd_kp (ok_within C) (by decide)) (m_within C) ⟨⟨⟨_, D_ahead⟩, ⟨trivial, ⟨trivial, trivial⟩⟩⟩, ⟨⟨⟨trivial, trivial⟩, ⟨trivial, trivial⟩, trivial⟩, ⟨trivial, trivial⟩⟩⟩
  have D_came : Def l.prog w K mg base (L2.CX l.prog w) (g_came C).lv (g_came C).nm _ (toPr ca (g_came C)) := def_mk 3 A_came sc_came rfl (fnd_kp (ok_came C) (by decide)) (m_came C) ⟨⟨⟨_, D_passed⟩, ⟨trivial, ⟨trivial, ⟨trivial, trivial⟩⟩⟩⟩, ⟨⟨⟨⟨⟨_, D_within⟩, ⟨trivial, ⟨trivial, trivial⟩⟩⟩, trivial⟩, ⟨trivial, trivial⟩, trivial⟩, ⟨trivial, trivial⟩⟩⟩
  have D_boxes : Def l.prog w K mg base (L2.CX l.prog w) (g_boxes C).lv (g_boxes C).nm _ (toPr ca (g_boxes C)) := def_mk 1 A_boxes sc_boxes rfl (fnd_kp (ok_boxes C) (by decide)) (m_boxes C) ⟨⟨⟨_, D_need_gate⟩, ⟨trivial, ⟨trivial, trivial⟩⟩⟩, ⟨⟨⟨kH, trivial⟩, trivial⟩, ⟨⟨⟨⟨⟨⟨kH, trivial⟩, trivial⟩, trivial⟩, c_COUNT⟩, ⟨⟨n_list, trivial⟩, trivial⟩, trivial⟩, ⟨⟨trivial, trivial, ⟨n_list, trivial⟩⟩, trivial⟩⟩⟩⟩
  have D_this_visit : Def l.prog w K mg base (L2.CX l.prog w) (g_this_visit C).lv (g_this_visit C).nm _ (toPr ca (g_this_visit C)) := def_mk 2 A_this_visit sc_this_visit rfl (fnd_kp (ok_this_visit C) (by decide)) (m_this_visit C) ⟨⟨⟨⟨_, D_passed⟩, ⟨trivial, ⟨trivial, ⟨trivial, trivial⟩⟩⟩⟩, trivial⟩, trivial⟩
  have D_count_sign : Def l.prog w K mg base (L2.CX l.prog w) (g_count_sign C).lv (g_count_sign C).nm _ (toPr ca (g_count_sign C)) := def_mk 0 A_count_sign sc_count_sign rfl (fnd_kp (ok_count_sign C) (by decide)) (m_count_sign C) ⟨⟨trivial, trivial⟩, trivial⟩
  have D_row_sign : Def l.prog w K mg base (L2.CX l.prog w) (g_row_sign C).lv (g_row_sign C).nm _ (toPr ca (g_row_sign C)) := def_mk 0 A_row_sign sc_row_sign rfl (fnd_kp (ok_row_sign C) (by decide)) (m_row_sign C) ⟨⟨trivial, ⟨⟨⟨trivial, trivial⟩, trivial⟩, trivial⟩⟩, trivial⟩
  have D_box_number : Def l.prog w K mg base (L2.CX l.prog w) (g_box_number C).lv (g_box_number C).nm _ (toPr ca (g_box_number C)) := def_mk 1 A_box_number sc_box_number rfl (fnd_kp (ok_box_number C) (by decide)) (m_box_number C) ⟨⟨⟨⟨trivial, trivial⟩, trivial⟩, ⟨trivial, trivial⟩, trivial⟩, ⟨⟨⟨⟨_, D_rounds⟩, ⟨trivial, trivial⟩⟩, trivial⟩, trivial⟩⟩
  have D_in_vain : Def l.prog w K mg base (L2.CX l.prog w) (g_in_vain C).lv (g_in_vain C).nm _ (toPr ca (g_in_vain C)) := def_mk 3 A_in_vain sc_in_vain rfl (fnd_kp (ok_in_vain C) (by decide)) (m_in_vain C) ⟨⟨⟨_, D_ahead⟩, ⟨trivial, ⟨trivial, trivial⟩⟩⟩, ⟨⟨⟨_, D_this_visit⟩, ⟨trivial, ⟨trivial, ⟨trivial, trivial⟩⟩⟩⟩, ⟨⟨⟨trivial, trivial⟩, ⟨⟨⟨⟨⟨kH, trivial⟩, trivial⟩, trivial⟩, ⟨⟨_, D_count_sign⟩, ⟨trivial, trivial⟩⟩⟩, trivial⟩, trivial⟩, ⟨⟨⟨trivial, trivial⟩, ⟨⟨⟨⟨kH, trivial⟩, trivial⟩, trivial⟩, ⟨⟨⟨⟨kH, trivial⟩, trivial⟩, ⟨trivial, trivial⟩⟩, ⟨⟨⟨⟨kH, trivial⟩, trivial⟩, trivial⟩, ⟨⟨⟨trivial, ⟨⟨_, D_box_number⟩, ⟨trivial, ⟨trivial, ⟨⟨n_len, trivial⟩, trivial⟩⟩⟩⟩⟩, ⟨⟨_, D_row_sign⟩, ⟨trivial, trivial⟩⟩⟩, trivial⟩⟩⟩⟩, trivial⟩, ⟨trivial, trivial⟩⟩⟩⟩⟩
  have D_with_item : Def l.prog w K mg base (L2.CX l.prog w) (g_with_item C).lv (g_with_item C).nm _ (toPr ca (g_with_item C)) := def_mk 0 A_with_item sc_with_item rfl (fnd_kp (ok_with_item C) (by decide)) (m_with_item C) ⟨⟨⟨⟨trivial, trivial, trivial⟩, ⟨trivial, trivial⟩⟩, ⟨trivial, ⟨trivial, trivial⟩, trivial⟩⟩, trivial⟩
  have D_behind_counting : Def l.prog w K mg base (L2.CX l.prog w) (g_behind_counting C).lv (g_behind_counting C).nm _ (toPr ca (g_behind_counting C)) := def_mk 3 A_behind_counting sc_behind_counting rfl (fnd_kp (ok_behind_counting C) (by decide)) (m_behind_counting C) ⟨⟨⟨kH, trivial⟩, trivial⟩, ⟨⟨⟨kH, trivial⟩, trivial⟩, ⟨⟨⟨⟨trivial, trivial⟩, ⟨trivial, trivial⟩⟩, ⟨⟨⟨trivial, ⟨trivial, ⟨trivial, trivial⟩⟩⟩, ⟨⟨trivial, ⟨trivial, trivial⟩⟩, trivial⟩⟩, trivial⟩, trivial⟩, ⟨⟨⟨trivial, trivial⟩, ⟨⟨⟨trivial, ⟨trivial, ⟨trivial, trivial⟩⟩⟩, ⟨⟨⟨trivial, trivial⟩, ⟨trivial, trivial⟩⟩, trivial⟩⟩, trivial⟩, trivial⟩, ⟨⟨⟨trivial, trivial⟩, ⟨⟨⟨trivial, ⟨trivial, ⟨trivial, trivial⟩⟩⟩, ⟨⟨⟨n_len, ⟨⟨⟨kH, trivial⟩, trivial⟩, trivial⟩⟩, ⟨trivial, trivial⟩⟩, trivial⟩⟩, trivial⟩, trivial⟩, ⟨⟨⟨trivial, trivial⟩, ⟨⟨⟨trivial, ⟨trivial, ⟨trivial, trivial⟩⟩⟩, ⟨⟨trivial, ⟨⟨⟨_, D_count_sign⟩, ⟨⟨⟨_, D_this_visit⟩, ⟨trivial, ⟨trivial, ⟨trivial, trivial⟩⟩⟩⟩, trivial⟩⟩, trivial⟩⟩, trivial⟩⟩, trivial⟩, trivial⟩, ⟨⟨⟨trivial, trivial⟩, ⟨⟨⟨trivial, ⟨trivial, ⟨trivial, trivial⟩⟩⟩, ⟨⟨trivial, ⟨trivial, trivial⟩⟩, trivial⟩⟩, trivial⟩, trivial⟩, ⟨⟨⟨⟨trivial, trivial⟩, ⟨trivial, ⟨trivial, trivial⟩⟩⟩, ⟨⟨trivial, ⟨trivial, trivial⟩⟩, trivial⟩⟩, trivial⟩⟩⟩⟩⟩⟩⟩⟩
  have D_ahead_of_round : Def l.prog w K mg base (L2.CX l.prog w) (g_ahead_of_round C).lv (g_ahead_of_round C).nm _ (toPr ca (g_ahead_of_round C)) := def_mk 1 A_ahead_of_round sc_ahead_of_round rfl (fnd_kp (ok_ahead_of_round C) (by decide)) (m_ahead_of_round C) ⟨⟨⟨trivial, ⟨⟨_, D_rounds⟩, ⟨trivial, trivial⟩⟩⟩, ⟨⟨trivial, ⟨trivial, ⟨trivial, trivial⟩⟩⟩, trivial⟩, trivial⟩, ⟨⟨trivial, ⟨trivial, ⟨trivial, trivial⟩⟩⟩, trivial⟩⟩
  have D_behind_tell : Def l.prog w K mg base (L2.CX l.prog w) (g_behind_tell C).lv (g_behind_tell C).nm _ (toPr ca (g_behind_tell C)) := def_mk 3 A_behind_tell sc_behind_tell rfl (fnd_kp (ok_behind_tell C) (by decide)) (m_behind_tell C) ⟨⟨⟨⟨kH, trivial⟩, trivial⟩, trivial⟩, ⟨⟨n_len, trivial⟩, ⟨⟨⟨kH, trivial⟩, trivial⟩, ⟨⟨⟨⟨kH, trivial⟩, trivial⟩, trivial⟩, ⟨⟨⟨_, D_this_visit⟩, ⟨trivial, ⟨trivial, ⟨trivial, trivial⟩⟩⟩⟩, ⟨⟨⟨_, D_partner⟩, ⟨⟨trivial, trivial⟩, ⟨trivial, ⟨trivial, trivial⟩⟩⟩⟩, ⟨⟨⟨_, D_with_item⟩, ⟨⟨trivial, trivial⟩, ⟨⟨⟨_, D_box_number⟩, ⟨trivial, ⟨trivial, ⟨trivial, trivial⟩⟩⟩⟩, ⟨⟨⟨_, D_row_sign⟩, ⟨trivial, trivial⟩⟩, trivial⟩⟩⟩⟩, ⟨⟨⟨_, D_with_item⟩, ⟨trivial, ⟨trivial, ⟨trivial, trivial⟩⟩⟩⟩, trivial⟩⟩⟩⟩⟩⟩⟩⟩
  have D_behind_row : Def l.prog w K mg base (L2.CX l.prog w) (g_behind_row C).lv (g_behind_row C).nm _ (toPr ca (g_behind_row C)) := def_mk 4 A_behind_row sc_behind_row rfl (fnd_kp (ok_behind_row C) (by decide)) (m_behind_row C) ⟨⟨⟨kH, trivial⟩, trivial⟩, ⟨⟨⟨kH, trivial⟩, trivial⟩, ⟨⟨n_len, trivial⟩, ⟨⟨⟨trivial, trivial⟩, ⟨⟨⟨⟨_, D_ahead_of_round⟩, ⟨trivial, ⟨trivial, ⟨trivial, trivial⟩⟩⟩⟩, ⟨trivial, trivial⟩⟩, trivial⟩, trivial⟩, ⟨⟨⟨trivial, trivial⟩, ⟨⟨⟨trivial, ⟨trivial, ⟨trivial, trivial⟩⟩⟩, ⟨⟨⟨_, D_behind_tell⟩, ⟨trivial, ⟨trivial, ⟨trivial, trivial⟩⟩⟩⟩, trivial⟩⟩, trivial⟩, trivial⟩, ⟨⟨⟨trivial, trivial⟩, ⟨⟨⟨⟨_, D_ahead_of_round⟩, ⟨trivial, ⟨⟨trivial, trivial⟩, ⟨trivial, trivial⟩⟩⟩⟩, ⟨trivial, trivial⟩⟩, trivial⟩, trivial⟩, ⟨⟨⟨⟨trivial, trivial⟩, ⟨trivial, ⟨trivial, trivial⟩⟩⟩, ⟨trivial, trivial⟩⟩, trivial⟩⟩⟩⟩⟩⟩⟩
  have D_same : Def l.prog w K mg base (L2.CX l.prog w) (g_same C).lv (g_same C).nm _ (toPr ca (g_same C)) := def_mk 2 A_same sc_same rfl (fnd_kp (ok_same C) (by decide)) (m_same C) ⟨⟨kH, ⟨⟨kH, trivial⟩, ⟨⟨kH, trivial⟩, ⟨⟨kH, trivial⟩, ⟨⟨kH, trivial⟩, trivial⟩⟩⟩⟩⟩, trivial⟩
  have D_stepped : Def l.prog w K mg base (L2.CX l.prog w) (g_stepped C).lv (g_stepped C).nm _ (toPr ca (g_stepped C)) := def_mk 5 A_stepped sc_stepped rfl (fnd_kp (ok_stepped C) (by decide)) (m_stepped C) ⟨⟨⟨_, D_ahead⟩, ⟨trivial, ⟨trivial, trivial⟩⟩⟩, ⟨⟨trivial, ⟨⟨⟨⟨_, D_same⟩, ⟨trivial, trivial⟩⟩, ⟨⟨trivial, ⟨trivial, ⟨trivial, trivial⟩⟩⟩, trivial⟩⟩, trivial⟩, trivial⟩, ⟨⟨⟨⟨_, D_in_vain⟩, ⟨trivial, ⟨trivial, trivial⟩⟩⟩, ⟨⟨⟨⟨_, D_same⟩, ⟨trivial, trivial⟩⟩, ⟨⟨trivial, ⟨trivial, ⟨trivial, trivial⟩⟩⟩, trivial⟩⟩, trivial⟩, trivial⟩, ⟨⟨⟨⟨⟨⟨kH, trivial⟩, trivial⟩, trivial⟩, c_COUNT⟩, ⟨⟨⟨_, D_behind_counting⟩, ⟨trivial, ⟨trivial, ⟨trivial, trivial⟩⟩⟩⟩, trivial⟩, ⟨⟨⟨_, D_behind_row⟩, ⟨trivial, ⟨trivial, ⟨trivial, trivial⟩⟩⟩⟩, trivial⟩⟩, ⟨⟨⟨_, D_with_item⟩, ⟨⟨kH, trivial⟩, ⟨trivial, ⟨trivial, trivial⟩⟩⟩⟩, ⟨⟨⟨_, D_with_item⟩, ⟨⟨kH, trivial⟩, ⟨trivial, ⟨trivial, trivial⟩⟩⟩⟩, ⟨⟨⟨kH, ⟨⟨kH, trivial⟩, ⟨⟨kH, trivial⟩, ⟨trivial, ⟨trivial, trivial⟩⟩⟩⟩⟩, ⟨⟨trivial, ⟨trivial, ⟨trivial, trivial⟩⟩⟩, trivial⟩⟩, trivial⟩⟩⟩⟩⟩⟩⟩
  have D__law_cell_at : Def l.prog w K mg base (L2.CX l.prog w) (g__law_cell_at C).lv (g__law_cell_at C).nm _ (toPr ca (g__law_cell_at C)) := def_mk 0 A__law_cell_at sc__law_cell_at rfl (fnd_kp (ok__law_cell_at C) (by decide)) (m__law_cell_at C) ⟨⟨⟨trivial, ⟨n_len, trivial⟩⟩, ⟨⟨trivial, trivial⟩, trivial⟩, trivial⟩, ⟨trivial, trivial⟩⟩
  have D__law_whole : Def l.prog w K mg base (L2.CX l.prog w) (g__law_whole C).lv (g__law_whole C).nm _ (toPr ca (g__law_whole C)) := def_mk 0 A__law_whole sc__law_whole rfl (fnd_kp (ok__law_whole C) (by decide)) (m__law_whole C) ⟨⟨⟨n_isinstance, n_int, trivial⟩, ⟨n_isinstance, n_bool, trivial⟩⟩, trivial⟩
  have D__law_mixed : Def l.prog w K mg base (L2.CX l.prog w) (g__law_mixed C).lv (g__law_mixed C).nm _ (toPr ca (g__law_mixed C)) := def_mk 0 A__law_mixed sc__law_mixed rfl (fnd_kp (ok__law_mixed C) (by decide)) (m__law_mixed C) ⟨⟨⟨⟨trivial, ⟨trivial, trivial⟩⟩, trivial⟩, trivial⟩, ⟨⟨⟨trivial, trivial⟩, trivial⟩, trivial⟩⟩
  have D__law_order : Def l.prog w K mg base (L2.CX l.prog w) (g__law_order C).lv (g__law_order C).nm _ (toPr ca (g__law_order C)) := def_mk 1 A__law_order sc__law_order rfl (fnd_kp (ok__law_order C) (by decide)) (m__law_order C) ⟨⟨n_list, n_range, trivial⟩, ⟨trivial, ⟨⟨⟨n_range, trivial⟩, ⟨⟨⟨⟨_, D__law_mixed⟩, ⟨trivial, ⟨⟨trivial, trivial⟩, trivial⟩⟩⟩, ⟨n_len, trivial⟩⟩, trivial⟩⟩, ⟨trivial, ⟨trivial, trivial⟩⟩⟩⟩⟩
  have D__law_done : Def l.prog w K mg base (L2.CX l.prog w) (g__law_done C).lv (g__law_done C).nm _ (toPr ca (g__law_done C)) := def_mk 6 A__law_done sc__law_done rfl (fnd_kp (ok__law_done C) (by decide)) (m__law_done C) ⟨⟨⟨_, D_stepped⟩, ⟨trivial, ⟨trivial, trivial⟩⟩⟩, ⟨⟨⟨⟨n_isinstance, n_tuple, trivial⟩, ⟨⟨n_len, trivial⟩, trivial⟩⟩, ⟨trivial, trivial⟩, trivial⟩, ⟨⟨trivial, trivial⟩, ⟨⟨⟨⟨n_isinstance, n_tuple, trivial⟩, ⟨trivial, ⟨trivial, ⟨trivial, ⟨trivial, trivial⟩⟩⟩⟩⟩, ⟨trivial, trivial⟩, trivial⟩, ⟨⟨⟨⟨⟨_, D__law_whole⟩, ⟨⟨trivial, trivial⟩, trivial⟩⟩, ⟨⟨_, D__law_whole⟩, ⟨⟨trivial, trivial⟩, trivial⟩⟩⟩, ⟨trivial, trivial⟩, trivial⟩, ⟨⟨trivial, trivial⟩, trivial⟩⟩⟩⟩⟩⟩
  have D__law_kept : Def l.prog w K mg base (L2.CX l.prog w) (g__law_kept C).lv (g__law_kept C).nm _ (toPr ca (g__law_kept C)) := def_mk 2 A__law_kept sc__law_kept rfl (fnd_kp (ok__law_kept C) (by decide)) (m__law_kept C) ⟨⟨trivial, ⟨trivial, trivial⟩, trivial⟩, ⟨⟨⟨_, D_boxes⟩, ⟨trivial, ⟨trivial, trivial⟩⟩⟩, ⟨⟨⟨⟨n_isinstance, n_list, trivial⟩, ⟨trivial, ⟨trivial, ⟨trivial, trivial⟩⟩⟩⟩, ⟨trivial, trivial⟩, trivial⟩, ⟨⟨⟨⟨_, D__law_whole⟩, ⟨⟨trivial, trivial⟩, trivial⟩⟩, ⟨⟨⟨_, D__law_whole⟩, ⟨⟨trivial, trivial⟩, trivial⟩⟩, ⟨⟨⟨_, D_boxes⟩, ⟨trivial, ⟨⟨trivial, trivial⟩, trivial⟩⟩⟩, trivial⟩⟩⟩, trivial⟩⟩⟩⟩
  have D__law_coming : Def l.prog w K mg base (L2.CX l.prog w) (g__law_coming C).lv (g__law_coming C).nm _ (toPr ca (g__law_coming C)) := def_mk 7 A__law_coming sc__law_coming rfl (fnd_kp (ok__law_coming C) (by decide)) (m__law_coming C) ⟨⟨⟨_, D_boxes⟩, ⟨trivial, ⟨⟨trivial, trivial⟩, trivial⟩⟩⟩, ⟨⟨⟨n_range, ⟨n_len, trivial⟩⟩, ⟨⟨⟨_, D__law_done⟩, ⟨trivial, ⟨⟨trivial, trivial⟩, ⟨trivial, ⟨trivial, trivial⟩⟩⟩⟩⟩, ⟨⟨⟨⟨_, D__law_kept⟩, ⟨trivial, ⟨trivial, ⟨⟨⟨⟨n_len, trivial⟩, trivial⟩, trivial⟩, ⟨trivial, ⟨trivial, trivial⟩⟩⟩⟩⟩⟩, ⟨trivial, trivial⟩, trivial⟩, ⟨⟨⟨trivial, trivial⟩, ⟨⟨⟨_, D__law_done⟩, ⟨trivial, ⟨⟨trivial, ⟨trivial, trivial⟩⟩, ⟨trivial, ⟨trivial, trivial⟩⟩⟩⟩⟩, ⟨⟨⟨⟨_, D__law_kept⟩, ⟨trivial, ⟨trivial, ⟨⟨⟨⟨n_len, trivial⟩, trivial⟩, trivial⟩, ⟨trivial, ⟨trivial, trivial⟩⟩⟩⟩⟩⟩, ⟨trivial, trivial⟩, trivial⟩, trivial⟩⟩, trivial⟩, trivial⟩⟩⟩⟩, ⟨trivial, trivial⟩⟩⟩
  have D__law_turning : Def l.prog w K mg base (L2.CX l.prog w) (g__law_turning C).lv (g__law_turning C).nm _ (toPr ca (g__law_turning C)) := def_mk 7 A__law_turning sc__law_turning rfl (fnd_kp (ok__law_turning C) (by decide)) (m__law_turning C) ⟨⟨⟨_, D_boxes⟩, ⟨trivial, ⟨⟨trivial, trivial⟩, trivial⟩⟩⟩, ⟨⟨n_len, trivial⟩, ⟨⟨⟨_, D__law_done⟩, ⟨trivial, ⟨⟨trivial, ⟨trivial, trivial⟩⟩, ⟨trivial, ⟨trivial, trivial⟩⟩⟩⟩⟩, ⟨⟨⟨⟨_, D__law_kept⟩, ⟨trivial, ⟨trivial, ⟨trivial, ⟨trivial, ⟨trivial, trivial⟩⟩⟩⟩⟩⟩, ⟨trivial, trivial⟩, trivial⟩, ⟨⟨⟨trivial, trivial⟩, ⟨⟨⟨_, D__law_done⟩, ⟨trivial, ⟨⟨trivial, ⟨trivial, ⟨trivial, trivial⟩⟩⟩, ⟨trivial, ⟨trivial, trivial⟩⟩⟩⟩⟩, ⟨⟨trivial, ⟨trivial, trivial⟩, trivial⟩, trivial⟩⟩, trivial⟩, ⟨⟨⟨_, D__law_done⟩, ⟨trivial, ⟨⟨trivial, ⟨trivial, trivial⟩⟩, ⟨trivial, ⟨trivial, trivial⟩⟩⟩⟩⟩, ⟨⟨⟨⟨_, D__law_kept⟩, ⟨trivial, ⟨trivial, ⟨trivial, ⟨⟨trivial, trivial⟩, ⟨trivial, trivial⟩⟩⟩⟩⟩⟩, ⟨trivial, trivial⟩, trivial⟩, ⟨trivial, trivial⟩⟩⟩⟩⟩⟩⟩⟩
  have D__law_passing : Def l.prog w K mg base (L2.CX l.prog w) (g__law_passing C).lv (g__law_passing C).nm _ (toPr ca (g__law_passing C)) := def_mk 7 A__law_passing sc__law_passing rfl (fnd_kp (ok__law_passing C) (by decide)) (m__law_passing C) ⟨⟨trivial, ⟨⟨⟨trivial, trivial⟩, ⟨⟨⟨_, D__law_done⟩, ⟨trivial, ⟨trivial, ⟨trivial, ⟨trivial, trivial⟩⟩⟩⟩⟩, ⟨⟨trivial, ⟨trivial, trivial⟩, trivial⟩, trivial⟩⟩, trivial⟩, ⟨⟨⟨_, D__law_done⟩, ⟨trivial, ⟨trivial, ⟨trivial, ⟨trivial, trivial⟩⟩⟩⟩⟩, ⟨⟨trivial, ⟨trivial, trivial⟩, trivial⟩, trivial⟩⟩⟩⟩, ⟨trivial, trivial⟩⟩
  have D__law_meeting : Def l.prog w K mg base (L2.CX l.prog w) (g__law_meeting C).lv (g__law_meeting C).nm _ (toPr ca (g__law_meeting C)) := def_mk 8 A__law_meeting sc__law_meeting rfl (fnd_kp (ok__law_meeting C) (by decide)) (m__law_meeting C) ⟨⟨⟨_, D__law_order⟩, ⟨⟨trivial, trivial⟩, ⟨trivial, trivial⟩⟩⟩, ⟨⟨⟨_, D__law_coming⟩, ⟨trivial, ⟨trivial, ⟨trivial, ⟨trivial, ⟨⟨trivial, trivial⟩, trivial⟩⟩⟩⟩⟩⟩, ⟨⟨trivial, ⟨trivial, trivial⟩, trivial⟩, ⟨⟨⟨_, D__law_turning⟩, ⟨trivial, ⟨trivial, ⟨trivial, ⟨trivial, ⟨⟨trivial, trivial⟩, trivial⟩⟩⟩⟩⟩⟩, ⟨⟨trivial, ⟨trivial, trivial⟩, trivial⟩, ⟨⟨⟨_, D__law_passing⟩, ⟨trivial, ⟨⟨⟨_, D__law_order⟩, ⟨⟨trivial, trivial⟩, ⟨trivial, trivial⟩⟩⟩, ⟨trivial, ⟨⟨trivial, ⟨trivial, trivial⟩⟩, trivial⟩⟩⟩⟩⟩, trivial⟩⟩⟩⟩⟩⟩
  have D__law_often : Def l.prog w K mg base (L2.CX l.prog w) (g__law_often C).lv (g__law_often C).nm _ (toPr ca (g__law_often C)) := def_mk 4 A__law_often sc__law_often rfl (fnd_kp (ok__law_often C) (by decide)) (m__law_often C) ⟨⟨⟨n_range, trivial⟩, ⟨⟨⟨_, D_ahead⟩, ⟨trivial, ⟨trivial, trivial⟩⟩⟩, ⟨⟨⟨trivial, ⟨trivial, ⟨trivial, trivial⟩⟩⟩, ⟨trivial, trivial⟩, trivial⟩, ⟨⟨⟨n_range, trivial⟩, ⟨⟨⟨⟨⟨⟨_, D_came⟩, ⟨trivial, ⟨trivial, ⟨trivial, trivial⟩⟩⟩⟩, ⟨trivial, trivial⟩⟩, ⟨⟨⟨_, D_passed⟩, ⟨trivial, ⟨trivial, ⟨trivial, trivial⟩⟩⟩⟩, ⟨trivial, trivial⟩⟩⟩, ⟨trivial, trivial⟩, trivial⟩, trivial⟩⟩, trivial⟩⟩⟩⟩, ⟨trivial, trivial⟩⟩
  exact law_imp (law_mk (ca := ca) Fl sc_law (ok_law C) (m_law C) ⟨⟨⟨_, D__law_cell_at⟩, ⟨trivial, ⟨trivial, trivial⟩⟩⟩, ⟨⟨trivial, ⟨trivial, trivial⟩⟩, ⟨⟨⟨⟨⟨trivial, trivial⟩, trivial⟩, trivial⟩, ⟨⟨trivial, ⟨⟨trivial, trivial⟩, trivial⟩⟩, trivial⟩, trivial⟩, ⟨⟨⟨⟨_, D__law_cell_at⟩, ⟨trivial, ⟨trivial, trivial⟩⟩⟩, trivial⟩, ⟨⟨⟨⟨trivial, trivial⟩, ⟨⟨⟨⟨⟨_, D__law_cell_at⟩, ⟨trivial, ⟨trivial, trivial⟩⟩⟩, trivial⟩, trivial⟩, trivial⟩⟩, ⟨⟨trivial, ⟨⟨⟨⟨_, D__law_cell_at⟩, ⟨trivial, ⟨trivial, trivial⟩⟩⟩, trivial⟩, trivial⟩⟩, trivial⟩, trivial⟩, ⟨⟨⟨trivial, ⟨⟨⟨_, D__law_order⟩, ⟨⟨⟨_, D__law_cell_at⟩, ⟨trivial, ⟨trivial, trivial⟩⟩⟩, ⟨trivial, trivial⟩⟩⟩, trivial⟩⟩, ⟨⟨trivial, ⟨⟨⟨_, D__law_order⟩, ⟨trivial, ⟨trivial, trivial⟩⟩⟩, trivial⟩⟩, trivial⟩⟩, ⟨⟨⟨n_range, trivial⟩, trivial, ⟨⟨⟨⟨_, D__law_mixed⟩, ⟨⟨⟨_, D__law_cell_at⟩, ⟨trivial, ⟨trivial, trivial⟩⟩⟩, ⟨trivial, trivial⟩⟩⟩, trivial⟩, trivial⟩⟩, ⟨⟨⟨_, D_begun⟩, ⟨trivial, ⟨⟨⟨n_range, trivial⟩, trivial, ⟨n_list, trivial⟩⟩, trivial⟩⟩⟩, ⟨⟨⟨n_range, trivial⟩, ⟨⟨⟨⟨_, D__law_mixed⟩, ⟨⟨⟨_, D__law_cell_at⟩, ⟨trivial, ⟨trivial, trivial⟩⟩⟩, ⟨⟨trivial, trivial⟩, trivial⟩⟩⟩, ⟨⟨⟨_, D__law_mixed⟩, ⟨⟨⟨_, D__law_cell_at⟩, ⟨trivial, ⟨trivial, trivial⟩⟩⟩, ⟨⟨⟨trivial, trivial⟩, trivial⟩, trivial⟩⟩⟩, trivial⟩⟩, ⟨⟨⟨_, D__law_meeting⟩, ⟨trivial, ⟨trivial, ⟨trivial, ⟨⟨trivial, trivial⟩, ⟨⟨⟨⟨trivial, trivial, trivial⟩, ⟨trivial, trivial⟩⟩, trivial⟩, trivial⟩⟩⟩⟩⟩⟩, ⟨⟨trivial, ⟨trivial, trivial⟩, trivial⟩, trivial⟩⟩⟩⟩, ⟨⟨⟨_, D__law_often⟩, ⟨trivial, ⟨trivial, ⟨trivial, trivial⟩⟩⟩⟩, trivial⟩⟩⟩⟩⟩⟩⟩⟩⟩⟩)
end K05
open PySem PySem.W PyProof.Rows in
set_option maxRecDepth 100000 in
set_option maxHeartbeats 0 in
theorem PySem.Challenge.cw_barrierrow_k05_a_gate_that_counts_holds : PySem.Challenge.rw_barrierrow_k05_a_gate_that_counts.Holds := by
  w_on; o_law; k_head; (case hw => w_witness2)
  k_fill
  refine L2.walk_of (l := PySem.Challenge.rw_barrierrow_k05_a_gate_that_counts) (n := 63) (k := 10) (x := "_law_script") (CX := fun _ => L2.CX0) (sp := fun w => DL.spLaw _) rfl (by decide) rfl ⟨rfl, by decide, by decide⟩ (fun w h Y => PySem.W.kIn_of Y) ?F (fun _ _ a ns hl _ hS => ⟨a, ns, rfl, hS, hl, fun _ => rfl⟩) (fun _ _ _ _ _ h => h)
  case F =>
    intro w mg fa h KX G hmg
    refine' K05.all_mk KX G hmg ?a8 ?l8 ?c8 ?k8 ?a9 ?l9 ?c9 ?k9 ?a20 ?l20 ?c20 ?k20 ?a21 ?l21 ?c21 ?k21 ?a19 ?l19 ?c19 ?k19 ?a22 ?l22 ?c22 ?k22 ?a18 ?l18 ?c18 ?k18 ?a23 ?l23 ?c23 ?k23 ?a24 ?l24 ?c24 ?k24 ?a25 ?l25 ?c25 ?k25 ?a29 ?l29 ?c29 ?k29 ?a27 ?l27 ?c27 ?k27 ?a26 ?l26 ?c26 ?k26 ?a28 ?l28 ?c28 ?k28 ?a35 ?l35 ?c35 ?k35 ?a36 ?l36 ?c36 ?k36 ?a37 ?l37 ?c37 ?k37 ?a38 ?l38 ?c38 ?k38 ?a34 ?l34 ?c34 ?k34 ?a33 ?l33 ?c33 ?k33 ?a39 ?l39 ?c39 ?k39 ?a41 ?l41 ?c41 ?k41 ?a42 ?l42 ?c42 ?k42 ?a40 ?l40 ?c40 ?k40 ?a32 ?l32 ?c32 ?k32 ?a31 ?l31 ?c31 ?k31 ?a44 ?l44 ?c44 ?k44 ?a45 ?l45 ?c45 ?k45 ?a46 ?l46 ?c46 ?k46 ?a47 ?l47 ?c47 ?k47 ?a48 ?l48 ?c48 ?k48 ?a49 ?l49 ?c49 ?k49 ?a50 ?l50 ?c50 ?k50 ?a51 ?l51 ?c51 ?k51 ?a52 ?l52 ?c52 ?k52 ?a53 ?l53 ?c53 ?k53 ?a54 ?l54 ?c54 ?k54 ?a55 ?l55 ?c55 ?k55 ?z_ValueError ?z_any ?z_bool ?z_enumerate ?z_int ?z_isinstance ?z_len ?z_list ?z_range ?z_set ?z_tuple ?aC ?a17 ?i17 ?l17 ?c17 ?k17 ?pg ?hd ?po ?sa ?mk ?kc ?g1 ?g2 ?g3 ?g4 ?is1 ?is2 ?is3 ?is4 ?ae1 ?xe1 ?ke1 ?be1 ?te1 ?ae2 ?xe2 ?ke2 ?be2 ?te2 ?ae3 ?xe3 ?ke3 ?be3 ?te3 ?ae4 ?xe4 ?ke4 ?be4 ?te4 ?ae5 ?xe5 ?ke5 ?be5 ?te5 ?ae6 ?xe6 ?ke6 ?be6 ?te6 ?aCOUNT ?aWORDS ?lWORDS ?aSTART ?lSTART ?aMOST_WALKERS ?aMOST_GATES ?aLONGEST_ROW
    (case a8 => k_is)
    (case l8 => k_is)
    (case c8 => k_is)
    (case k8 => k_is)
    (case a9 => k_is)
    (case l9 => k_is)
    (case c9 => k_is)
    (case k9 => k_is)
    (case a20 => k_is)
    (case l20 => k_is)
    (case c20 => k_is)
    (case k20 => k_is)
    (case a21 => k_is)
    (case l21 => k_is)
    (case c21 => k_is)
    (case k21 => k_is)
    (case a19 => k_is)
    (case l19 => k_is)
    (case c19 => k_is)
    (case k19 => k_is)
    (case a22 => k_is)
    (case l22 => k_is)
    (case c22 => k_is)
    (case k22 => k_is)
    (case a18 => k_is)
    (case l18 => k_is)
    (case c18 => k_is)
    (case k18 => k_is)
    (case a23 => k_is)
    (case l23 => k_is)
    (case c23 => k_is)
    (case k23 => k_is)
    (case a24 => k_is)
    (case l24 => k_is)
    (case c24 => k_is)
    (case k24 => k_is)
    (case a25 => k_is)
    (case l25 => k_is)
    (case c25 => k_is)
    (case k25 => k_is)
    (case a29 => k_is)
    (case l29 => k_is)
    (case c29 => k_is)
    (case k29 => k_is)
    (case a27 => k_is)
    (case l27 => k_is)
    (case c27 => k_is)
    (case k27 => k_is)
    (case a26 => k_is)
    (case l26 => k_is)
    (case c26 => k_is)
    (case k26 => k_is)
    (case a28 => k_is)
    (case l28 => k_is)
    (case c28 => k_is)
    (case k28 => k_is)
    (case a35 => k_is)
    (case l35 => k_is)
    (case c35 => k_is)
    (case k35 => k_is)
    (case a36 => k_is)
    (case l36 => k_is)
    (case c36 => k_is)
    (case k36 => k_is)
    (case a37 => k_is)
    (case l37 => k_is)
    (case c37 => k_is)
    (case k37 => k_is)
    (case a38 => k_is)
    (case l38 => k_is)
    (case c38 => k_is)
    (case k38 => k_is)
    (case a34 => k_is)
    (case l34 => k_is)
    (case c34 => k_is)
    (case k34 => k_is)
    (case a33 => k_is)
    (case l33 => k_is)
    (case c33 => k_is)
    (case k33 => k_is)
    (case a39 => k_is)
    (case l39 => k_is)
    (case c39 => k_is)
    (case k39 => k_is)
    (case a41 => k_is)
    (case l41 => k_is)
    (case c41 => k_is)
    (case k41 => k_is)
    (case a42 => k_is)
    (case l42 => k_is)
    (case c42 => k_is)
    (case k42 => k_is)
    (case a40 => k_is)
    (case l40 => k_is)
    (case c40 => k_is)
    (case k40 => k_is)
    (case a32 => k_is)
    (case l32 => k_is)
    (case c32 => k_is)
    (case k32 => k_is)
    (case a31 => k_is)
    (case l31 => k_is)
    (case c31 => k_is)
    (case k31 => k_is)
    (case a44 => k_is)
    (case l44 => k_is)
    (case c44 => k_is)
    (case k44 => k_is)
    (case a45 => k_is)
    (case l45 => k_is)
    (case c45 => k_is)
    (case k45 => k_is)
    (case a46 => k_is)
    (case l46 => k_is)
    (case c46 => k_is)
    (case k46 => k_is)
    (case a47 => k_is)
    (case l47 => k_is)
    (case c47 => k_is)
    (case k47 => k_is)
    (case a48 => k_is)
    (case l48 => k_is)
    (case c48 => k_is)
    (case k48 => k_is)
    (case a49 => k_is)
    (case l49 => k_is)
    (case c49 => k_is)
    (case k49 => k_is)
    (case a50 => k_is)
    (case l50 => k_is)
    (case c50 => k_is)
    (case k50 => k_is)
    (case a51 => k_is)
    (case l51 => k_is)
    (case c51 => k_is)
    (case k51 => k_is)
    (case a52 => k_is)
    (case l52 => k_is)
    (case c52 => k_is)
    (case k52 => k_is)
    (case a53 => k_is)
    (case l53 => k_is)
    (case c53 => k_is)
    (case k53 => k_is)
    (case a54 => k_is)
    (case l54 => k_is)
    (case c54 => k_is)
    (case k54 => k_is)
    (case a55 => k_is)
    (case l55 => k_is)
    (case c55 => k_is)
    (case k55 => k_is)
    (case z_ValueError => k_is)
    (case z_any => k_is)
    (case z_bool => k_is)
    (case z_enumerate => k_is)
    (case z_int => k_is)
    (case z_isinstance => k_is)
    (case z_len => k_is)
    (case z_list => k_is)
    (case z_range => k_is)
    (case z_set => k_is)
    (case z_tuple => k_is)
    (case aC => k_is)
    (case a17 => k_is)
    (case i17 => k_is)
    (case l17 => k_is)
    (case c17 => k_is)
    (case k17 => k_is)
    (case pg => k_is)
    (case hd => k_is)
    (case po => k_is)
    (case sa => k_is)
    (case mk => k_is)
    (case kc => k_is)
    (case g1 => k_is)
    (case g2 => k_is)
    (case g3 => k_is)
    (case g4 => k_is)
    (case is1 => k_is)
    (case is2 => k_is)
    (case is3 => k_is)
    (case is4 => k_is)
    (case ae1 => k_is)
    (case xe1 => k_exc)
    (case ke1 => k_is)
    (case be1 => k_is)
    (case te1 => k_is)
    (case ae2 => k_is)
    (case xe2 => k_exc)
    (case ke2 => k_is)
    (case be2 => k_is)
    (case te2 => k_is)
    (case ae3 => k_is)
    (case xe3 => k_exc)
    (case ke3 => k_is)
    (case be3 => k_is)
    (case te3 => k_is)
    (case ae4 => k_is)
    (case xe4 => k_exc)
    (case ke4 => k_is)
    (case be4 => k_is)
    (case te4 => k_is)
    (case ae5 => k_is)
    (case xe5 => k_exc)
    (case ke5 => k_is)
    (case be5 => k_is)
    (case te5 => k_is)
    (case ae6 => k_is)
    (case xe6 => k_exc)
    (case ke6 => k_is)
    (case be6 => k_is)
    (case te6 => k_is)
    (case aCOUNT => k_is)
    (case aWORDS => k_is)
    (case lWORDS => k_is)
    (case aSTART => k_is)
    (case lSTART => k_is)
    (case aMOST_WALKERS => k_is)
    (case aMOST_GATES => k_is)
    (case aLONGEST_ROW => k_is)
