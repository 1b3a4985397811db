import PyProof.Rows.All
import Wide.All
import OpenK.AllK
import Wide.FinOn
import HandS.ForMost
import HandS.Exc
import HandS.TryOnly
import HandS.TryMany
import HandS.ExcOwn
import HandS.WordsExc
import HandS.IsInst
import HandS.ExcIs
import HandS.FStr
import HandS.TupMul
import HandS.TupAny
import HandS.Conv
import HandS.Deep
import HandS.Strs
import HandS.SetKeys
import PySem.Challenge.RW_barrierrow_k02_ways
set_option Elab.async false
set_option linter.all false
set_option maxRecDepth 100000
set_option maxHeartbeats 4000000
/-! Data and owned lists over the hand layer: a logic whose states speak of plain data. -/
namespace DL
open PySem PySem.Spec PyProof.Rows L2

/-! ### plain data -/
inductive Dt where
  | non | bl (b : Bool) | int (i : Int) | str (x : Str) | lst (ds : List Dt) | tup (ds : List Dt) | scr (ds : List Dt)
  | ins (C : Addr) (ns : List Str) (ds : List Dt)
/-- what a place holds: nothing known, data, a raw value (an owned list's address) -/
inductive Sl where
  | un | dat (d : Dt) | raw (v : V)
abbrev Rho := List Sl
abbrev OH := Addr → Option (List Sl)
def OH0 : OH := fun _ => none
def oset (M : OH) (p : Addr) (xs : List Sl) : OH := fun a => if a = p then some xs else M a
def odel (M : OH) (p : Addr) : OH := fun a => if a = p then none else M a
theorem oset_same {M : OH} {p : Addr} {xs : List Sl} : oset M p xs p = some xs := by unfold oset; rw [if_pos rfl]
theorem oset_ne {M : OH} {p q : Addr} {xs : List Sl} (h : q ≠ p) : oset M p xs q = M q := by unfold oset; rw [if_neg h]
theorem odel_oset {M : OH} {p : Addr} {xs : List Sl} (h : M p = none) : odel (oset M p xs) p = M := by
  funext a; unfold odel oset
  by_cases e : a = p
  · rw [if_pos e, e, h]
  · rw [if_neg e, if_neg e]
theorem oset_oset {M : OH} {p : Addr} {xs ys : List Sl} : oset (oset M p xs) p ys = oset M p ys := by
  funext a; unfold oset
  by_cases e : a = p
  · rw [if_pos e, if_pos e]
  · rw [if_neg e, if_neg e, if_neg e]

mutual
def DA (K : PySem.W.Frag) (H : Hp) : Dt → V → Prop
  | .non, v => v = .non
  | .bl b, v => v = .bl b
  | .int i, v => v = .int i
  | .str x, v => v = .str x
  | .lst ds, v => ∃ a vs, v = .ref a ∧ H a = some (.lst vs) ∧ DAs K H ds vs
  | .scr ds, v => ∃ a vs, v = .ref a ∧ SqL K H a vs ∧ DAs K H ds vs
  | .tup ds, v => ∃ a vs, v = .ref a ∧ SqT K H a vs ∧ DAs K H ds vs
  | .ins C ns ds, v => ∃ a dx vs, v = .ref a ∧ H a = some (.ins C dx (ns.zip vs)) ∧ vs.length = ns.length ∧ DAs K H ds vs
def DAs (K : PySem.W.Frag) (H : Hp) : List Dt → List V → Prop
  | [], vs => vs = []
  | d :: ds, vs => ∃ v r, vs = v :: r ∧ DA K H d v ∧ DAs K H ds r
end
section
variable {K : PySem.W.Frag} {H H' : Hp}
mutual
theorem DA.mono (e : Same H H') : ∀ {d : Dt} {v : V}, DA K H d v → DA K H' d v
  | .non, _, h => h
  | .bl _, _, h => h
  | .int _, _, h => h
  | .str _, _, h => h
  | .lst ds, _, h => by
    unfold DA at h ⊢
    obtain ⟨a, vs, e1, e2, e3⟩ := h
    exact ⟨a, vs, e1, e _ _ e2, DAs.mono e e3⟩
  | .scr ds, _, h => by
    unfold DA at h ⊢
    obtain ⟨a, vs, e1, e2, e3⟩ := h
    exact ⟨a, vs, e1, e.seq e2, DAs.mono e e3⟩
  | .tup ds, _, h => by
    unfold DA at h ⊢
    obtain ⟨a, vs, e1, e2, e3⟩ := h
    refine ⟨a, vs, e1, ?_, DAs.mono e e3⟩
    rcases e2 with (e2 | ⟨o, e2⟩) | e2
    · exact .inl (.inl (e _ _ e2))
    · exact .inl (.inr ⟨o, e _ _ e2⟩)
    · exact .inr e2
  | .ins C ns ds, _, h => by
    unfold DA at h ⊢
    obtain ⟨a, dx, vs, e1, e2, e4, e3⟩ := h
    exact ⟨a, dx, vs, e1, e _ _ e2, e4, DAs.mono e e3⟩
theorem DAs.mono (e : Same H H') : ∀ {ds : List Dt} {vs : List V}, DAs K H ds vs → DAs K H' ds vs
  | [], _, h => by unfold DAs at h ⊢; exact h
  | d :: ds, _, h => by
    unfold DAs at h ⊢
    obtain ⟨v, r, e1, e2, e3⟩ := h
    exact ⟨v, r, e1, DA.mono e e2, DAs.mono e e3⟩
end
theorem DAs.paired : ∀ {ds : List Dt} {vs : List V}, DAs K H ds vs → Paired (fun v d => DA K H d v) vs ds
  | [], vs, h => by unfold DAs at h; subst h; exact .nil
  | d :: ds, vs, h => by
    unfold DAs at h
    obtain ⟨v, r, rfl, e2, e3⟩ := h
    exact .cons e2 e3.paired
theorem DAs.of : ∀ {ds : List Dt} {vs : List V}, Paired (fun v d => DA K H d v) vs ds → DAs K H ds vs
  | _, _, .nil => by unfold DAs; rfl
  | _, _, .cons h t => by unfold DAs; exact ⟨_, _, rfl, h, DAs.of t⟩
theorem DAs.len {ds : List Dt} {vs : List V} (h : DAs K H ds vs) : vs.length = ds.length := h.paired.length
end
theorem paired_get {α β : Type} {F : α → β → Prop} : ∀ {l₁ : List α} {l₂ : List β} {i : Nat} {b : β}, Paired F l₁ l₂ → l₂[i]? = some b → ∃ a, l₁[i]? = some a ∧ F a b
  | _, _, _, _, .nil, e => by simp at e
  | _, _, 0, _, .cons r _, e => by simp at e; subst e; exact ⟨_, rfl, r⟩
  | _, _, i + 1, _, .cons _ t, e => by
    obtain ⟨u, h1, h2⟩ := paired_get (i := i) t (by simpa using e)
    exact ⟨u, by simpa using h1, h2⟩
theorem paired_get' {α β : Type} {F : α → β → Prop} : ∀ {l₁ : List α} {l₂ : List β} {i : Nat} {a : α}, Paired F l₁ l₂ → l₁[i]? = some a → ∃ b, l₂[i]? = some b ∧ F a b
  | _, _, _, _, .nil, e => by simp at e
  | _, _, 0, _, .cons r _, e => by simp at e; subst e; exact ⟨_, rfl, r⟩
  | _, _, i + 1, _, .cons _ t, e => by
    obtain ⟨u, h1, h2⟩ := paired_get' (i := i) t (by simpa using e)
    exact ⟨u, by simpa using h1, h2⟩
theorem paired_set {α β : Type} {F : α → β → Prop} {a : α} {b : β} (r : F a b) : ∀ {l₁ : List α} {l₂ : List β} (i : Nat), Paired F l₁ l₂ → Paired F (l₁.set i a) (l₂.set i b)
  | _, _, _, .nil => .nil
  | _, _, 0, .cons _ t => .cons r t
  | _, _, i + 1, .cons q t => .cons q (paired_set r i t)
theorem paired_append {α β : Type} {F : α → β → Prop} : ∀ {l₁ r₁ : List α} {l₂ r₂ : List β}, Paired F l₁ l₂ → Paired F r₁ r₂ → Paired F (l₁ ++ r₁) (l₂ ++ r₂)
  | _, _, _, _, .nil, s => s
  | _, _, _, _, .cons r t, s => .cons r (paired_append t s)
theorem paired_map {α β γ : Type} {F : α → γ → Prop} {f : β → γ} : ∀ {l₁ : List α} {l₂ : List β}, Paired F l₁ (l₂.map f) ↔ Paired (fun a b => F a (f b)) l₁ l₂
  | l₁, [] => ⟨fun h => by cases h; exact .nil, fun h => by cases h; exact .nil⟩
  | l₁, b :: l₂ => ⟨fun h => by cases h with | cons r t => exact .cons r (paired_map.mp t), fun h => by cases h with | cons r t => exact .cons r (paired_map.mpr t)⟩
theorem paired_erase {α β : Type} {F : α → β → Prop} : ∀ {l₁ : List α} {l₂ : List β} (i : Nat), Paired F l₁ l₂ → Paired F (l₁.eraseIdx i) (l₂.eraseIdx i)
  | _, _, _, .nil => .nil
  | _, _, 0, .cons _ t => t
  | _, _, i + 1, .cons q t => .cons q (paired_erase i t)
theorem paired_rev {α β : Type} {F : α → β → Prop} : ∀ {l₁ : List α} {l₂ : List β}, Paired F l₁ l₂ → Paired F l₁.reverse l₂.reverse
  | _, _, .nil => .nil
  | _, _, .cons q t => by
    rw [List.reverse_cons, List.reverse_cons]
    exact paired_append (paired_rev t) (.cons q .nil)
theorem paired_take {α β : Type} {F : α → β → Prop} : ∀ {l₁ : List α} {l₂ : List β} (i : Nat), Paired F l₁ l₂ → Paired F (l₁.take i) (l₂.take i)
  | _, _, 0, _ => .nil
  | _, _, _ + 1, .nil => .nil
  | _, _, i + 1, .cons q t => .cons q (paired_take i t)
theorem paired_drop {α β : Type} {F : α → β → Prop} : ∀ {l₁ : List α} {l₂ : List β} (i : Nat), Paired F l₁ l₂ → Paired F (l₁.drop i) (l₂.drop i)
  | _, _, 0, h => h
  | _, _, _ + 1, .nil => .nil
  | _, _, i + 1, .cons q t => paired_drop i t
theorem paired_rep {α β : Type} {F : α → β → Prop} {l₁ : List α} {l₂ : List β} (h : Paired F l₁ l₂) : ∀ k : Nat, Paired F (List.replicate k l₁).flatten (List.replicate k l₂).flatten
  | 0 => .nil
  | k + 1 => by
    rw [List.replicate_succ, List.replicate_succ, List.flatten_cons, List.flatten_cons]
    exact paired_append h (paired_rep h k)

def SlOk (K : PySem.W.Frag) (H : Hp) (v : V) : Sl → Prop
  | .un => True
  | .dat d => DA K H d v
  | .raw u => v = u
theorem SlOk.mono {K : PySem.W.Frag} {H H' : Hp} (e : Same H H') {v : V} : ∀ {s : Sl}, SlOk K H v s → SlOk K H' v s
  | .un, h => h
  | .dat _, h => DA.mono e h
  | .raw _, h => h
abbrev SlsOk (K : PySem.W.Frag) (H : Hp) : List V → List Sl → Prop := Paired (SlOk K H)
theorem SlsOk.mono {K : PySem.W.Frag} {H H' : Hp} (e : Same H H') {vs : List V} {xs : List Sl} (h : SlsOk K H vs xs) : SlsOk K H' vs xs := Paired.mono (fun _ _ r => SlOk.mono e r) h
theorem SlsOk.das {K : PySem.W.Frag} {H : Hp} {vs : List V} {ds : List Dt} : SlsOk K H vs (ds.map .dat) ↔ DAs K H ds vs :=
  ⟨fun h => DAs.of (paired_map.mp h), fun h => paired_map.mpr h.paired⟩
/-- a frame's place -/
def PlOk (K : PySem.W.Frag) (H : Hp) (o : Option V) : Sl → Prop
  | .un => True
  | .dat d => ∃ v, o = some v ∧ DA K H d v
  | .raw u => o = some u
theorem PlOk.mono {K : PySem.W.Frag} {H H' : Hp} (e : Same H H') {v : Option V} : ∀ {s : Sl}, PlOk K H v s → PlOk K H' v s
  | .un, h => h
  | .dat _, ⟨v, e1, h⟩ => ⟨v, e1, DA.mono e h⟩
  | .raw _, h => h
theorem PlOk.of {K : PySem.W.Frag} {H : Hp} {v : V} : ∀ {s : Sl}, SlOk K H v s → PlOk K H (some v) s
  | .un, _ => trivial
  | .dat _, h => ⟨v, rfl, h⟩
  | .raw _, h => congrArg some h
abbrev EnvOk (K : PySem.W.Frag) (H : Hp) : L2.St → Rho → Prop := Paired (PlOk K H)
theorem EnvOk.mono {K : PySem.W.Frag} {H H' : Hp} (e : Same H H') {σ : L2.St} {ρ : Rho} (h : EnvOk K H σ ρ) : EnvOk K H' σ ρ := Paired.mono (fun _ _ r => PlOk.mono e r) h
theorem EnvOk.set {K : PySem.W.Frag} {H : Hp} {σ : L2.St} {ρ : Rho} {v : V} {s : Sl} (i : Nat) (h : EnvOk K H σ ρ) (r : SlOk K H v s) : EnvOk K H (σ.set i (some v)) (ρ.set i s) := paired_set (PlOk.of r) i h
def wipeR (ρ : Rho) : List Nat → Rho
  | [] => ρ
  | v :: vs => (wipeR ρ vs).set v .un
theorem EnvOk.wipe {K : PySem.W.Frag} {H : Hp} {σ : L2.St} {ρ : Rho} (h : EnvOk K H σ ρ) : ∀ vs : List Nat, EnvOk K H (L2.wipe σ vs) (wipeR ρ vs)
  | [] => h
  | v :: vs => by
    unfold L2.wipe wipeR
    exact paired_set (F := PlOk K H) (a := none) (b := .un) trivial v (EnvOk.wipe h vs)
def known : Sl → Prop
  | .un => False
  | _ => True
theorem EnvOk.get {K : PySem.W.Frag} {H : Hp} {σ : L2.St} {ρ : Rho} {i : Nat} {s : Sl} (h : EnvOk K H σ ρ) (e : ρ[i]? = some s) (k : known s) : ∃ v, σ[i]? = some (some v) ∧ SlOk K H v s := by
  obtain ⟨o, e1, e2⟩ := paired_get h e
  cases s with
  | un => exact k.elim
  | dat d => obtain ⟨v, rfl, q⟩ := e2; exact ⟨v, e1, q⟩
  | raw u => exact ⟨u, by rw [e1]; exact congrArg some e2, rfl⟩

/-! ### the state: frozen data H, owned lists M, all that stands 𝓗 -/
structure Cxt (K : PySem.W.Frag) (B0 H0 : Hp) (M : OH) (H 𝓗 : Hp) : Prop where
  f : Same H0 H
  u : Same H 𝓗
  b : Same B0 𝓗
  n : ∀ a, H a ≠ none → H0 a ≠ none ∨ B0 a = none
  o : ∀ p xs, M p = some xs → H p = none ∧ B0 p = none ∧ ∃ vs, 𝓗 p = some (.lst vs) ∧ SlsOk K H vs xs
theorem same_new {H : Hp} {p : Addr} {o : HO} (h : H p = none) : Same H (upd H p o) := fun b x e => by
  rw [upd_ne (ne_of_none e h)]
  exact e
theorem same_up {H H' : Hp} {p : Addr} {o : HO} (e : Same H H') (h : H p = none) : Same H (upd H' p o) := fun b x q => by
  rw [upd_ne (ne_of_none q h)]
  exact e _ _ q
theorem same_both {H H' : Hp} {p : Addr} {o : HO} (e : Same H H') : Same (upd H p o) (upd H' p o) := fun b x q => by
  by_cases z : b = p
  · subst z; rw [upd_same] at q ⊢; exact q
  · rw [upd_ne z] at q ⊢; exact e _ _ q
section
variable {K : PySem.W.Frag} {B0 H0 H H' 𝓗 : Hp} {M : OH} {p : Addr} {xs : List Sl} {vs : List V} {ds : List Dt}
theorem Cxt.none_of (c : Cxt K B0 H0 M H 𝓗) (h : 𝓗 p = none) : H p = none ∧ B0 p = none ∧ M p = none := by
  refine ⟨?_, ?_, ?_⟩
  · exact c.u.free h
  · exact c.b.free h
  · cases e : M p with
    | none => rfl
    | some xs =>
      obtain ⟨_, _, vs, q, _⟩ := c.o p xs e
      rw [h] at q; cases q
/-- a new owned list -/
theorem Cxt.newL (c : Cxt K B0 H0 M H 𝓗) (h : 𝓗 p = none) (r : SlsOk K H vs xs) : Cxt K B0 H0 (oset M p xs) H (upd 𝓗 p (.lst vs)) := by
  obtain ⟨h1, h2, h3⟩ := c.none_of h
  refine ⟨c.f, same_up c.u h1, same_up c.b h2, c.n, fun q ys e => ?_⟩
  by_cases z : q = p
  · subst z
    rw [oset_same] at e; cases e
    exact ⟨h1, h2, vs, upd_same, r⟩
  · rw [oset_ne z] at e
    obtain ⟨a1, a2, ws, a3, a4⟩ := c.o q ys e
    exact ⟨a1, a2, ws, by rw [upd_ne z]; exact a3, a4⟩
/-- a new frozen object -/
theorem Cxt.newF {o : HO} (c : Cxt K B0 H0 M H 𝓗) (h : 𝓗 p = none) : Cxt K B0 H0 M (upd H p o) (upd 𝓗 p o) ∧ Same H (upd H p o) := by
  obtain ⟨h1, h2, h3⟩ := c.none_of h
  refine ⟨⟨c.f.trans (same_new h1), same_both c.u, same_up c.b h2, fun a q => ?_, fun q ys e => ?_⟩, same_new h1⟩
  · by_cases z : a = p
    · subst z; exact .inr h2
    · rw [upd_ne z] at q; exact c.n a q
  · have z : q ≠ p := fun z => by rw [z, h3] at e; cases e
    obtain ⟨a1, a2, ws, a3, a4⟩ := c.o q ys e
    exact ⟨by rw [upd_ne z]; exact a1, a2, ws, by rw [upd_ne z]; exact a3, a4.mono (same_new h1)⟩
/-- an owned list is written -/
theorem Cxt.wr {ys : List Sl} (c : Cxt K B0 H0 M H 𝓗) (e : M p = some xs) (r : SlsOk K H vs ys) : Cxt K B0 H0 (oset M p ys) H (upd 𝓗 p (.lst vs)) := by
  obtain ⟨h1, h2, us, h3, h4⟩ := c.o p xs e
  refine ⟨c.f, same_up c.u h1, same_up c.b h2, c.n, fun q zs e => ?_⟩
  by_cases z : q = p
  · subst z
    rw [oset_same] at e; cases e
    exact ⟨h1, h2, vs, upd_same, r⟩
  · rw [oset_ne z] at e
    obtain ⟨a1, a2, ws, a3, a4⟩ := c.o q zs e
    exact ⟨a1, a2, ws, by rw [upd_ne z]; exact a3, a4⟩
/-- an owned list of data is frozen -/
theorem Cxt.frz (c : Cxt K B0 H0 M H 𝓗) (e : M p = some (ds.map .dat)) : ∃ H', Cxt K B0 H0 (odel M p) H' 𝓗 ∧ Same H H' ∧ DA K H' (.lst ds) (.ref p) := by
  obtain ⟨h1, h2, us, h3, h4⟩ := c.o p _ e
  have s1 : Same H (upd H p (.lst us)) := same_new h1
  refine ⟨upd H p (.lst us), ⟨c.f.trans s1, fun a o q => ?_, c.b, fun a q => ?_, fun q zs e => ?_⟩, s1, ?_⟩
  · by_cases z : a = p
    · subst z; rw [upd_same] at q; rw [← q]; exact h3
    · rw [upd_ne z] at q; exact c.u _ _ q
  · by_cases z : a = p
    · subst z; exact .inr h2
    · rw [upd_ne z] at q; exact c.n a q
  · unfold odel at e
    by_cases z : q = p
    · rw [if_pos z] at e; cases e
    · rw [if_neg z] at e
      obtain ⟨a1, a2, ws, a3, a4⟩ := c.o q zs e
      exact ⟨by rw [upd_ne z]; exact a1, a2, ws, a3, a4.mono s1⟩
  · unfold DA
    exact ⟨p, us, rfl, upd_same, (SlsOk.das.mp h4).mono s1⟩
/-- fewer owned -/
theorem Cxt.less {M' : OH} (c : Cxt K B0 H0 M H 𝓗) (h : ∀ p xs, M' p = some xs → M p = some xs) : Cxt K B0 H0 M' H 𝓗 := ⟨c.f, c.u, c.b, c.n, fun p xs e => c.o p xs (h p xs e)⟩
end

/-! ### families of contexts -/
def mkW (K : PySem.W.Frag) (B0 H0 : Hp) (ex : Addr → Rho → OH → Prop) : WX := fun cls d σ 𝓗 => ∃ C ρ M H, cls = .ref C ∧ d = none ∧ Cxt K B0 H0 M H 𝓗 ∧ EnvOk K H σ ρ ∧ ex C ρ M
structure Fm (P : Program) (w : World) (K : PySem.W.Frag) (mg : Str → Option Value) (base : Heap) (N : List Str) (sc : Scope) where
  ι : Type
  X : ι → Cx
  eP : ∀ i, (X i).prog = P
  ew : ∀ i, (X i).w = w
  eK : ∀ i, (X i).K = K
  eg : ∀ i, (X i).mg = mg
  eb : ∀ i, (X i).base = base
  eN : ∀ i, (X i).N = N
  es : ∀ i, (X i).env.scope = sc
  nd : N.Nodup
  lv : Nat
  hr : ∀ i, Room lv (X i).A
  hc : ∀ i, (X i).calm = true
  po : ∀ i, PassesOwn (model (X i).prog (X i).w) (X i).A (X i).env (X i).xe
  B0 : Hp
  H0 : Hp
  ex : Addr → Rho → OH → Prop
  tk : ∀ i, Takes (X i) (mkW K B0 H0 ex)
section
variable {P : Program} {w : World} {K : PySem.W.Frag} {mg : Str → Option Value} {base : Heap} {N : List Str} {sc : Scope} {F : Fm P w K mg base N sc}
def uE (F : Fm P w K mg base N sc) (e : Expr) : TE := fun σ H Q => ∀ i pins s, Inv (F.X i) pins σ H s → wpAny (model (F.X i).prog (F.X i).w) (F.X i).A (eval e (F.X i).env) (EP (F.X i) pins σ Q) (F.X i).xe s
def uT (F : Fm P w K mg base N sc) (e : Expr) : TT := fun σ H Q => ∀ i pins s, Inv (F.X i) pins σ H s → wpAny (model (F.X i).prog (F.X i).w) (F.X i).A (isTrue e (F.X i).env (eval e (F.X i).env)) (TP (F.X i) pins σ Q) (F.X i).xe s
def uW (F : Fm P w K mg base N sc) (e : Expr) : TT := fun σ H Q => ∀ i whole pins s, Inv (F.X i) pins σ H s → wpAny (model (F.X i).prog (F.X i).w) (F.X i).A (isTrue e (F.X i).env whole) (TP (F.X i) pins σ Q) (F.X i).xe s
def uA (F : Fm P w K mg base N sc) (es : List Expr) : TA := fun σ H Q => ∀ i pos pins s, Inv (F.X i) pins σ H s → wpAny (model (F.X i).prog (F.X i).w) (F.X i).A (spliced (backTo pos (starEach es (F.X i).env))) (AP (F.X i) pins σ Q) (F.X i).xe s
def uS (F : Fm P w K mg base N sc) (st : Stmt) : TS := fun D σ H => ∀ i pins s, Inv (F.X i) pins σ H s → wpAny (model (F.X i).prog (F.X i).w) (F.X i).A (exec st (F.X i).env) (SP (F.X i) pins D) (F.X i).xe s
def uSs (F : Fm P w K mg base N sc) (sts : List Stmt) : TS := fun D σ H => ∀ i pins s, Inv (F.X i) pins σ H s → wpAny (model (F.X i).prog (F.X i).w) (F.X i).A (execs sts (F.X i).env) (SP (F.X i) pins D) (F.X i).xe s
theorem pe_u {e : Expr} (i : F.ι) : PE (F.X i) e (uE F e) := ⟨fun pins s _ _ _ I h => h i pins s I⟩
theorem pt_u {e : Expr} (i : F.ι) : PT (F.X i) e (uT F e) := ⟨fun pins s _ _ _ I h => h i pins s I⟩
theorem pw_u {e : Expr} (i : F.ι) : PW (F.X i) e (uW F e) := ⟨fun wh pins s _ _ _ I h => h i wh pins s I⟩
theorem pa_u {es : List Expr} (i : F.ι) : PA (F.X i) es (uA F es) := ⟨fun pos pins s _ _ _ I h => h i pos pins s I⟩
theorem ps_u {st : Stmt} (i : F.ι) : PS (F.X i) st (uS F st) := ⟨fun pins s _ _ _ I h => h i pins s I⟩
theorem pss_u {sts : List Stmt} (i : F.ι) : PSs (F.X i) sts (uSs F sts) := ⟨fun pins s _ _ _ I h => h i pins s I⟩
theorem uE.by {e : Expr} {t : TE} {σ : L2.St} {H : Hp} {Q : VK} (h : ∀ i, PE (F.X i) e t) (q : t σ H Q) : uE F e σ H Q := fun i pins s I => (h i).run pins s σ H Q I q
theorem uT.by {e : Expr} {t : TT} {σ : L2.St} {H : Hp} {Q : Bool → Hp → Prop} (h : ∀ i, PT (F.X i) e t) (q : t σ H Q) : uT F e σ H Q := fun i pins s I => (h i).run pins s σ H Q I q
theorem uW.by {e : Expr} {t : TT} {σ : L2.St} {H : Hp} {Q : Bool → Hp → Prop} (h : ∀ i, PW (F.X i) e t) (q : t σ H Q) : uW F e σ H Q := fun i wh pins s I => (h i).run wh pins s σ H Q I q
theorem uA.by {es : List Expr} {t : TA} {σ : L2.St} {H : Hp} {Q : List V → Hp → Prop} (h : ∀ i, PA (F.X i) es t) (q : t σ H Q) : uA F es σ H Q := fun i pos pins s I => (h i).run pos pins s σ H Q I q
theorem uS.by {st : Stmt} {t : TS} {σ : L2.St} {H : Hp} {D : Ends} (h : ∀ i, PS (F.X i) st t) (q : t D σ H) : uS F st D σ H := fun i pins s I => (h i).run pins s σ H D I q
theorem uSs.by {sts : List Stmt} {t : TS} {σ : L2.St} {H : Hp} {D : Ends} (h : ∀ i, PSs (F.X i) sts t) (q : t D σ H) : uSs F sts D σ H := fun i pins s I => (h i).run pins s σ H D I q
theorem uE.mono {e : Expr} {σ : L2.St} {H : Hp} {Q Q' : VK} (h : uE F e σ H Q) (m : ∀ v H, Q v H → Q' v H) : uE F e σ H Q' := fun i pins s I => thn (h i pins s I) fun _ _ ⟨v, H', I', r, q⟩ => ⟨v, H', I', r, m _ _ q⟩
theorem uT.mono {e : Expr} {σ : L2.St} {H : Hp} {Q Q' : Bool → Hp → Prop} (h : uT F e σ H Q) (m : ∀ v H, Q v H → Q' v H) : uT F e σ H Q' := fun i pins s I => thn (h i pins s I) fun _ _ ⟨H', I', q⟩ => ⟨H', I', m _ _ q⟩
theorem uW.mono {e : Expr} {σ : L2.St} {H : Hp} {Q Q' : Bool → Hp → Prop} (h : uW F e σ H Q) (m : ∀ v H, Q v H → Q' v H) : uW F e σ H Q' := fun i wh pins s I => thn (h i wh pins s I) fun _ _ ⟨H', I', q⟩ => ⟨H', I', m _ _ q⟩
theorem uA.mono {es : List Expr} {σ : L2.St} {H : Hp} {Q Q' : List V → Hp → Prop} (h : uA F es σ H Q) (m : ∀ v H, Q v H → Q' v H) : uA F es σ H Q' := fun i pos pins s I => thn (h i pos pins s I) fun _ _ ⟨v, H', I', r, q⟩ => ⟨v, H', I', r, m _ _ q⟩
structure DLe (D D' : Ends) : Prop where
  nx : ∀ σ H, D.nx σ H → D'.nx σ H
  rt : ∀ v H, D.rt v H → D'.rt v H
  bk : ∀ σ H, D.bk σ H → D'.bk σ H
  ct : ∀ σ H, D.ct σ H → D'.ct σ H
theorem sp_mono {X : Cx} {pins : List (Addr × Obj)} {D D' : Ends} (m : DLe D D') {f : Flow} {s : Shared} (h : SP X pins D f s) : SP X pins D' f s := by
  cases f with
  | next => obtain ⟨σ, H, I, q⟩ := h; exact ⟨σ, H, I, m.nx _ _ q⟩
  | brk => obtain ⟨σ, H, I, q⟩ := h; exact ⟨σ, H, I, m.bk _ _ q⟩
  | cont => obtain ⟨σ, H, I, q⟩ := h; exact ⟨σ, H, I, m.ct _ _ q⟩
  | ret u => obtain ⟨v, σ, H, I, r, q⟩ := h; exact ⟨v, σ, H, I, r, m.rt _ _ q⟩
theorem uS.mono {st : Stmt} {σ : L2.St} {H : Hp} {D D' : Ends} (h : uS F st D σ H) (m : DLe D D') : uS F st D' σ H := fun i pins s I => thn (h i pins s I) fun _ _ q => sp_mono m q
theorem uSs.mono {sts : List Stmt} {σ : L2.St} {H : Hp} {D D' : Ends} (h : uSs F sts D σ H) (m : DLe D D') : uSs F sts D' σ H := fun i pins s I => thn (h i pins s I) fun _ _ q => sp_mono m q

/-! ### the judgements over data -/
abbrev St3 (F : Fm P w K mg base N sc) (M : OH) (H 𝓗 : Hp) : Prop := Cxt K F.B0 F.H0 M H 𝓗
/-- what a raw end knows -/
def QV (F : Fm P w K mg base N sc) (H : Hp) (Q : Sl → OH → Prop) : VK := fun v 𝓗 => ∃ H' M r, St3 F M H' 𝓗 ∧ Same H H' ∧ SlOk K H' v r ∧ Q r M
def QB (F : Fm P w K mg base N sc) (H : Hp) (Q : Bool → OH → Prop) : Bool → Hp → Prop := fun b 𝓗 => ∃ H' M, St3 F M H' 𝓗 ∧ Same H H' ∧ Q b M
def QA (F : Fm P w K mg base N sc) (H : Hp) (Q : List Sl → OH → Prop) : List V → Hp → Prop := fun vs 𝓗 => ∃ H' M rs, St3 F M H' 𝓗 ∧ Same H H' ∧ SlsOk K H' vs rs ∧ Q rs M
structure EW (F : Fm P w K mg base N sc) (ρ : Rho) (M : OH) (e : Expr) (Q : Sl → OH → Prop) : Prop where
  run : ∀ H 𝓗 σ, St3 F M H 𝓗 → EnvOk K H σ ρ → uE F e σ 𝓗 (QV F H Q)
structure TW (F : Fm P w K mg base N sc) (ρ : Rho) (M : OH) (e : Expr) (Q : Bool → OH → Prop) : Prop where
  run : ∀ H 𝓗 σ, St3 F M H 𝓗 → EnvOk K H σ ρ → uT F e σ 𝓗 (QB F H Q)
structure WW (F : Fm P w K mg base N sc) (ρ : Rho) (M : OH) (e : Expr) (Q : Bool → OH → Prop) : Prop where
  run : ∀ H 𝓗 σ, St3 F M H 𝓗 → EnvOk K H σ ρ → uW F e σ 𝓗 (QB F H Q)
structure AW (F : Fm P w K mg base N sc) (ρ : Rho) (M : OH) (es : List Expr) (Q : List Sl → OH → Prop) : Prop where
  run : ∀ H 𝓗 σ, St3 F M H 𝓗 → EnvOk K H σ ρ → uA F es σ 𝓗 (QA F H Q)
def ED (F : Fm P w K mg base N sc) (ρ : Rho) (M : OH) (e : Expr) (r : Sl) : Prop := EW F ρ M e fun r' M' => r' = r ∧ M' = M
def TD (F : Fm P w K mg base N sc) (ρ : Rho) (M : OH) (e : Expr) (b : Bool) : Prop := TW F ρ M e fun b' M' => b' = b ∧ M' = M
def AD (F : Fm P w K mg base N sc) (ρ : Rho) (M : OH) (es : List Expr) (rs : List Sl) : Prop := AW F ρ M es fun rs' M' => rs' = rs ∧ M' = M
structure DE where
  nx : Rho → OH → Prop
  rt : Sl → OH → Prop
  bk : Rho → OH → Prop := fun _ _ => False
  ct : Rho → OH → Prop := fun _ _ => False
def QN (F : Fm P w K mg base N sc) (H : Hp) (Q : Rho → OH → Prop) : L2.St → Hp → Prop := fun σ 𝓗 => ∃ ρ M H', St3 F M H' 𝓗 ∧ Same H H' ∧ EnvOk K H' σ ρ ∧ Q ρ M
def QR (F : Fm P w K mg base N sc) (Q : Sl → OH → Prop) : VK := fun v 𝓗 => ∃ r M H, St3 F M H 𝓗 ∧ SlOk K H v r ∧ Q r M
def rawD (F : Fm P w K mg base N sc) (H : Hp) (D : DE) : Ends := { nx := QN F H D.nx, rt := QR F D.rt, bk := QN F H D.bk, ct := QN F H D.ct }
structure S1 (F : Fm P w K mg base N sc) (ρ : Rho) (M : OH) (st : Stmt) (D : DE) : Prop where
  run : ∀ H 𝓗 σ, St3 F M H 𝓗 → EnvOk K H σ ρ → uS F st (rawD F H D) σ 𝓗
structure SX (F : Fm P w K mg base N sc) (ρ : Rho) (M : OH) (sts : List Stmt) (D : DE) : Prop where
  run : ∀ H 𝓗 σ, St3 F M H 𝓗 → EnvOk K H σ ρ → uSs F sts (rawD F H D) σ 𝓗

variable {ρ : Rho} {M : OH} {e a b c : Expr} {pos : Pos} {r r1 r2 : Sl} {Q : Sl → OH → Prop} {D : DE}
theorem EW.mono {Q' : Sl → OH → Prop} (h : EW F ρ M e Q) (m : ∀ r M', Q r M' → Q' r M') : EW F ρ M e Q' := .mk fun H 𝓗 σ c hE => (h.run H 𝓗 σ c hE).mono fun _ _ ⟨H', M', r, q1, q2, q3, q4⟩ => ⟨H', M', r, q1, q2, q3, m _ _ q4⟩
theorem TW.mono {Q Q' : Bool → OH → Prop} (h : TW F ρ M e Q) (m : ∀ r M', Q r M' → Q' r M') : TW F ρ M e Q' := .mk fun H 𝓗 σ c hE => (h.run H 𝓗 σ c hE).mono fun _ _ ⟨H', M', q1, q2, q4⟩ => ⟨H', M', q1, q2, m _ _ q4⟩
theorem AW.mono {es : List Expr} {Q Q' : List Sl → OH → Prop} (h : AW F ρ M es Q) (m : ∀ r M', Q r M' → Q' r M') : AW F ρ M es Q' := .mk fun H 𝓗 σ c hE => (h.run H 𝓗 σ c hE).mono fun _ _ ⟨H', M', r, q1, q2, q3, q4⟩ => ⟨H', M', r, q1, q2, q3, m _ _ q4⟩
theorem ED.ew (h : ED F ρ M e r) (q : Q r M) : EW F ρ M e Q := EW.mono h fun r' M' z => by rw [z.1, z.2]; exact q
theorem TD.tw {k : Bool} {Q : Bool → OH → Prop} (h : TD F ρ M e k) (q : Q k M) : TW F ρ M e Q := TW.mono h fun r' M' z => by rw [z.1, z.2]; exact q
theorem AD.aw {es : List Expr} {rs : List Sl} {Q : List Sl → OH → Prop} (h : AD F ρ M es rs) (q : Q rs M) : AW F ρ M es Q := AW.mono h fun r' M' z => by rw [z.1, z.2]; exact q
theorem ED.to (h : ED F ρ M e r) (q : r = r1) : ED F ρ M e r1 := by rw [← q]; exact h
theorem TD.to {k k' : Bool} (h : TD F ρ M e k) (q : k = k') : TD F ρ M e k' := by rw [← q]; exact h

/-! ### expressions -/
theorem ed_var {i : Nat} {x : Str} (hr : ρ[i]? = some r) (hk : known r := by trivial) (hN : N[i]? = some x := by decide +kernel)
    (hv : ∀ j, Vis (F.X j).env.scope x := by intro _; first | exact Or.inl rfl | exact Or.inr (Or.inl rfl) | exact Or.inr (Or.inr rfl)) (hd : (x == ("__debug__" : Str)) = false := by decide)
    (hcd : (x == ("__classdict__" : Str)) = false := by decide) : ED F ρ M (.Name x pos) r := .mk fun H 𝓗 σ c hE => by
  obtain ⟨v, e1, e2⟩ := hE.get hr hk
  exact uE.by (fun j => pe_var (i := i) (by rw [F.eN j]; exact hN) (hv j) hd hcd) ⟨v, e1, H, M, r, c, Same.refl H, e2, rfl, rfl⟩
theorem ed_c {v : V} (h : ∀ i, PE (F.X i) e (tC v)) (hs : ∀ H, SlOk K H v r) : ED F ρ M e r := .mk fun H 𝓗 σ c hE => uE.by h ⟨H, M, r, c, Same.refl H, hs H, rfl, rfl⟩
theorem ed_int {i : Int} {j} : ED F ρ M (.Constant (.int i) j pos) (.dat (.int i)) := ed_c (fun _ => pe_int) fun _ => rfl
theorem ed_bl {i : Bool} {j} : ED F ρ M (.Constant (.bool i) j pos) (.dat (.bl i)) := ed_c (fun _ => pe_bl) fun _ => rfl
theorem ed_non {j} : ED F ρ M (.Constant .none j pos) (.dat .non) := ed_c (fun _ => pe_non) fun _ => rfl
theorem ed_str {x : Str} {j} : ED F ρ M (.Constant (.str x) j pos) (.dat (.str x)) := ed_c (fun _ => pe_str) fun _ => rfl
/-- a module's constant -/
theorem ed_glob {x : Str} {v : V} {u : Value} (hm : mg x = some u) (q : RelV v u) (hs : ∀ H, SlOk K H v r) (hg : ∀ i, Gl (F.X i) x := by intro _; rfl) (hd : (x == ("__debug__" : Str)) = false := by decide) : ED F ρ M (.Name x pos) r :=
  ed_c (fun i => pe_glob (hg i) (by rw [F.eg i]; exact hm) q hd) hs
theorem QV.up {H H' : Hp} (e : Same H H') {v : V} {𝓗 : Hp} (h : QV F H' Q v 𝓗) : QV F H Q v 𝓗 := by
  obtain ⟨H1, M, r, q1, q2, q3, q4⟩ := h
  exact ⟨H1, M, r, q1, e.trans q2, q3, q4⟩
/-- a two-place operation: by what its rule asks of the values -/
abbrev Op2 (F : Fm P w K mg base N sc) (t : R2) (x y : Sl) (M : OH) (Q : Sl → OH → Prop) : Prop := ∀ H 𝓗 u v (Q' : VK), St3 F M H 𝓗 → SlOk K H u x → SlOk K H v y → (∀ v' 𝓗', QV F H Q v' 𝓗' → Q' v' 𝓗') → t u v 𝓗 Q'
theorem ew_op2 {t : R2} (hp : ∀ i, PE (F.X i) e (tOp t (uE F a) (uE F b))) (ha : EW F ρ M a fun x M1 => EW F ρ M1 b fun y M2 => Op2 F t x y M2 Q) : EW F ρ M e Q := .mk fun H 𝓗 σ c hE => by
  refine uE.by hp ((ha.run H 𝓗 σ c hE).mono fun u 𝓗1 ⟨H1, M1, x, c1, s1, q1, hb⟩ => ?_)
  refine (hb.run H1 𝓗1 σ c1 (hE.mono s1)).mono fun v 𝓗2 ⟨H2, M2, y, c2, s2, q2, ht⟩ => ?_
  exact ht H2 𝓗2 u v _ c2 (q1.mono s2) q2 fun v' 𝓗' z => z.up (s1.trans s2)
theorem ed_op2 {t : R2} (hp : ∀ i, PE (F.X i) e (tOp t (uE F a) (uE F b))) (ha : ED F ρ M a r1) (hb : ED F ρ M b r2) (ho : Op2 F t r1 r2 M fun r' M' => r' = r ∧ M' = M) : ED F ρ M e r :=
  ew_op2 hp (ha.ew (hb.ew ho))
/-- the value is had at once, nothing changes -/
theorem here {H 𝓗 : Hp} {v : V} {Q' : VK} (c : St3 F M H 𝓗) (k : ∀ v' 𝓗', QV F H (fun r' M' => r' = r ∧ M' = M) v' 𝓗' → Q' v' 𝓗') (h : SlOk K H v r) : Q' v 𝓗 := k v 𝓗 ⟨H, M, r, c, Same.refl H, h, rfl, rfl⟩
section
variable {i j : Int}
theorem op2_I0 {g : Int → Int → V} {d : Dt} (h : ∀ H, DA K H d (g i j)) : Op2 F (rI0 g) (.dat (.int i)) (.dat (.int j)) M fun r' M' => r' = .dat d ∧ M' = M := fun H 𝓗 u v Q' c e1 e2 k =>
  ⟨i, j, e1, e2, here c k (h H)⟩
theorem op2_I {C : Int → Int → Prop} {g : Int → Int → V} {d : Dt} (hc : C i j) (h : ∀ H, DA K H d (g i j)) : Op2 F (rI C g) (.dat (.int i)) (.dat (.int j)) M fun r' M' => r' = .dat d ∧ M' = M := fun H 𝓗 u v Q' c e1 e2 k =>
  ⟨i, j, e1, e2, hc, here c k (h H)⟩
theorem ed_add (ha : ED F ρ M a (.dat (.int i))) (hb : ED F ρ M b (.dat (.int j))) : ED F ρ M (.BinOp a .Add b pos) (.dat (.int (i + j))) := ed_op2 (fun _ => pe_op op_add (pe_u _) (pe_u _)) ha hb (op2_I0 fun _ => rfl)
theorem ed_sub (ha : ED F ρ M a (.dat (.int i))) (hb : ED F ρ M b (.dat (.int j))) : ED F ρ M (.BinOp a .Sub b pos) (.dat (.int (i - j))) := ed_op2 (fun _ => pe_op op_sub (pe_u _) (pe_u _)) ha hb (op2_I0 fun _ => rfl)
theorem ed_mul (ha : ED F ρ M a (.dat (.int i))) (hb : ED F ρ M b (.dat (.int j))) (h : CMul i j) : ED F ρ M (.BinOp a .Mult b pos) (.dat (.int (i * j))) := ed_op2 (fun _ => pe_op op_mul (pe_u _) (pe_u _)) ha hb (op2_I h fun _ => rfl)
theorem ed_mod (ha : ED F ρ M a (.dat (.int i))) (hb : ED F ρ M b (.dat (.int j))) (h : 0 < j) : ED F ρ M (.BinOp a .Mod b pos) (.dat (.int (i % j))) := ed_op2 (fun _ => pe_op op_mod (pe_u _) (pe_u _)) ha hb (op2_I h fun _ => rfl)
theorem ed_div (ha : ED F ρ M a (.dat (.int i))) (hb : ED F ρ M b (.dat (.int j))) (h : CDiv i j) : ED F ρ M (.BinOp a .FloorDiv b pos) (.dat (.int (i / j))) := ed_op2 (fun _ => pe_op op_fdiv (pe_u _) (pe_u _)) ha hb (op2_I h fun _ => rfl)
theorem ed_pow (ha : ED F ρ M a (.dat (.int i))) (hb : ED F ρ M b (.dat (.int j))) (h : CPow i j) : ED F ρ M (.BinOp a .Pow b pos) (.dat (.int (i ^ j.toNat))) := ed_op2 (fun _ => pe_op op_pow (pe_u _) (pe_u _)) ha hb (op2_I h fun _ => rfl)
theorem ed_shl (ha : ED F ρ M a (.dat (.int i))) (hb : ED F ρ M b (.dat (.int j))) (h : CPow i j) : ED F ρ M (.BinOp a .LShift b pos) (.dat (.int (i * 2 ^ j.toNat))) := ed_op2 (fun _ => pe_op op_shl (pe_u _) (pe_u _)) ha hb (op2_I h fun _ => rfl)
theorem ed_shr (ha : ED F ρ M a (.dat (.int i))) (hb : ED F ρ M b (.dat (.int j))) (h : 0 ≤ j) : ED F ρ M (.BinOp a .RShift b pos) (.dat (.int (i / 2 ^ j.toNat))) := ed_op2 (fun _ => pe_op op_shr (pe_u _) (pe_u _)) ha hb (op2_I h fun _ => rfl)
theorem ed_and2 (ha : ED F ρ M a (.dat (.int i))) (hb : ED F ρ M b (.dat (.int j))) : ED F ρ M (.BinOp a .BitAnd b pos) (.dat (.int (Builtin.bitAnd i j))) := ed_op2 (fun _ => pe_op op_and (pe_u _) (pe_u _)) ha hb (op2_I0 fun _ => rfl)
theorem ed_lt (ha : ED F ρ M a (.dat (.int i))) (hb : ED F ρ M b (.dat (.int j))) : ED F ρ M (.Compare a [.Lt] [b] pos) (.dat (.bl (decide (i < j)))) := ed_op2 (fun _ => pe_cmpR op_lt (pe_u _) (pe_u _) (nomark _)) ha hb (op2_I0 fun _ => rfl)
theorem ed_le (ha : ED F ρ M a (.dat (.int i))) (hb : ED F ρ M b (.dat (.int j))) : ED F ρ M (.Compare a [.LtE] [b] pos) (.dat (.bl (decide (i ≤ j)))) := ed_op2 (fun _ => pe_cmpR op_le (pe_u _) (pe_u _) (nomark _)) ha hb (op2_I0 fun _ => rfl)
theorem ed_gt (ha : ED F ρ M a (.dat (.int i))) (hb : ED F ρ M b (.dat (.int j))) : ED F ρ M (.Compare a [.Gt] [b] pos) (.dat (.bl (decide (j < i)))) := ed_op2 (fun _ => pe_cmpR op_gt (pe_u _) (pe_u _) (nomark _)) ha hb (op2_I0 fun _ => rfl)
theorem ed_ge (ha : ED F ρ M a (.dat (.int i))) (hb : ED F ρ M b (.dat (.int j))) : ED F ρ M (.Compare a [.GtE] [b] pos) (.dat (.bl (decide (j ≤ i)))) := ed_op2 (fun _ => pe_cmpR op_ge (pe_u _) (pe_u _) (nomark _)) ha hb (op2_I0 fun _ => rfl)
end
/-! ### tests -/
theorem TW.ofB {Q : Bool → OH → Prop} (h : EW F ρ M e fun r' M' => ∃ k, r' = .dat (.bl k) ∧ Q k M') (he : ∀ j whole, isTrue e (F.X j).env whole = (do let v ← whole; standAt e.pos; holding [v] (truthy v)) := by intro _ _; rfl) : TW F ρ M e Q := .mk fun H 𝓗 σ c hE =>
  uT.by (fun j => pt_val (pe_u j) (he j)) ((h.run H 𝓗 σ c hE).mono fun v 𝓗1 ⟨H1, M1, r', c1, s1, q1, k, e1, q⟩ => by
    subst e1
    exact ⟨k, q1, H1, M1, c1, s1, q⟩)
theorem TD.ofB {k : Bool} (h : ED F ρ M e (.dat (.bl k))) (he : ∀ j whole, isTrue e (F.X j).env whole = (do let v ← whole; standAt e.pos; holding [v] (truthy v)) := by intro _ _; rfl) : TD F ρ M e k := TW.ofB (h.ew ⟨k, rfl, rfl, rfl⟩) he
theorem td_op2 {t : R2} {k : Bool} (hp : ∀ i, PT (F.X i) e (tTest (tOp t (uE F a) (uE F b)))) (ha : ED F ρ M a r1) (hb : ED F ρ M b r2) (ho : Op2 F t r1 r2 M fun r' M' => r' = .dat (.bl k) ∧ M' = M) : TD F ρ M e k := .mk fun H 𝓗 σ c hE => by
  refine uT.by hp ((ha.run H 𝓗 σ c hE).mono fun u 𝓗1 ⟨H1, M1, x, c1, s1, q1, e1, e2⟩ => ?_)
  subst e1 e2
  refine (hb.run H1 𝓗1 σ c1 (hE.mono s1)).mono fun v 𝓗2 ⟨H2, M2, y, c2, s2, q2, e1, e2⟩ => ?_
  subst e1 e2
  refine ho H2 𝓗2 u v _ c2 (q1.mono s2) q2 fun v' 𝓗' ⟨H3, M3, z, c3, s3, q3, e1, e2⟩ => ?_
  subst e1 e2
  exact ⟨k, q3, H3, M3, c3, (s1.trans s2).trans s3, rfl, rfl⟩
section
variable {i j : Int}
theorem td_lt (ha : ED F ρ M a (.dat (.int i))) (hb : ED F ρ M b (.dat (.int j))) : TD F ρ M (.Compare a [.Lt] [b] pos) (decide (i < j)) := td_op2 (fun _ => pt_cmpR op_lt (pe_u _) (pe_u _) (nomark _)) ha hb (op2_I0 fun _ => rfl)
theorem td_le (ha : ED F ρ M a (.dat (.int i))) (hb : ED F ρ M b (.dat (.int j))) : TD F ρ M (.Compare a [.LtE] [b] pos) (decide (i ≤ j)) := td_op2 (fun _ => pt_cmpR op_le (pe_u _) (pe_u _) (nomark _)) ha hb (op2_I0 fun _ => rfl)
theorem td_gt (ha : ED F ρ M a (.dat (.int i))) (hb : ED F ρ M b (.dat (.int j))) : TD F ρ M (.Compare a [.Gt] [b] pos) (decide (j < i)) := td_op2 (fun _ => pt_cmpR op_gt (pe_u _) (pe_u _) (nomark _)) ha hb (op2_I0 fun _ => rfl)
theorem td_ge (ha : ED F ρ M a (.dat (.int i))) (hb : ED F ρ M b (.dat (.int j))) : TD F ρ M (.Compare a [.GtE] [b] pos) (decide (j ≤ i)) := td_op2 (fun _ => pt_cmpR op_ge (pe_u _) (pe_u _) (nomark _)) ha hb (op2_I0 fun _ => rfl)
end
end
end DL
namespace DL
open PySem PySem.Spec PyProof.Rows L2
section
variable {P : Program} {w : World} {K : PySem.W.Frag} {mg : Str → Option Value} {base : Heap} {N : List Str} {sc : Scope} {F : Fm P w K mg base N sc}
variable {ρ : Rho} {M : OH} {e a b c : Expr} {pos : Pos} {r r1 r2 : Sl} {Q : Sl → OH → Prop} {D : DE}

abbrev NS (F : Fm P w K mg base N sc) (e : Expr) (es : List Expr) : Prop := ∀ j, starEach (e :: es) (F.X j).env = (false, eval e (F.X j).env) :: starEach es (F.X j).env
abbrev NP (F : Fm P w K mg base N sc) (pos : Pos) (es : List Expr) : Prop := ∀ j, (backTo pos (starEach es (F.X j).env)).any (·.1) = false
abbrev GL (F : Fm P w K mg base N sc) (x : Str) : Prop := ∀ i, Gl (F.X i) x
/-! ### statements -/
theorem QN.imp {H H' : Hp} (e : Same H H') {Q Q' : Rho → OH → Prop} (m : ∀ ρ M, Q ρ M → Q' ρ M) : ∀ σ 𝓗, QN F H' Q σ 𝓗 → QN F H Q' σ 𝓗 := fun _ _ ⟨ρ, M, H, a, s, b, q⟩ => ⟨ρ, M, H, a, e.trans s, b, m _ _ q⟩
theorem QR.imp {Q Q' : Sl → OH → Prop} (m : ∀ ρ M, Q ρ M → Q' ρ M) : ∀ σ 𝓗, QR F Q σ 𝓗 → QR F Q' σ 𝓗 := fun _ _ ⟨ρ, M, H, a, b, q⟩ => ⟨ρ, M, H, a, b, m _ _ q⟩
theorem DLe.up {H H' : Hp} (e : Same H H') : DLe (rawD F H' D) (rawD F H D) := ⟨QN.imp e fun _ _ q => q, fun _ _ q => q, QN.imp e fun _ _ q => q, QN.imp e fun _ _ q => q⟩
theorem S1.mono {st : Stmt} {D' : DE} (h : S1 F ρ M st D) (m1 : ∀ ρ M, D.nx ρ M → D'.nx ρ M) (m2 : ∀ r M, D.rt r M → D'.rt r M) (m3 : ∀ ρ M, D.bk ρ M → D'.bk ρ M) (m4 : ∀ ρ M, D.ct ρ M → D'.ct ρ M) : S1 F ρ M st D' := .mk fun H 𝓗 σ c hE =>
  (h.run H 𝓗 σ c hE).mono ⟨QN.imp (Same.refl H) m1, QR.imp m2, QN.imp (Same.refl H) m3, QN.imp (Same.refl H) m4⟩
theorem SX.mono {st : List Stmt} {D' : DE} (h : SX F ρ M st D) (m1 : ∀ ρ M, D.nx ρ M → D'.nx ρ M) (m2 : ∀ r M, D.rt r M → D'.rt r M) (m3 : ∀ ρ M, D.bk ρ M → D'.bk ρ M) (m4 : ∀ ρ M, D.ct ρ M → D'.ct ρ M) : SX F ρ M st D' := .mk fun H 𝓗 σ c hE =>
  (h.run H 𝓗 σ c hE).mono ⟨QN.imp (Same.refl H) m1, QR.imp m2, QN.imp (Same.refl H) m3, QN.imp (Same.refl H) m4⟩
/-- a statement list at an elder wish -/
theorem SX.at {st : List Stmt} {H H' 𝓗 : Hp} {σ : L2.St} (h : SX F ρ M st D) (c : St3 F M H' 𝓗) (hE : EnvOk K H' σ ρ) (e : Same H H') : uSs F st (rawD F H D) σ 𝓗 := (h.run H' 𝓗 σ c hE).mono (DLe.up e)
theorem sx_nil (h : D.nx ρ M) : SX F ρ M [] D := .mk fun H 𝓗 σ c hE => uSs.by (fun _ => pss_nil) ⟨ρ, M, H, c, Same.refl H, hE, h⟩
theorem sx_cons {st : Stmt} {rest : List Stmt} (h : S1 F ρ M st { D with nx := fun ρ' M' => SX F ρ' M' rest D }) : SX F ρ M (st :: rest) D := .mk fun H 𝓗 σ c hE =>
  uSs.by (fun _ => pss_cons (ps_u _) (pss_u _)) ((h.run H 𝓗 σ c hE).mono (D' := { rawD F H D with nx := uSs F rest (rawD F H D) }) ⟨fun σ' 𝓗' ⟨ρ', M', H', c', s', hE', q⟩ => q.at c' hE' s', fun _ _ q => q, fun _ _ q => q, fun _ _ q => q⟩)
theorem sx_one {st : Stmt} (h : S1 F ρ M st D) : SX F ρ M [st] D := .mk fun H 𝓗 σ c hE => uSs.by (fun _ => pss_one (ps_u _)) (h.run H 𝓗 σ c hE)
/-- a word between a statement and the rest -/
theorem sx_cut {st : Stmt} {rest : List Stmt} (Mid : Rho → OH → Prop) (h : S1 F ρ M st { D with nx := Mid }) (k : ∀ ρ' M', Mid ρ' M' → SX F ρ' M' rest D) : SX F ρ M (st :: rest) D := sx_cons (h.mono k (fun _ _ q => q) (fun _ _ q => q) fun _ _ q => q)
theorem s_pass (h : D.nx ρ M) : S1 F ρ M (.Pass pos) D := .mk fun H 𝓗 σ c hE => uS.by (fun _ => ps_pass) ⟨ρ, M, H, c, Same.refl H, hE, h⟩
theorem s_break (h : D.bk ρ M) : S1 F ρ M (.Break pos) D := .mk fun H 𝓗 σ c hE => uS.by (fun _ => ps_break) ⟨ρ, M, H, c, Same.refl H, hE, h⟩
theorem s_continue (h : D.ct ρ M) : S1 F ρ M (.Continue pos) D := .mk fun H 𝓗 σ c hE => uS.by (fun _ => ps_continue) ⟨ρ, M, H, c, Same.refl H, hE, h⟩
theorem s_expr (h : EW F ρ M e fun _ M' => D.nx ρ M') (hs : ∀ j, swapsWith e none pos.line (F.X j).env = pure false := by intro _; rfl) : S1 F ρ M (.Expr e pos) D := .mk fun H 𝓗 σ c hE =>
  uS.by (fun j => ps_expr (pe_u j) (hs j)) ((h.run H 𝓗 σ c hE).mono fun v 𝓗' ⟨H', M', r, c', s', q, n⟩ => ⟨ρ, M', H', c', s', hE.mono s', n⟩)
theorem s_ret (h : EW F ρ M e D.rt) : S1 F ρ M (.Return (some e) pos) D := .mk fun H 𝓗 σ c hE =>
  uS.by (fun j => ps_ret (pe_u j)) ((h.run H 𝓗 σ c hE).mono fun v 𝓗' ⟨H', M', r, c', s', q, n⟩ => ⟨r, M', H', c', q, n⟩)
theorem s_retN (h : D.rt (.dat .non) M) : S1 F ρ M (.Return none pos) D := .mk fun H 𝓗 σ c hE => uS.by (fun j => ps_retN) ⟨.dat .non, M, H, c, rfl, h⟩
theorem s_setW (i : Nat) {x : Str} {pos' : Pos} (h : EW F ρ M e fun r M' => D.nx (ρ.set i r) M') (hi : N[i]? = some x := by decide +kernel) (hx : ∀ j, Loc (F.X j).env.scope x := by intro _; first | exact Or.inl rfl | exact Or.inr rfl)
    (hs : ∀ j, swapsWith e (some (.Name x pos')) pos.line (F.X j).env = pure false := by intro _; rfl) (hf : ∀ j, (F.X j).fn x = true ∨ (F.X j).env.scope.names.lookup x = some .local := by intro _; first | exact .inl rfl | exact .inr rfl) :
    S1 F ρ M (.Assign [.Name x pos'] e pos) D := .mk fun H 𝓗 σ c hE =>
  uS.by (fun j => ps_set (by rw [F.eN j]; exact F.nd) (by rw [F.eN j]; exact hi) (hx j) (pe_u j) (hs j) (hf j)) ((h.run H 𝓗 σ c hE).mono fun v 𝓗' ⟨H', M', r, c', s', q, n⟩ => ⟨ρ.set i r, M', H', c', s', (hE.mono s').set i q, n⟩)
theorem s_set (i : Nat) {x : Str} {pos' : Pos} (h : ED F ρ M e r) (k : D.nx (ρ.set i r) M) (hi : N[i]? = some x := by decide +kernel) (hx : ∀ j, Loc (F.X j).env.scope x := by intro _; first | exact Or.inl rfl | exact Or.inr rfl)
    (hs : ∀ j, swapsWith e (some (.Name x pos')) pos.line (F.X j).env = pure false := by intro _; rfl) (hf : ∀ j, (F.X j).fn x = true ∨ (F.X j).env.scope.names.lookup x = some .local := by intro _; first | exact .inl rfl | exact .inr rfl) :
    S1 F ρ M (.Assign [.Name x pos'] e pos) D := s_setW i (h.ew k) hi hx hs hf
theorem s_augI {i : Nat} {x : Str} {pos' : Pos} {op : Operator} {f : Int → Int → Int} {m n : Int} (ho : ∀ j, PIp (F.X j) op (ipI f)) (hr : ρ[i]? = some (.dat (.int m))) (h : ED F ρ M e (.dat (.int n))) (k : D.nx (ρ.set i (.dat (.int (f m n)))) M)
    (hi : N[i]? = some x := by decide +kernel) (hx : ∀ j, Loc (F.X j).env.scope x := by intro _; first | exact Or.inl rfl | exact Or.inr rfl)
    (hf : ∀ j, (F.X j).fn x = true ∨ (F.X j).env.scope.names.lookup x = some .local := by intro _; first | exact .inl rfl | exact .inr rfl) : S1 F ρ M (.AugAssign (.Name x pos') op e pos) D := .mk fun H 𝓗 σ c hE => by
  obtain ⟨v, e1, e2⟩ := hE.get hr trivial
  refine uS.by (fun j => ps_aug (by rw [F.eN j]; exact F.nd) (by rw [F.eN j]; exact hi) (hx j) (pe_u j) (ho j) (hf j)) ⟨v, e1, (h.run H 𝓗 σ c hE).mono fun v' 𝓗' ⟨H', M', r, c', s', q, n1, n2⟩ => ?_⟩
  subst n1 n2
  exact ⟨m, n, e2, q, ρ.set i (.dat (.int (f m n))), M', H', c', s', (hE.mono s').set i (show DA K H' (.int (f m n)) (.int (f m n)) by unfold DA; rfl), k⟩
theorem s_augAdd (i : Nat) {x : Str} {pos' : Pos} {m n : Int} (hr : ρ[i]? = some (.dat (.int m))) (h : ED F ρ M e (.dat (.int n))) (k : D.nx (ρ.set i (.dat (.int (m + n)))) M)
    (hi : N[i]? = some x := by decide +kernel) (hx : ∀ j, Loc (F.X j).env.scope x := by intro _; first | exact Or.inl rfl | exact Or.inr rfl)
    (hf : ∀ j, (F.X j).fn x = true ∨ (F.X j).env.scope.names.lookup x = some .local := by intro _; first | exact .inl rfl | exact .inr rfl) : S1 F ρ M (.AugAssign (.Name x pos') .Add e pos) D := s_augI (fun _ => ip_add) hr h k hi hx hf
theorem s_augSub (i : Nat) {x : Str} {pos' : Pos} {m n : Int} (hr : ρ[i]? = some (.dat (.int m))) (h : ED F ρ M e (.dat (.int n))) (k : D.nx (ρ.set i (.dat (.int (m - n)))) M)
    (hi : N[i]? = some x := by decide +kernel) (hx : ∀ j, Loc (F.X j).env.scope x := by intro _; first | exact Or.inl rfl | exact Or.inr rfl)
    (hf : ∀ j, (F.X j).fn x = true ∨ (F.X j).env.scope.names.lookup x = some .local := by intro _; first | exact .inl rfl | exact .inr rfl) : S1 F ρ M (.AugAssign (.Name x pos') .Sub e pos) D := s_augI (fun _ => ip_sub) hr h k hi hx hf
theorem s_ifW {t u : List Stmt} (h : TW F ρ M c fun k M' => if k = true then SX F ρ M' t D else SX F ρ M' u D) : S1 F ρ M (.If c t u pos) D := .mk fun H 𝓗 σ c hE =>
  uS.by (fun j => ps_if (pt_u j) (pss_u j) (pss_u j)) ((h.run H 𝓗 σ c hE).mono fun k 𝓗' ⟨H', M', c', s', q⟩ => by
    cases k with
    | true => exact SX.at q c' (hE.mono s') s'
    | false => exact SX.at q c' (hE.mono s') s')
theorem s_if {t u : List Stmt} {k : Bool} (h : TD F ρ M c k) (h1 : k = true → SX F ρ M t D) (h2 : k = false → SX F ρ M u D) : S1 F ρ M (.If c t u pos) D := s_ifW (h.tw (by
  cases k with
  | true => exact h1 rfl
  | false => exact h2 rfl))
/-- while: W by a measure -/
theorem s_while {body : List Stmt} (W : Nat → Rho → OH → Prop) (m0 : Nat) (h0 : W m0 ρ M)
    (hs : ∀ m ρ M, W m ρ M → TW F ρ M c fun k M' => if k = true then SX F ρ M' body { D with nx := fun ρ2 M2 => ∃ m', m' < m ∧ W m' ρ2 M2, ct := fun ρ2 M2 => ∃ m', m' < m ∧ W m' ρ2 M2, bk := D.nx } else D.nx ρ M') : S1 F ρ M (.While c body [] pos) D := .mk fun H 𝓗 σ c hE => by
  refine uS.by (fun j => ps_while (F.po j) (pt_u j) (pss_u j)) ⟨fun m => QN F H (W m), ⟨m0, ρ, M, H, c, Same.refl H, hE, h0⟩, fun m σ1 𝓗1 ⟨ρ1, M1, H1, c1, s1, hE1, w1⟩ => ?_⟩
  refine ((hs m ρ1 M1 w1).run H1 𝓗1 σ1 c1 hE1).mono fun k 𝓗' ⟨H', M', c', s', q⟩ => ?_
  cases k with
  | true => exact ⟨_, fun σ2 𝓗2 ⟨ρ2, M2, H2, c2, s2, hE2, m', lt, w2⟩ => ⟨m', lt, ρ2, M2, H2, c2, s2, hE2, w2⟩, SX.at q c' (hE1.mono s') (s1.trans s')⟩
  | false => exact ⟨ρ1, M', H', c', s1.trans s', hE1.mono s', q⟩

/-! ### lists and tuples -/
inductive LsOf (M : OH) : Sl → List Sl → Prop
  | dat (ds : List Dt) : LsOf M (.dat (.lst ds)) (ds.map .dat)
  | scr (ds : List Dt) : LsOf M (.dat (.scr ds)) (ds.map .dat)
  | raw {p : Addr} {xs : List Sl} : M p = some xs → LsOf M (.raw (.ref p)) xs
inductive SqOf (M : OH) : Sl → List Sl → Prop
  | l {r : Sl} {xs : List Sl} : LsOf M r xs → SqOf M r xs
  | t (ds : List Dt) : SqOf M (.dat (.tup ds)) (ds.map .dat)
theorem LsOf.seq {s : Sl} {xs : List Sl} {H 𝓗 : Hp} {v : V} (h : LsOf M s xs) (c : St3 F M H 𝓗) (q : SlOk K H v s) : ∃ p vs, v = .ref p ∧ SqL K 𝓗 p vs ∧ SlsOk K H vs xs := by
  cases h with
  | dat ds =>
    have q' : DA K H (.lst ds) v := q
    unfold DA at q'
    obtain ⟨p, vs, e1, e2, e3⟩ := q'
    exact ⟨p, vs, e1, SqL.of (c.u _ _ e2), SlsOk.das.mpr e3⟩
  | scr ds =>
    have q' : DA K H (.scr ds) v := q
    unfold DA at q'
    obtain ⟨p, vs, e1, e2, e3⟩ := q'
    exact ⟨p, vs, e1, c.u.seq e2, SlsOk.das.mpr e3⟩
  | raw e =>
    obtain ⟨_, _, vs, e2, e3⟩ := c.o _ _ e
    exact ⟨_, vs, q, SqL.of e2, e3⟩
theorem tup_seq {ds : List Dt} {H 𝓗 : Hp} {v : V} (c : St3 F M H 𝓗) (q : SlOk K H v (.dat (.tup ds))) : ∃ p vs, v = .ref p ∧ SqT K 𝓗 p vs ∧ SlsOk K H vs (ds.map .dat) := by
  have q' : DA K H (.tup ds) v := q
  unfold DA at q'
  obtain ⟨p, vs, e1, e2, e3⟩ := q'
  refine ⟨p, vs, e1, ?_, SlsOk.das.mpr e3⟩
  rcases e2 with (e2 | ⟨o, e2⟩) | e2
  · exact .inl (.inl (c.u _ _ e2))
  · exact .inl (.inr ⟨o, c.u _ _ e2⟩)
  · exact .inr e2
theorem SqOf.seq {s : Sl} {xs : List Sl} {H 𝓗 : Hp} {v : V} (h : SqOf M s xs) (c : St3 F M H 𝓗) (q : SlOk K H v s) : ∃ p vs, v = .ref p ∧ (SqL K 𝓗 p vs ∨ SqT K 𝓗 p vs) ∧ SlsOk K H vs xs := by
  cases h with
  | l h => obtain ⟨p, vs, a, b, d⟩ := h.seq c q; exact ⟨p, vs, a, .inl b, d⟩
  | t ds => obtain ⟨p, vs, a, b, d⟩ := tup_seq c q; exact ⟨p, vs, a, .inr b, d⟩
/-- a new owned list -/
def EL (F : Fm P w K mg base N sc) (ρ : Rho) (M : OH) (e : Expr) (xs : List Sl) : Prop := EW F ρ M e fun r M' => ∃ p, M p = none ∧ r = .raw (.ref p) ∧ M' = oset M p xs
theorem EL.ew {xs : List Sl} (h : EL F ρ M e xs) (k : ∀ p, M p = none → Q (.raw (.ref p)) (oset M p xs)) : EW F ρ M e Q := EW.mono h fun r M' ⟨p, e1, e2, e3⟩ => by subst e2 e3; exact k p e1
/-- frozen at once -/
theorem EW.freeze (h : EW F ρ M e fun r M' => ∃ p ds, r = .raw (.ref p) ∧ M' p = some (ds.map .dat) ∧ Q (.dat (.lst ds)) (odel M' p)) : EW F ρ M e Q := .mk fun H 𝓗 σ c hE =>
  (h.run H 𝓗 σ c hE).mono fun v 𝓗' ⟨H', M', r, c', s', q, p, ds, e1, e2, e3⟩ => by
    subst e1
    obtain ⟨H2, c2, s2, d2⟩ := c'.frz e2
    have q' : v = .ref p := q
    subst q'
    exact ⟨H2, _, .dat (.lst ds), c2, s'.trans s2, d2, e3⟩
theorem EL.ed {ds : List Dt} (h : EL F ρ M e (ds.map .dat)) : ED F ρ M e (.dat (.lst ds)) := EW.freeze (h.ew fun p hp => ⟨p, ds, rfl, oset_same, rfl, odel_oset hp⟩)
theorem EL.to {xs ys : List Sl} (h : EL F ρ M e xs) (q : xs = ys) : EL F ρ M e ys := by rw [← q]; exact h

theorem ad_nil : AD F ρ M [] [] := .mk fun H 𝓗 σ c hE => uA.by (fun _ => pa_nil) ⟨H, M, [], c, Same.refl H, .nil, rfl, rfl⟩
theorem aw_nil {Q : List Sl → OH → Prop} (h : Q [] M) : AW F ρ M [] Q := .mk fun H 𝓗 σ c hE => uA.by (fun _ => pa_nil) ⟨H, M, [], c, Same.refl H, .nil, h⟩
theorem aw_cons {es : List Expr} {Q : List Sl → OH → Prop} (h : EW F ρ M e fun r M1 => AW F ρ M1 es fun rs M2 => Q (r :: rs) M2) (hs : NS F e es := by intro _; rfl) : AW F ρ M (e :: es) Q := .mk fun H 𝓗 σ c hE => by
  refine uA.by (fun j => pa_cons (pe_u j) (pa_u j) (hs j)) ((h.run H 𝓗 σ c hE).mono fun v 𝓗1 ⟨H1, M1, r, c1, s1, q1, k⟩ => ?_)
  refine (k.run H1 𝓗1 σ c1 (hE.mono s1)).mono fun vs 𝓗2 ⟨H2, M2, rs, c2, s2, q2, k2⟩ => ?_
  exact ⟨H2, M2, r :: rs, c2, s1.trans s2, .cons (q1.mono s2) q2, k2⟩
theorem ad_cons {es : List Expr} {rs : List Sl} (h : ED F ρ M e r) (h2 : AD F ρ M es rs) (hs : NS F e es := by intro _; rfl) : AD F ρ M (e :: es) (r :: rs) :=
  aw_cons (h.ew (h2.aw ⟨rfl, rfl⟩)) hs
theorem sz5 {n : Nat} (h : n ≤ 100000) : n ≤ sizeLine := Nat.le_trans h (by decide)
theorem sz5l {n : Nat} (h : n ≤ 100000) : n < sizeLine := Nat.lt_of_le_of_lt h (by decide)
/-- [a, b, ..] -/
theorem el_lst {es : List Expr} {rs : List Sl} (h : AD F ρ M es rs) (hz : rs.length ≤ 100000) : EL F ρ M (.List es pos) rs := .mk fun H 𝓗 σ c hE =>
  uE.by (fun j => pe_lst (pa_u j)) ((h.run H 𝓗 σ c hE).mono fun vs 𝓗' ⟨H', M', rs', c', s', q, n1, n2⟩ => by
    subst n1 n2
    refine ⟨sz5 (by rw [q.length]; exact hz), fun p hp => ?_⟩
    exact ⟨H', _, .raw (.ref p), c'.newL hp q, s', rfl, p, (c'.none_of hp).2.2, rfl, rfl⟩)
theorem ed_lst {es : List Expr} {ds : List Dt} (h : AD F ρ M es (ds.map .dat)) (hz : ds.length ≤ 100000) : ED F ρ M (.List es pos) (.dat (.lst ds)) := (el_lst h (by rw [List.length_map]; exact hz)).ed
theorem ed_tup {es : List Expr} {ds : List Dt} {x1} (h : AD F ρ M es (ds.map .dat)) (hz : ds.length ≤ 100000) : ED F ρ M (.Tuple es x1 pos) (.dat (.tup ds)) := .mk fun H 𝓗 σ c hE =>
  uE.by (fun j => pe_tup (pa_u j)) ((h.run H 𝓗 σ c hE).mono fun vs 𝓗' ⟨H', M', rs', c', s', q, n1, n2⟩ => by
    subst n1 n2
    have hd := SlsOk.das.mp q
    refine ⟨sz5 (by rw [hd.len]; exact hz), fun p hp => ?_⟩
    obtain ⟨c2, s2⟩ := c'.newF (o := .tup vs) hp
    refine ⟨_, _, _, c2, s'.trans s2, ?_, rfl, rfl⟩
    show DA K _ (.tup ds) _
    unfold DA
    exact ⟨p, vs, rfl, SqT.of upd_same, hd.mono s2⟩)
/-- xs[i] -/
theorem slget {H : Hp} {vs : List V} {xs : List Sl} {k : Nat} (h : SlsOk K H vs xs) (e : xs[k]? = some r) : ∃ v, vs[k]? = some v ∧ SlOk K H v r := paired_get h e
theorem fIxL (i : F.ι) : IxR (F.X i) (rIxL K) := by have h := ix_list (X := F.X i); rw [F.eK i] at h; exact h
theorem fIxT (i : F.ι) : IxR (F.X i) (rIxT K) := by have h := ix_tup (X := F.X i); rw [F.eK i] at h; exact h
theorem ed_ixL {s : Sl} {xs : List Sl} {k : Nat} {i : Int} (ha : ED F ρ M a s) (hb : ED F ρ M b (.dat (.int i))) (hl : LsOf M s xs) (hi : i = (k : Int)) (hk : xs[k]? = some r) (hp : PlainIx b := by exact fun _ _ => rfl) : ED F ρ M (.Subscript a b pos) r := by
  subst hi
  refine ed_op2 (fun i => pe_ix (fIxL i) (pe_u _) (pe_u _) hp) ha hb fun H 𝓗 u v Q' c q1 q2 kk => ?_
  obtain ⟨p, vs, rfl, e2, e3⟩ := hl.seq c q1
  obtain ⟨z, e4, e5⟩ := slget e3 hk
  have q2' : v = .int (k : Int) := q2
  exact ⟨p, vs, k, z, rfl, q2', e2, atI_nat e4, here c kk e5⟩
theorem ed_ixT {ds : List Dt} {d : Dt} {k : Nat} {i : Int} (ha : ED F ρ M a (.dat (.tup ds))) (hb : ED F ρ M b (.dat (.int i))) (hi : i = (k : Int)) (hk : ds[k]? = some d) (hp : PlainIx b := by exact fun _ _ => rfl) : ED F ρ M (.Subscript a b pos) (.dat d) := by
  subst hi
  refine ed_op2 (fun i => pe_ix (fIxT i) (pe_u _) (pe_u _) hp) ha hb fun H 𝓗 u v Q' c q1 q2 kk => ?_
  obtain ⟨p, vs, rfl, e2, e3⟩ := tup_seq c q1
  obtain ⟨z, e4, e5⟩ := slget (r := .dat d) e3 (by rw [List.getElem?_map, hk]; rfl)
  have q2' : v = .int (k : Int) := q2
  exact ⟨p, vs, k, z, rfl, q2', e2, atI_nat e4, here c kk e5⟩
theorem ed_ixD {ds : List Dt} {d : Dt} {k : Nat} {i : Int} (ha : ED F ρ M a (.dat (.lst ds))) (hb : ED F ρ M b (.dat (.int i))) (hi : i = (k : Int)) (hk : ds[k]? = some d) (hp : PlainIx b := by exact fun _ _ => rfl) : ED F ρ M (.Subscript a b pos) (.dat d) :=
  ed_ixL ha hb (.dat ds) hi (by rw [List.getElem?_map, hk]; rfl) hp
/-! ### calls of built-ins -/
def CallD (F : Fm P w K mg base N sc) (t : List V → Hp → VK → Prop) (rs : List Sl) (M : OH) (Q : Sl → OH → Prop) : Prop := ∀ H 𝓗 vs (Q' : VK), St3 F M H 𝓗 → SlsOk K H vs rs → (∀ v' 𝓗', QV F H Q v' 𝓗' → Q' v' 𝓗') → t vs 𝓗 Q'
theorem ew_cb {es : List Expr} {t : List V → Hp → VK → Prop} (hp : ∀ i, PE (F.X i) e (tCB t (uA F es))) (ha : AW F ρ M es fun rs M1 => CallD F t rs M1 Q) : EW F ρ M e Q := .mk fun H 𝓗 σ c hE => by
  refine uE.by hp ((ha.run H 𝓗 σ c hE).mono fun vs 𝓗1 ⟨H1, M1, rs, c1, s1, q1, ht⟩ => ?_)
  exact ht H1 𝓗1 vs _ c1 q1 fun v' 𝓗' z => z.up s1
theorem sl1 {H : Hp} {vs : List V} {s : Sl} (h : SlsOk K H vs [s]) : ∃ v, vs = [v] ∧ SlOk K H v s := by
  cases h with
  | cons a b => cases b; exact ⟨_, rfl, a⟩
theorem sl2 {H : Hp} {vs : List V} {s t : Sl} (h : SlsOk K H vs [s, t]) : ∃ v u, vs = [v, u] ∧ SlOk K H v s ∧ SlOk K H u t := by
  cases h with
  | cons a b =>
    obtain ⟨u, rfl, q⟩ := sl1 b
    exact ⟨_, _, rfl, a, q⟩
theorem fLen (i : F.ι) : CallR (F.X i) (.builtin "len") (fun xs H Q => ∃ p ys, xs = [.ref p] ∧ (SqL K H p ys ∨ SqT K H p ys) ∧ Q (.int ys.length) H) := by have h := call_len_seq (X := F.X i); rw [F.eK i] at h; exact h
theorem hmg {x : Str} {o : Option Value} (h : mg x = o) (i : F.ι) : (F.X i).mg x = o := by rw [F.eg i]; exact h
theorem ed_len {s : Sl} {xs : List Sl} {p : Pos} (ml : mg "len" = none) (ha : ED F ρ M a s) (hl : SqOf M s xs) (hg : GL F "len" := by intro _; rfl)
    (hs : NS F a [] := by intro _; rfl) (hpl : NP F pos [] := by intro _; rfl) : ED F ρ M (.Call (.Name "len" p) [a] [] pos) (.dat (.int (xs.length : Int))) := by
  refine ew_cb (fun i => pe_callB (fLen i) (hg i) (hmg ml i) PySem.boot_len (pa_u i) (he := hs i) (hpl := hpl i)) ((ad_cons ha ad_nil hs).aw fun H 𝓗 vs Q' c q k => ?_)
  obtain ⟨v, rfl, qv⟩ := sl1 q
  obtain ⟨p, ws, rfl, e2, e3⟩ := hl.seq c qv
  refine ⟨p, ws, rfl, e2, here c k ?_⟩
  show DA K H _ _
  unfold DA
  rw [e3.length]
theorem ed_max2 {p : Pos} {i j : Int} (mm : mg "max" = none) (ha : ED F ρ M a (.dat (.int i))) (hb : ED F ρ M b (.dat (.int j))) (hg : GL F "max" := by intro _; rfl)
    (hs : NS F a [b] := by intro _; rfl) (hs2 : NS F b [] := by intro _; rfl) (hpl : NP F pos [b] := by intro _; rfl) :
    ED F ρ M (.Call (.Name "max" p) [a, b] [] pos) (.dat (.int (if j > i then j else i))) := by
  refine ew_cb (fun i => pe_callB (call_max2 (F.hc i)) (hg i) (hmg mm i) (by decide +kernel) (pa_u i) (he := hs i) (hpl := hpl i)) ((ad_cons ha (ad_cons hb ad_nil hs2) hs).aw fun H 𝓗 vs Q' c q k => ?_)
  obtain ⟨v, u, rfl, q1, q2⟩ := sl2 q
  have q1' : v = .int i := q1
  have q2' : u = .int j := q2
  subst q1' q2'
  exact ⟨i, j, rfl, here c k rfl⟩
theorem ed_intB {p : Pos} {k : Bool} (mm : mg "int" = none) (ha : ED F ρ M a (.dat (.bl k))) (hg : GL F "int" := by intro _; rfl)
    (hs : NS F a [] := by intro _; rfl) (hpl : NP F pos [] := by intro _; rfl) : ED F ρ M (.Call (.Name "int" p) [a] [] pos) (.dat (.int (if k then 1 else 0))) := by
  refine ew_cb (fun i => pe_callTy call_int1 (hg i) (hmg mm i) (by decide +kernel) (pa_u i) (he := hs i) (hpl := hpl i)) ((ad_cons ha ad_nil hs).aw fun H 𝓗 vs Q' c q kk => ?_)
  obtain ⟨v, rfl, qv⟩ := sl1 q
  have q' : v = .bl k := qv
  subst q'
  exact .inr ⟨k, rfl, here c kk rfl⟩
end
end DL
namespace DL
open PySem PySem.Spec PyProof.Rows L2
section
variable {P : Program} {w : World} {K : PySem.W.Frag} {mg : Str → Option Value} {base : Heap} {N : List Str} {sc : Scope} {F : Fm P w K mg base N sc}
variable {ρ : Rho} {M : OH} {e a b c : Expr} {pos : Pos} {r r1 r2 : Sl} {Q : Sl → OH → Prop} {D : DE}

/-! ### promises -/
/-- what a def promises: of the arguments and the owned lists that it is handed -/
structure Pr where
  pre : List Sl → OH → Prop
  post : List Sl → OH → Sl → OH → Prop
  err : List Sl → OH → Addr → OH → Prop := fun _ _ _ _ => False
def spM (K : PySem.W.Frag) (p : Pr) : Sp := fun vs 𝓗 Q E => ∃ H B M rs, Cxt K B H M H 𝓗 ∧ SlsOk K H vs rs ∧ p.pre rs M ∧ (∀ v r H' 𝓗' M', Cxt K B H M' H' 𝓗' → SlOk K H' v r → p.post rs M r M' → Q v 𝓗') ∧
  (∀ C H' 𝓗' M', Cxt K B H M' H' 𝓗' → p.err rs M C M' → E (.ref C) none 𝓗')
/-- the owned lists behind a call that was handed Mp of them -/
def omerge (M Mp M' : OH) : OH := fun a => match M' a with | some xs => some xs | none => if (Mp a).isSome = true then none else M a
theorem omerge0 {M M' : OH} {p : Addr} {xs : List Sl} (h : omerge M OH0 M' p = some xs) : M' p = some xs ∨ M p = some xs := by
  unfold omerge at h
  cases e : M' p with
  | some ys => rw [e] at h; exact .inl h
  | none => rw [e] at h; exact .inr h
theorem call_in {H 𝓗 : Hp} {B0 H0 : Hp} {Mp : OH} (c : Cxt K B0 H0 M H 𝓗) (hM : ∀ p xs, Mp p = some xs → M p = some xs) : Cxt K (fun a => if (Mp a).isSome = true then none else 𝓗 a) H Mp H 𝓗 := by
  refine ⟨Same.refl H, c.u, fun a o q => ?_, fun a q => .inl q, fun p xs q => ?_⟩
  · by_cases z : (Mp a).isSome = true
    · rw [if_pos z] at q; cases q
    · rw [if_neg z] at q; exact q
  · obtain ⟨h1, h2, h3⟩ := c.o p xs (hM p xs q)
    exact ⟨h1, by rw [q]; rfl, h3⟩
theorem call_out {H 𝓗 H' 𝓗' : Hp} {B0 H0 : Hp} {Mp M' : OH} (c : Cxt K B0 H0 M H 𝓗) (hM : ∀ p xs, Mp p = some xs → M p = some xs) (c' : Cxt K (fun a => if (Mp a).isSome = true then none else 𝓗 a) H M' H' 𝓗') : Cxt K B0 H0 (omerge M Mp M') H' 𝓗' := by
  have nb : ∀ a, (Mp a).isSome = true → B0 a = none := fun a z => by
    obtain ⟨xs, q⟩ := Option.isSome_iff_exists.mp z
    exact (c.o a xs (hM a xs q)).2.1
  have nbB : ∀ a, (if (Mp a).isSome = true then (none : Option HO) else 𝓗 a) = none → B0 a = none := fun a z => by
    by_cases y : (Mp a).isSome = true
    · exact nb a y
    · rw [if_neg y] at z; exact c.b.free z
  refine ⟨c.f.trans c'.f, c'.u, fun a o q => ?_, fun a q => ?_, fun p xs q => ?_⟩
  · refine c'.b a o ?_
    by_cases y : (Mp a).isSome = true
    · rw [nb a y] at q; cases q
    · rw [if_neg y]; exact c.b a o q
  · rcases c'.n a q with z | z
    · exact c.n a z
    · exact .inr (nbB a z)
  · unfold omerge at q
    cases e : M' p with
    | some ys =>
      rw [e] at q
      cases q
      obtain ⟨h1, h2, h3⟩ := c'.o p _ e
      exact ⟨h1, nbB p h2, h3⟩
    | none =>
      rw [e] at q
      have q : (if (Mp p).isSome = true then none else M p) = some xs := q
      by_cases y : (Mp p).isSome = true
      · rw [if_pos y] at q; cases q
      · rw [if_neg y] at q
        obtain ⟨h1, h2, vs, h3, h4⟩ := c.o p xs q
        have hp : H' p = none := by
          cases z : H' p with
          | none => rfl
          | some o =>
            rcases c'.n p (by rw [z]; simp) with z2 | z2
            · exact absurd h1 z2
            · rw [if_neg y, h3] at z2; cases z2
        exact ⟨hp, h2, vs, c'.b p _ (by rw [if_neg y]; exact h3), h4.mono c'.f⟩
/-- a def of the text, where it stands and what it promises -/
structure Def (P : Program) (w : World) (K : PySem.W.Frag) (mg : Str → Option Value) (base : Heap) (CX : CXT) (k : Nat) (x : Str) (ps : List Str) (p : Pr) : Prop where
  ex : ∃ f fd, FnOk P w K mg base CX k f fd ps (spM K p) ∧ mg x = some (.ref f) ∧ PySem.W.keepIn K (.ref f) = true ∧ Binds K fd ps []
theorem passes0 {X : Cx} {σ : L2.St} {E : XK} : PassesAt CX0 X σ E := fun _ _ _ _ _ _ h => h.elim
theorem passesX {i : F.ι} {σ : L2.St} : PassesAt (L2.CX (F.X i).prog (F.X i).w) (F.X i) σ (WE (mkW K F.B0 F.H0 F.ex) σ) := passAt (F.tk i) σ
theorem ew_callG {CX : CXT} {k : Nat} {x : Str} {ps : List Str} {p : Pr} {a : Expr} {es : List Expr} {p2 : Pos} (hx : ∀ i σ, PassesAt CX (F.X i) σ (WE (mkW K F.B0 F.H0 F.ex) σ)) (G : Def P w K mg base CX k x ps p)
    (h : AW F ρ M (a :: es) fun rs M1 => ∃ Mp : OH, (∀ q xs, Mp q = some xs → M1 q = some xs) ∧ p.pre rs Mp ∧ (∀ r M', p.post rs Mp r M' → (∀ q xs, M' q = some xs → (Mp q).isSome = true ∨ M1 q = none) → Q r (omerge M1 Mp M')) ∧ (∀ C M', p.err rs Mp C M' → F.ex C ρ (omerge M1 Mp M')))
    (hg : GL F x := by intro _; rfl) (hs : NS F a es := by intro _; rfl) (hpl : NP F pos es := by intro _; rfl) (hdb : (x == ("__debug__" : Str)) = false := by decide) (hk : k ≤ F.lv := by exact Nat.le_of_ble_eq_true rfl) : EW F ρ M (.Call (.Name x p2) (a :: es) [] pos) Q := .mk fun H 𝓗 σ c hE => by
  obtain ⟨f, fd, G, gm, gk, gb⟩ := G.ex
  have G' : ∀ i, FnOk (F.X i).prog (F.X i).w (F.X i).K (F.X i).mg (F.X i).base CX k f fd ps (spM K p) := fun i => by rw [F.eP i, F.ew i, F.eK i, F.eg i, F.eb i]; exact G
  refine uE.by (fun i => pe_callS (G' i) ((F.hr i).mono hk) (hg i) (hmg gm i) (by rw [F.eK i]; exact gk) (by rw [F.eK i]; exact gb) (hx i) (pa_u i) hdb (hs i) (hpl i)) ?_
  refine (h.run H 𝓗 σ c hE).mono fun vs 𝓗1 ⟨H1, M1, rs, c1, s1, q1, Mp, hM, hpre, hpost, herr⟩ => ?_
  refine ⟨H1, _, Mp, rs, call_in c1 hM, q1, hpre, fun v r H' 𝓗' M' c' ok po => ?_, fun C H' 𝓗' M' c' er => ?_⟩
  · refine ⟨H', _, r, call_out c1 hM c', s1.trans c'.f, ok, hpost r M' po fun q xs e => ?_⟩
    have z := (c'.o q xs e).2.1
    by_cases y : (Mp q).isSome = true
    · exact .inl y
    · rw [if_neg y] at z
      exact .inr (c1.none_of z).2.2
  · exact ⟨C, ρ, _, H', rfl, rfl, call_out c1 hM c', hE.mono (s1.trans c'.f), herr C M' er⟩
/-- a call of a def that raises nothing -/
theorem ew_call0 {k : Nat} {x : Str} {ps : List Str} {p : Pr} {a : Expr} {es : List Expr} {p2 : Pos} (G : Def P w K mg base CX0 k x ps p) (he : ∀ rs M C M', ¬ p.err rs M C M')
    (h : AW F ρ M (a :: es) fun rs M1 => ∃ Mp : OH, (∀ q xs, Mp q = some xs → M1 q = some xs) ∧ p.pre rs Mp ∧ (∀ r M', p.post rs Mp r M' → (∀ q xs, M' q = some xs → (Mp q).isSome = true ∨ M1 q = none) → Q r (omerge M1 Mp M')))
    (hg : GL F x := by intro _; rfl) (hs : NS F a es := by intro _; rfl) (hpl : NP F pos es := by intro _; rfl) (hdb : (x == ("__debug__" : Str)) = false := by decide) (hk : k ≤ F.lv := by exact Nat.le_of_ble_eq_true rfl) : EW F ρ M (.Call (.Name x p2) (a :: es) [] pos) Q :=
  ew_callG (fun _ _ => passes0) G (h.mono fun rs M1 ⟨Mp, h1, h2, h3⟩ => ⟨Mp, h1, h2, h3, fun C M' z => (he _ _ _ _ z).elim⟩) hg hs hpl hdb hk
theorem ew_callX {k : Nat} {x : Str} {ps : List Str} {p : Pr} {a : Expr} {es : List Expr} {p2 : Pos} (G : Def P w K mg base (L2.CX P w) k x ps p)
    (h : AW F ρ M (a :: es) fun rs M1 => ∃ Mp : OH, (∀ q xs, Mp q = some xs → M1 q = some xs) ∧ p.pre rs Mp ∧ (∀ r M', p.post rs Mp r M' → (∀ q xs, M' q = some xs → (Mp q).isSome = true ∨ M1 q = none) → Q r (omerge M1 Mp M')) ∧ (∀ C M', p.err rs Mp C M' → F.ex C ρ (omerge M1 Mp M')))
    (hg : GL F x := by intro _; rfl) (hs : NS F a es := by intro _; rfl) (hpl : NP F pos es := by intro _; rfl) (hdb : (x == ("__debug__" : Str)) = false := by decide) (hk : k ≤ F.lv := by exact Nat.le_of_ble_eq_true rfl) : EW F ρ M (.Call (.Name x p2) (a :: es) [] pos) Q :=
  ew_callG (fun i σ => by have z := passesX (F := F) (i := i) (σ := σ); rw [F.eP i, F.ew i] at z; exact z) G h hg hs hpl hdb hk
/-- plain data in, plain data out, nothing owned is touched -/
def prD (pre : List Dt → Prop) (post : List Dt → Dt → Prop) : Pr := { pre := fun rs M => M = OH0 ∧ ∃ ds, rs = ds.map .dat ∧ pre ds, post := fun rs _ r M' => M' = OH0 ∧ ∃ ds d, rs = ds.map .dat ∧ r = .dat d ∧ post ds d }
theorem map_dat_inj : ∀ {ds es : List Dt}, ds.map Sl.dat = es.map Sl.dat → ds = es
  | [], [], _ => rfl
  | [], _ :: _, h => by cases h
  | _ :: _, [], h => by cases h
  | d :: ds, e :: es, h => by
    rw [List.map_cons, List.map_cons] at h
    injection h with h1 h2
    injection h1 with h1
    rw [h1, map_dat_inj h2]
theorem omerge00 {M : OH} : omerge M OH0 OH0 = M := by funext a; rfl
theorem prD_out {pre : List Dt → Prop} {post : List Dt → Dt → Prop} {ds : List Dt} {M' : OH} (h : (prD pre post).post (ds.map .dat) OH0 r M') (q : ∀ d, post ds d → Q (.dat d) M) : Q r (omerge M OH0 M') := by
  obtain ⟨e1, ds', d, e2, e3, e4⟩ := h
  rw [e1, e3, omerge00]
  exact q d (map_dat_inj e2 ▸ e4)
theorem ew_callD {k : Nat} {x : Str} {ps : List Str} {pre : List Dt → Prop} {post : List Dt → Dt → Prop} {a : Expr} {es : List Expr} {p2 : Pos} {ds : List Dt} (G : Def P w K mg base CX0 k x ps (prD pre post))
    (ha : AD F ρ M (a :: es) (ds.map .dat)) (hp : pre ds) (q : ∀ d, post ds d → Q (.dat d) M) (hg : GL F x := by intro _; rfl) (hs : NS F a es := by intro _; rfl) (hpl : NP F pos es := by intro _; rfl) (hdb : (x == ("__debug__" : Str)) = false := by decide) (hk : k ≤ F.lv := by exact Nat.le_of_ble_eq_true rfl) :
    EW F ρ M (.Call (.Name x p2) (a :: es) [] pos) Q :=
  ew_call0 G (fun _ _ _ _ z => z) (ha.aw ⟨OH0, fun _ _ z => (by cases z), ⟨rfl, ds, rfl, hp⟩, fun r M' hh _ => prD_out hh q⟩) hg hs hpl hdb hk
theorem ed_F {pre : List Dt → Prop} {post : List Dt → Dt → Prop} {a : Expr} {es : List Expr} {k : Nat} {x : Str} {ps : List Str} {p2 pos : Pos} {ds : List Dt} (d0 : Dt) (G : Def P w K mg base CX0 k x ps (prD pre post))
    (ha : AD F ρ M (a :: es) (ds.map .dat)) (hp : pre ds) (q : ∀ d, post ds d → d = d0) (hg : GL F x := by intro _; rfl) (hs : NS F a es := by intro _; rfl) (hpl : NP F pos es := by intro _; rfl) (hdb : (x == ("__debug__" : Str)) = false := by decide) (hk : k ≤ F.lv := by exact Nat.le_of_ble_eq_true rfl) : ED F ρ M (.Call (.Name x p2) (a :: es) [] pos) (.dat d0) :=
  ew_callD G ha hp (fun d h => by rw [q d h]; exact ⟨rfl, rfl⟩) hg hs hpl hdb hk

/-- plain data in, a new list out -/
def prL (pre : List Dt → Prop) (post : List Dt → List Sl → Prop) : Pr := { pre := fun rs M => M = OH0 ∧ ∃ ds, rs = ds.map .dat ∧ pre ds, post := fun rs _ r M' => ∃ ds p xs, rs = ds.map .dat ∧ r = .raw (.ref p) ∧ M' = oset OH0 p xs ∧ post ds xs }
theorem omerge_new {M : OH} {p : Addr} {xs : List Sl} : omerge M OH0 (oset OH0 p xs) = oset M p xs := by
  funext a
  unfold omerge oset
  by_cases h : a = p
  · simp [h]
  · simp [h, OH0]
theorem ew_callL {k : Nat} {x : Str} {ps : List Str} {pre : List Dt → Prop} {post : List Dt → List Sl → Prop} {a : Expr} {es : List Expr} {p2 : Pos} {ds : List Dt} (G : Def P w K mg base CX0 k x ps (prL pre post))
    (ha : AD F ρ M (a :: es) (ds.map .dat)) (hp : pre ds) (q : ∀ p xs, post ds xs → M p = none → Q (.raw (.ref p)) (oset M p xs)) (hg : GL F x := by intro _; rfl) (hs : NS F a es := by intro _; rfl) (hpl : NP F pos es := by intro _; rfl) (hdb : (x == ("__debug__" : Str)) = false := by decide) (hk : k ≤ F.lv := by exact Nat.le_of_ble_eq_true rfl) :
    EW F ρ M (.Call (.Name x p2) (a :: es) [] pos) Q :=
  ew_call0 G (fun _ _ _ _ z => z) (ha.aw ⟨OH0, fun _ _ z => (by cases z), ⟨rfl, ds, rfl, hp⟩, fun r M' hh hn => by
    obtain ⟨ds', p, xs, e1, e2, e3, e4⟩ := hh
    subst e2 e3
    rw [omerge_new]
    refine q p xs (map_dat_inj e1 ▸ e4) ?_
    rcases hn p xs oset_same with z | z
    · cases z
    · exact z⟩) hg hs hpl hdb hk

/-! ### a def's body -/
def startR (N : List Str) (rs : List Sl) : Rho := rs ++ List.replicate (N.length - rs.length) .un
theorem startR_ok {H : Hp} {N : List Str} {vs : List V} {rs : List Sl} (h : SlsOk K H vs rs) : EnvOk K H (L2.start N vs) (startR N rs) := by
  show EnvOk K H (vs.map some ++ List.replicate (N.length - vs.length) none) (rs ++ List.replicate (N.length - rs.length) .un)
  rw [h.length]
  refine paired_append ?_ ?_
  · induction h with
    | nil => exact .nil
    | cons a b ih => exact .cons (PlOk.of a) ih
  · generalize N.length - rs.length = n
    induction n with
    | zero => exact .nil
    | succ n ih => exact .cons trivial ih
/-- the context of a body that raises nothing -/
def fm0 (P : Program) (w : World) (K : PySem.W.Frag) (mg : Str → Option Value) (base : Heap) {N ps : List Str} {sc : Scope} (S : FnScope N ps sc) (qual : Str) (f : Addr) (cd : Value) (A : Around) (outer : List Env) (s : Shared) (H : Hp) (E : XK) (k : Nat)
    (hr : Room k (A.deeper (envOfC qual sc s.heap.objs.size f cd))) (B0 H0 : Hp) : Fm P w K mg base N sc where
  ι := Unit
  X := fun _ => (cxOf CX0 P w K mg base N qual sc f cd A outer s H E).nox
  eP := fun _ => rfl
  ew := fun _ => rfl
  eK := fun _ => rfl
  eg := fun _ => rfl
  eb := fun _ => rfl
  eN := fun _ => rfl
  es := fun _ => rfl
  nd := S.nd
  lv := k
  hr := fun _ => hr
  hc := fun _ => rfl
  po := fun _ => PassesOwn.never
  B0 := B0
  H0 := H0
  ex := fun _ _ _ => False
  tk := fun _ u s' x => by
    obtain ⟨_, _, _, _, _, _, _, _, _, _, _, _, _, _, _, _, z⟩ := x
    obtain ⟨_, _, _, _, _, _, _, _, z⟩ := z
    exact z.elim
theorem fn0 {x qual : Str} {st : Stmt} {f : Addr} {fd : FuncData} {N ps : List Str} {k : Nat} {p : Pr} (Fd : Fun K x qual st f fd) (S : FnScope N ps (defScope st)) (len : ∀ rs M, p.pre rs M → rs.length = ps.length)
    (body : ∀ cd A outer s H E hr B0 H0 rs M, p.pre rs M → SX (fm0 P w K mg base S qual f cd A outer s H E k hr B0 H0) (startR N rs) M (defBody st) { nx := fun _ M' => p.post rs M (.dat .non) M', rt := fun r M' => p.post rs M r M' }) :
    FnOk P w K mg base CX0 (k + 1) f fd ps (spM K p) := by
  refine Fd.ok S (fun vs H Q E h => ?_) (fun cdv A outer s 𝓗 vs Q E hr h => ?_)
  · obtain ⟨H, B, M, rs, _, q, pre, _⟩ := h
    rw [q.length]; exact len rs M pre
  · obtain ⟨H, B, M, rs, c, q, pre, ret, _⟩ := h
    refine ⟨_, pss_u (F := fm0 P w K mg base S qual f cdv A outer s 𝓗 E k hr B H) (), ?_⟩
    refine ((body cdv A outer s 𝓗 E hr B H rs M pre).run H 𝓗 (L2.start N vs) c (startR_ok q)).mono ⟨fun σ 𝓗' ⟨ρ', M', H', c', s', hE', po⟩ => ?_, fun v 𝓗' ⟨r, M', H', c', ok, po⟩ => ?_, fun σ 𝓗' ⟨ρ', M', H', c', s', hE', po⟩ => ?_, fun σ 𝓗' ⟨ρ', M', H', c', s', hE', po⟩ => ?_⟩
    · exact ret .non (.dat .non) H' 𝓗' M' c' (by show DA K H' _ _; unfold DA; rfl) po
    · exact ret v r H' 𝓗' M' c' ok po
    · exact po.elim
    · exact po.elim
theorem def0 {x qual : Str} {st : Stmt} {f : Addr} {fd : FuncData} {N ps : List Str} {k : Nat} {p : Pr} (Fd : Fun K x qual st f fd) (hm : mg x = some (.ref f)) (hb : Binds K fd ps []) (S : FnScope N ps (defScope st)) (len : ∀ rs M, p.pre rs M → rs.length = ps.length)
    (body : ∀ cd A outer s H E hr B0 H0 rs M, p.pre rs M → SX (fm0 P w K mg base S qual f cd A outer s H E k hr B0 H0) (startR N rs) M (defBody st) { nx := fun _ M' => p.post rs M (.dat .non) M', rt := fun r M' => p.post rs M r M' }) :
    Def P w K mg base CX0 (k + 1) x ps p := ⟨f, fd, fn0 Fd S len body, hm, Fd.kp, hb⟩

/-! ### for -/
/-- for x in a list of data -/
inductive DLs : Dt → List Dt → Prop
  | lst (ds : List Dt) : DLs (.lst ds) ds
  | scr (ds : List Dt) : DLs (.scr ds) ds
theorem DLs.seq {H : Hp} {d : Dt} {ds : List Dt} {v : V} (h : DLs d ds) (q : DA K H d v) : ∃ p vs, v = .ref p ∧ SqL K H p vs ∧ SlsOk K H vs (ds.map .dat) := by
  cases h with
  | lst =>
    unfold DA at q
    obtain ⟨p, vs, e1, e2, e3⟩ := q
    exact ⟨p, vs, e1, SqL.of e2, SlsOk.das.mpr e3⟩
  | scr =>
    unfold DA at q
    obtain ⟨p, vs, e1, e2, e3⟩ := q
    exact ⟨p, vs, e1, e2, SlsOk.das.mpr e3⟩
theorem fList {tg it : Expr} (j : F.ι) : PI (F.X j) tg it (iList K (uE F it)) := by have z := pi_list (X := F.X j) (tg := tg) (pe_u (e := it) j); rw [F.eK j] at z; exact z
theorem dat_get {xs : List Dt} {k : Nat} {r : Sl} (h : (xs.map Sl.dat)[k]? = some r) : ∃ d, xs[k]? = some d ∧ r = .dat d := by
  rw [List.getElem?_map] at h
  cases e : xs[k]? with
  | none => rw [e] at h; cases h
  | some d => rw [e] at h; exact ⟨d, rfl, (Option.some.inj h).symm⟩
theorem s_forL (i : Nat) {it : Expr} {body : List Stmt} {x : Str} {px : Pos} {d : Dt} {xs : List Dt} (Pv : Nat → Rho → OH → Prop) (hi : ED F ρ M it (.dat d)) (hl : DLs d xs) (h0 : Pv 0 ρ M)
    (hs : ∀ k r ρ' M', xs[k]? = some r → Pv k ρ' M' → SX F (ρ'.set i (.dat r)) M' body { D with nx := Pv (k + 1), ct := Pv (k + 1), bk := D.nx }) (hd : ∀ ρ' M', Pv xs.length ρ' M' → D.nx ρ' M')
    (hN : N[i]? = some x := by decide +kernel) (hx : ∀ j, Loc (F.X j).env.scope x := by intro _; first | exact Or.inl rfl | exact Or.inr rfl) (hf : ∀ j, (F.X j).fn x = true ∨ (F.X j).env.scope.names.lookup x = some .local := by intro _; first | exact .inl rfl | exact .inr rfl)
    (hss : ∀ j y, foldedSetIterable it (F.X j).env y = pure y := by intro _ _; rfl) : S1 F ρ M (.For (.Name x px) it body [] pos) D := .mk fun H 𝓗 σ c hE => by
  refine uS.by (fun j => ps_for (F.po j) (F.hc j) (fList j) (pg_name (by rw [F.eN j]; exact F.nd) (by rw [F.eN j]; exact hN) (hx j) (hf j)) (pss_u j) (hss j)) ((hi.run H 𝓗 σ c hE).mono fun v 𝓗1 ⟨H1, M1, r1, c1, s1, q1, e1, e2⟩ => ?_)
  subst e1 e2
  obtain ⟨p, vs, rfl, q2, q3⟩ := hl.seq q1
  have len : vs.length = xs.length := by rw [q3.length, List.length_map]
  refine ⟨p, rfl, ⟨vs, c1.u.seq q2⟩, for_list (K := K) (a := p) (xs := vs) (fun k => QN F H1 (fun ρ' M' => Pv k ρ' M')) ⟨ρ, _, H1, c1, Same.refl _, hE.mono s1, h0⟩ ?_ ?_ ?_⟩
  · rintro k σ' 𝓗' _ ⟨ρ', M', H', c', s', hE', pv⟩
    exact c'.u.seq (s'.seq q2)
  · rintro k v σ' 𝓗' hv ⟨ρ', M', H', c', s', hE', pv⟩
    obtain ⟨r', e5, e6⟩ := paired_get' q3 hv
    obtain ⟨d', e7, rfl⟩ := dat_get e5
    exact ((hs k d' ρ' M' e7 pv).at c' (hE'.set i (e6.mono s')) s').mono ⟨fun _ _ q => q, fun _ _ q => q, QN.imp s1 fun _ _ q => q, fun _ _ q => q⟩
  · rintro σ' 𝓗' ⟨ρ', M', H', c', s', hE', pv⟩
    exact ⟨ρ', M', H', c', s1.trans s', hE', hd ρ' M' (by rw [← len]; exact pv)⟩
theorem s_forR (i : Nat) {a : Expr} {body : List Stmt} {x : Str} {px p2 p3 : Pos} {n : Int} (m : Nat) (Pv : Nat → Rho → OH → Prop) (mr : mg "range" = none) (ha : ED F ρ M a (.dat (.int n))) (hn : n = (m : Int)) (hz : m ≤ 100000) (h0 : Pv 0 ρ M)
    (hs : ∀ (k : Nat) ρ' M', k < m → Pv k ρ' M' → SX F (ρ'.set i (.dat (.int (k : Int)))) M' body { D with nx := Pv (k + 1), ct := Pv (k + 1), bk := D.nx }) (hd : ∀ ρ' M', Pv m ρ' M' → D.nx ρ' M')
    (hg : GL F "range" := by intro _; rfl) (hns : NS F a [] := by intro _; rfl)
    (hN : N[i]? = some x := by decide +kernel) (hx : ∀ j, Loc (F.X j).env.scope x := by intro _; first | exact Or.inl rfl | exact Or.inr rfl) (hf : ∀ j, (F.X j).fn x = true ∨ (F.X j).env.scope.names.lookup x = some .local := by intro _; first | exact .inl rfl | exact .inr rfl)
    (hss : ∀ j y, foldedSetIterable (.Call (.Name "range" p2) [a] [] p3) (F.X j).env y = pure y := by intro _ _; rfl) : S1 F ρ M (.For (.Name x px) (.Call (.Name "range" p2) [a] [] p3) body [] pos) D := .mk fun H 𝓗 σ c hE => by
  subst hn
  refine uS.by (fun j => ps_for (F.po j) (F.hc j) (pi_range1 (hg j) (hmg mr j) (pa_u j) (hns j)) (pg_name (by rw [F.eN j]; exact F.nd) (by rw [F.eN j]; exact hN) (hx j) (hf j)) (pss_u j) (hss j)) (((ad_cons ha ad_nil hns).run H 𝓗 σ c hE).mono fun vs 𝓗1 ⟨H1, M1, r1, c1, s1, q1, e1, e2⟩ => ?_)
  subst e1 e2
  obtain ⟨v, rfl, qv⟩ := sl1 q1
  have qv' : v = .int (m : Int) := qv
  subst qv'
  refine ⟨m, rfl, by omega, by omega, ?_⟩
  refine for_range (lo := 0) (n := ((m : Int)).toNat) (fun k => QN F H1 (fun ρ' M' => Pv k ρ' M')) ⟨ρ, _, H1, c1, Same.refl _, hE.mono s1, h0⟩ ?_ ?_
  · rintro k σ' 𝓗' hk ⟨ρ', M', H', c', s', hE', pv⟩
    have hk' : k < m := by omega
    have e0 : (0 : Int) + (k : Int) = (k : Int) := Int.zero_add _
    show uSs F body _ (σ'.set i (some (.int ((0 : Int) + (k : Int))))) 𝓗'
    rw [e0]
    exact ((hs k ρ' M' hk' pv).at c' (hE'.set i (s := .dat (.int (k : Int))) (by show DA K H' _ _; unfold DA; rfl)) s').mono ⟨fun _ _ q => q, fun _ _ q => q, QN.imp s1 fun _ _ q => q, fun _ _ q => q⟩
  · rintro σ' 𝓗' ⟨ρ', M', H', c', s', hE', pv⟩
    exact ⟨ρ', M', H', c', s1.trans s', hE', hd ρ' M' pv⟩
end
end DL
namespace DL
open PySem PySem.Spec PyProof.Rows L2
section
variable {P : Program} {w : World} {K : PySem.W.Frag} {mg : Str → Option Value} {base : Heap}
/-- a def of the top, where it stands -/
def At (K : PySem.W.Frag) (mg : Str → Option Value) (x : Str) (st : Stmt) (ps : List Str) : Prop := ∃ f fd, Fun K x x st f fd ∧ mg x = some (.ref f) ∧ Binds K fd ps []
theorem at_mk {h : Heap} {x : Str} {st : Stmt} {ps : List Str} {f : Addr} {od an : Option Addr} {sl : Array (Option Value)} {oc kV dc pm cd ct : Value} (X : K.In h) (G : h.Ns mainGlobals mg)
    (a : PySem.W.nsIn K mainGlobals x = some (some (.ref f))) (l : K.lookup f = some ⟨oc, od, .func (PySem.W.fnOf x x (defArgs st) (defBody st) (defScope st) .none kV dc pm an cd ct), sl⟩) (c : PySem.W.codeIn K cd x = true) (k : PySem.W.keepIn K (.ref f) = true)
    (hb : ∀ (kV doc pm : Value) (an : Option Addr) (cdv ct : Value) (us : List Value), us.length = ps.length → bindArgs (PySem.W.fnOf x x (defArgs st) (defBody st) (defScope st) .none kV doc pm an cdv ct) ⟨us, []⟩ = pure (ps.zip us)) : At K mg x st ps := by
  have F := fun_mk (x := x) (qual := x) (st := st) l c k
  exact ⟨f, _, F, PySem.W.mg_of X G a, F.binds hb⟩
theorem defA {x : Str} {st : Stmt} {N ps : List Str} (k : Nat) {p : Pr} (a : At K mg x st ps) (S : FnScope N ps (defScope st)) (len : ∀ rs M, p.pre rs M → rs.length = ps.length)
    (body : ∀ f cd A outer s H E hr B0 H0 rs M, p.pre rs M → SX (fm0 P w K mg base S x f cd A outer s H E k hr B0 H0) (startR N rs) M (defBody st) { nx := fun _ M' => p.post rs M (.dat .non) M', rt := fun r M' => p.post rs M r M' }) :
    Def P w K mg base CX0 (k + 1) x ps p := by
  obtain ⟨f, fd, F, hm, hb⟩ := a
  exact def0 F hm hb S len fun cd A outer s H E hr B0 H0 rs M => body f cd A outer s H E hr B0 H0 rs M
/-- what the law's own def promises -/
def prLaw : Pr := { pre := fun rs M => M = OH0 ∧ ∃ ns : List Int, rs = [.dat (.scr (ns.map .int))] ∧ ns.length ≤ 63, post := fun _ _ r _ => r = .dat (.bl true) }
def spLaw (K : PySem.W.Frag) : Sp := fun vs H Q _ => ∃ (a : Addr) (ns : List Int), vs = [.ref a] ∧ SqL K H a (ns.map V.int) ∧ ns.length ≤ 63 ∧ ∀ H', Q (.bl true) H'
theorem das_ints {H : Hp} : ∀ ns : List Int, DAs K H (ns.map .int) (ns.map V.int)
  | [] => by unfold DAs; rfl
  | n :: ns => by
    show DAs K H (.int n :: ns.map .int) _
    unfold DAs
    exact ⟨.int n, ns.map V.int, rfl, by unfold DA; rfl, das_ints ns⟩
theorem law_imp {CX : CXT} {k : Nat} {f : Addr} {fd : FuncData} {ps : List Str} (G : FnOk P w K mg base CX k f fd ps (spM K prLaw)) : FnOk P w K mg base CX k f fd ps (spLaw K) := G.imp fun vs H Q E ⟨a, ns, e1, hS, hl, q⟩ => by
  subst e1
  refine ⟨H, H, OH0, [.dat (.scr (ns.map .int))], ⟨Same.refl H, Same.refl H, Same.refl H, fun _ z => .inl z, fun _ _ z => by cases z⟩, .cons ?_ .nil, ⟨rfl, ns, rfl, hl⟩, fun v r H' 𝓗' M' _ ok e => ?_, fun _ _ _ _ _ z => z.elim⟩
  · show DA K H (.scr (ns.map .int)) _
    unfold DA
    exact ⟨a, _, rfl, hS, das_ints ns⟩
  · have e' : r = .dat (.bl true) := e
    subst e'
    have ok' : DA K H' (.bl true) v := ok
    unfold DA at ok'
    rw [ok']
    exact q 𝓗'
theorem law_def {CX : CXT} {k : Nat} {x : Str} (D : Def P w K mg base CX k x ["_law_script"] prLaw) {fa : Addr} (h : mg x = some (.ref fa)) : ∃ fd, FnOk P w K mg base CX k fa fd ["_law_script"] (spLaw K) := by
  obtain ⟨f, fd, G, hm, _, _⟩ := D.ex
  rw [hm] at h
  cases h
  exact ⟨fd, law_imp G⟩
end
end DL
namespace DL
open PySem PySem.Spec PyProof.Rows L2
section
variable {P : Program} {w : World} {K : PySem.W.Frag} {mg : Str → Option Value} {base : Heap} {N : List Str} {sc : Scope} {F : Fm P w K mg base N sc}
variable {ρ : Rho} {M : OH} {e a b c : Expr} {pos : Pos} {r r1 r2 : Sl} {Q : Sl → OH → Prop} {D : DE}
/-! ### == of scalars -/
/-- None, bools, ints, texts -/
def sV : Dt → Option V
  | .non => some .non
  | .bl b => some (.bl b)
  | .int i => some (.int i)
  | .str x => some (.str x)
  | _ => none
theorem sV_ok {H : Hp} {d : Dt} {v u : V} (h : DA K H d v) (e : sV d = some u) : v = u := by
  cases d with
  | non => cases e; unfold DA at h; exact h
  | bl b => cases e; unfold DA at h; exact h
  | int b => cases e; unfold DA at h; exact h
  | str b => cases e; unfold DA at h; exact h
  | lst _ => cases e
  | tup _ => cases e
  | scr _ => cases e
  | ins _ _ _ => cases e
theorem op2_eq {x y : Dt} {u v : V} (e1 : sV x = some u) (e2 : sV y = some v) (hs : scal u v = true) : Op2 F rEq (.dat x) (.dat y) M fun r' M' => r' = .dat (.bl (decide (u = v))) ∧ M' = M := fun H 𝓗 p q Q' c q1 q2 k => by
  rw [sV_ok q1 e1, sV_ok q2 e2]
  exact ⟨hs, here c k (by show DA K H _ _; unfold DA; rfl)⟩
theorem op2_ne {x y : Dt} {u v : V} (e1 : sV x = some u) (e2 : sV y = some v) (hs : scal u v = true) : Op2 F rNe (.dat x) (.dat y) M fun r' M' => r' = .dat (.bl (!decide (u = v))) ∧ M' = M := fun H 𝓗 p q Q' c q1 q2 k => by
  rw [sV_ok q1 e1, sV_ok q2 e2]
  exact ⟨hs, here c k (by show DA K H _ _; unfold DA; rfl)⟩
theorem dI {i j : Int} : decide (V.int i = V.int j) = decide (i = j) := by
  by_cases h : i = j
  · subst h; simp
  · rw [decide_eq_false h, decide_eq_false (fun z => h (V.int.inj z))]
theorem dS {i j : Str} : decide (V.str i = V.str j) = decide (i = j) := by
  by_cases h : i = j
  · subst h; simp
  · rw [decide_eq_false h, decide_eq_false (fun z => h (V.str.inj z))]
theorem dB {i j : Bool} : decide (V.bl i = V.bl j) = decide (i = j) := by
  by_cases h : i = j
  · subst h; simp
  · rw [decide_eq_false h, decide_eq_false (fun z => h (V.bl.inj z))]
section
variable {i j : Int} {s t : Str} {k l : Bool}
theorem ed_eqI (ha : ED F ρ M a (.dat (.int i))) (hb : ED F ρ M b (.dat (.int j))) : ED F ρ M (.Compare a [.Eq] [b] pos) (.dat (.bl (decide (i = j)))) := by rw [← dI]; exact ed_op2 (fun _ => pe_cmpR op_eq (pe_u _) (pe_u _) (nomark _)) ha hb (op2_eq rfl rfl rfl)
theorem ed_neI (ha : ED F ρ M a (.dat (.int i))) (hb : ED F ρ M b (.dat (.int j))) : ED F ρ M (.Compare a [.NotEq] [b] pos) (.dat (.bl (!decide (i = j)))) := by rw [← dI]; exact ed_op2 (fun _ => pe_cmpR op_ne (pe_u _) (pe_u _) (nomark _)) ha hb (op2_ne rfl rfl rfl)
theorem td_eqI (ha : ED F ρ M a (.dat (.int i))) (hb : ED F ρ M b (.dat (.int j))) : TD F ρ M (.Compare a [.Eq] [b] pos) (decide (i = j)) := by rw [← dI]; exact td_op2 (fun _ => pt_cmpR op_eq (pe_u _) (pe_u _) (nomark _)) ha hb (op2_eq rfl rfl rfl)
theorem td_neI (ha : ED F ρ M a (.dat (.int i))) (hb : ED F ρ M b (.dat (.int j))) : TD F ρ M (.Compare a [.NotEq] [b] pos) (!decide (i = j)) := by rw [← dI]; exact td_op2 (fun _ => pt_cmpR op_ne (pe_u _) (pe_u _) (nomark _)) ha hb (op2_ne rfl rfl rfl)
theorem ed_eqS (ha : ED F ρ M a (.dat (.str s))) (hb : ED F ρ M b (.dat (.str t))) : ED F ρ M (.Compare a [.Eq] [b] pos) (.dat (.bl (decide (s = t)))) := by rw [← dS]; exact ed_op2 (fun _ => pe_cmpR op_eq (pe_u _) (pe_u _) (nomark _)) ha hb (op2_eq rfl rfl rfl)
theorem ed_neS (ha : ED F ρ M a (.dat (.str s))) (hb : ED F ρ M b (.dat (.str t))) : ED F ρ M (.Compare a [.NotEq] [b] pos) (.dat (.bl (!decide (s = t)))) := by rw [← dS]; exact ed_op2 (fun _ => pe_cmpR op_ne (pe_u _) (pe_u _) (nomark _)) ha hb (op2_ne rfl rfl rfl)
theorem td_eqS (ha : ED F ρ M a (.dat (.str s))) (hb : ED F ρ M b (.dat (.str t))) : TD F ρ M (.Compare a [.Eq] [b] pos) (decide (s = t)) := by rw [← dS]; exact td_op2 (fun _ => pt_cmpR op_eq (pe_u _) (pe_u _) (nomark _)) ha hb (op2_eq rfl rfl rfl)
theorem td_neS (ha : ED F ρ M a (.dat (.str s))) (hb : ED F ρ M b (.dat (.str t))) : TD F ρ M (.Compare a [.NotEq] [b] pos) (!decide (s = t)) := by rw [← dS]; exact td_op2 (fun _ => pt_cmpR op_ne (pe_u _) (pe_u _) (nomark _)) ha hb (op2_ne rfl rfl rfl)
theorem ed_eqB (ha : ED F ρ M a (.dat (.bl k))) (hb : ED F ρ M b (.dat (.bl l))) : ED F ρ M (.Compare a [.Eq] [b] pos) (.dat (.bl (decide (k = l)))) := by rw [← dB]; exact ed_op2 (fun _ => pe_cmpR op_eq (pe_u _) (pe_u _) (nomark _)) ha hb (op2_eq rfl rfl rfl)
theorem td_eqB (ha : ED F ρ M a (.dat (.bl k))) (hb : ED F ρ M b (.dat (.bl l))) : TD F ρ M (.Compare a [.Eq] [b] pos) (decide (k = l)) := by rw [← dB]; exact td_op2 (fun _ => pt_cmpR op_eq (pe_u _) (pe_u _) (nomark _)) ha hb (op2_eq rfl rfl rfl)
theorem td_neB (ha : ED F ρ M a (.dat (.bl k))) (hb : ED F ρ M b (.dat (.bl l))) : TD F ρ M (.Compare a [.NotEq] [b] pos) (!decide (k = l)) := by rw [← dB]; exact td_op2 (fun _ => pt_cmpR op_ne (pe_u _) (pe_u _) (nomark _)) ha hb (op2_ne rfl rfl rfl)
end
/-! ### and, or, not -/
section
variable {rest : List Expr} {k l : Bool}
theorem ew_and {Q : Sl → OH → Prop} (ha : EW F ρ M a fun x M1 => ∃ k, x = .dat (.bl k) ∧ if k = true then EW F ρ M1 (.BoolOp .And (b :: rest) pos) Q else Q (.dat (.bl false)) M1) : EW F ρ M (.BoolOp .And (a :: b :: rest) pos) Q := .mk fun H 𝓗 σ c hE => by
  refine uE.by (fun j => pe_and (pe_u j) (pe_u j)) ((ha.run H 𝓗 σ c hE).mono fun v 𝓗1 ⟨H1, M1, r1, c1, s1, q1, k, e1, q⟩ => ?_)
  subst e1
  refine ⟨k, q1, ?_⟩
  cases k with
  | true => exact (q.run H1 𝓗1 σ c1 (hE.mono s1)).mono fun _ _ z => z.up s1
  | false => exact ⟨H1, M1, _, c1, s1, (by show DA K H1 _ _; unfold DA; rfl), q⟩
theorem ew_or {Q : Sl → OH → Prop} (ha : EW F ρ M a fun x M1 => ∃ k, x = .dat (.bl k) ∧ if k = true then Q (.dat (.bl true)) M1 else EW F ρ M1 (.BoolOp .Or (b :: rest) pos) Q) : EW F ρ M (.BoolOp .Or (a :: b :: rest) pos) Q := .mk fun H 𝓗 σ c hE => by
  refine uE.by (fun j => pe_or (pe_u j) (pe_u j)) ((ha.run H 𝓗 σ c hE).mono fun v 𝓗1 ⟨H1, M1, r1, c1, s1, q1, k, e1, q⟩ => ?_)
  subst e1
  refine ⟨k, q1, ?_⟩
  cases k with
  | false => exact (q.run H1 𝓗1 σ c1 (hE.mono s1)).mono fun _ _ z => z.up s1
  | true => exact ⟨H1, M1, _, c1, s1, (by show DA K H1 _ _; unfold DA; rfl), q⟩
theorem ew_one {op} {Q : Sl → OH → Prop} (h : EW F ρ M a Q) : EW F ρ M (.BoolOp op [a] pos) Q := .mk fun H 𝓗 σ c hE => uE.by (fun j => pe_one (pe_u j)) (h.run H 𝓗 σ c hE)
theorem ed_one {op} (h : ED F ρ M a r) : ED F ρ M (.BoolOp op [a] pos) r := ew_one h
theorem ed_and (ha : ED F ρ M a (.dat (.bl k))) (hb : k = true → ED F ρ M (.BoolOp .And (b :: rest) pos) (.dat (.bl l))) : ED F ρ M (.BoolOp .And (a :: b :: rest) pos) (.dat (.bl (k && l))) := ew_and (ha.ew ⟨k, rfl, by
  cases k with
  | true => exact hb rfl
  | false => exact ⟨rfl, rfl⟩⟩)
theorem ed_or (ha : ED F ρ M a (.dat (.bl k))) (hb : k = false → ED F ρ M (.BoolOp .Or (b :: rest) pos) (.dat (.bl l))) : ED F ρ M (.BoolOp .Or (a :: b :: rest) pos) (.dat (.bl (k || l))) := ew_or (ha.ew ⟨k, rfl, by
  cases k with
  | false => exact hb rfl
  | true => exact ⟨rfl, rfl⟩⟩)
theorem ew_not {Q : Sl → OH → Prop} (ha : EW F ρ M a fun x M1 => ∃ k, x = .dat (.bl k) ∧ Q (.dat (.bl (!k))) M1) : EW F ρ M (.UnaryOp .Not a pos) Q := .mk fun H 𝓗 σ c hE => by
  refine uE.by (fun j => pe_not (pe_u j)) ((ha.run H 𝓗 σ c hE).mono fun v 𝓗1 ⟨H1, M1, r1, c1, s1, q1, k, e1, q⟩ => ?_)
  subst e1
  exact ⟨k, q1, H1, M1, _, c1, s1, (by show DA K H1 _ _; unfold DA; rfl), q⟩
theorem ed_not (ha : ED F ρ M a (.dat (.bl k))) : ED F ρ M (.UnaryOp .Not a pos) (.dat (.bl (!k))) := ew_not (ha.ew ⟨k, rfl, rfl, rfl⟩)
/-- .. as tests -/
theorem WW.tw {Q : Bool → OH → Prop} (h : WW F ρ M e Q) : TW F ρ M e Q := .mk fun H 𝓗 σ c hE => uT.by (fun j => (pw_u j).pt) (h.run H 𝓗 σ c hE)
theorem ww_and {Q : Bool → OH → Prop} (ha : TW F ρ M a fun k M1 => if k = true then WW F ρ M1 (.BoolOp .And (b :: rest) pos) Q else Q false M1) : WW F ρ M (.BoolOp .And (a :: b :: rest) pos) Q := .mk fun H 𝓗 σ c hE => by
  refine uW.by (fun j => pw_and (pt_u j) (pw_u j)) ((ha.run H 𝓗 σ c hE).mono fun k 𝓗1 ⟨H1, M1, c1, s1, q⟩ => ?_)
  cases k with
  | true => exact (q.run H1 𝓗1 σ c1 (hE.mono s1)).mono fun _ _ ⟨H2, M2, c2, s2, q2⟩ => ⟨H2, M2, c2, s1.trans s2, q2⟩
  | false => exact ⟨H1, M1, c1, s1, q⟩
theorem ww_or {Q : Bool → OH → Prop} (ha : TW F ρ M a fun k M1 => if k = true then Q true M1 else WW F ρ M1 (.BoolOp .Or (b :: rest) pos) Q) : WW F ρ M (.BoolOp .Or (a :: b :: rest) pos) Q := .mk fun H 𝓗 σ c hE => by
  refine uW.by (fun j => pw_or (pt_u j) (pw_u j)) ((ha.run H 𝓗 σ c hE).mono fun k 𝓗1 ⟨H1, M1, c1, s1, q⟩ => ?_)
  cases k with
  | false => exact (q.run H1 𝓗1 σ c1 (hE.mono s1)).mono fun _ _ ⟨H2, M2, c2, s2, q2⟩ => ⟨H2, M2, c2, s1.trans s2, q2⟩
  | true => exact ⟨H1, M1, c1, s1, q⟩
theorem ww_and1 {Q : Bool → OH → Prop} (ha : TW F ρ M a Q) : WW F ρ M (.BoolOp .And [a] pos) Q := .mk fun H 𝓗 σ c hE => uW.by (fun j => pw_and1 (pt_u j)) (ha.run H 𝓗 σ c hE)
theorem ww_or1 {Q : Bool → OH → Prop} (ha : TW F ρ M a Q) : WW F ρ M (.BoolOp .Or [a] pos) Q := .mk fun H 𝓗 σ c hE => uW.by (fun j => pw_or1 (pt_u j)) (ha.run H 𝓗 σ c hE)
theorem tw_not {Q : Bool → OH → Prop} (ha : TW F ρ M a fun k M1 => Q (!k) M1) : TW F ρ M (.UnaryOp .Not a pos) Q := .mk fun H 𝓗 σ c hE => uT.by (fun j => pt_not (pt_u j)) ((ha.run H 𝓗 σ c hE).mono fun _ _ q => q)
def WD (F : Fm P w K mg base N sc) (ρ : Rho) (M : OH) (e : Expr) (k : Bool) : Prop := WW F ρ M e fun k' M' => k' = k ∧ M' = M
theorem WD.td (h : WD F ρ M e k) : TD F ρ M e k := WW.tw h
theorem wd_and (ha : TD F ρ M a k) (hb : k = true → WD F ρ M (.BoolOp .And (b :: rest) pos) l) : WD F ρ M (.BoolOp .And (a :: b :: rest) pos) (k && l) := ww_and (ha.tw (by
  cases k with
  | true => exact hb rfl
  | false => exact ⟨rfl, rfl⟩))
theorem wd_or (ha : TD F ρ M a k) (hb : k = false → WD F ρ M (.BoolOp .Or (b :: rest) pos) l) : WD F ρ M (.BoolOp .Or (a :: b :: rest) pos) (k || l) := ww_or (ha.tw (by
  cases k with
  | false => exact hb rfl
  | true => exact ⟨rfl, rfl⟩))
theorem wd_and1 (ha : TD F ρ M a k) : WD F ρ M (.BoolOp .And [a] pos) k := ww_and1 ha
theorem wd_or1 (ha : TD F ρ M a k) : WD F ρ M (.BoolOp .Or [a] pos) k := ww_or1 ha
theorem td_not (ha : TD F ρ M a k) : TD F ρ M (.UnaryOp .Not a pos) (!k) := tw_not (ha.tw ⟨rfl, rfl⟩)
theorem td_and (ha : TD F ρ M a k) (hb : k = true → WD F ρ M (.BoolOp .And (b :: rest) pos) l) : TD F ρ M (.BoolOp .And (a :: b :: rest) pos) (k && l) := (wd_and ha hb).td
theorem td_or (ha : TD F ρ M a k) (hb : k = false → WD F ρ M (.BoolOp .Or (b :: rest) pos) l) : TD F ρ M (.BoolOp .Or (a :: b :: rest) pos) (k || l) := (wd_or ha hb).td
theorem ew_ifE (h : TW F ρ M c fun k M1 => if k = true then EW F ρ M1 a Q else EW F ρ M1 b Q) : EW F ρ M (.IfExp c a b pos) Q := .mk fun H 𝓗 σ cc hE => by
  refine uE.by (fun j => pe_ifExp (pt_u j) (pe_u j) (pe_u j)) ((h.run H 𝓗 σ cc hE).mono fun k 𝓗1 ⟨H1, M1, c1, s1, q⟩ => ?_)
  cases k with
  | true => exact (q.run H1 𝓗1 σ c1 (hE.mono s1)).mono fun _ _ z => z.up s1
  | false => exact (q.run H1 𝓗1 σ c1 (hE.mono s1)).mono fun _ _ z => z.up s1
theorem ed_neg {i : Int} (ha : ED F ρ M a (.dat (.int i))) : ED F ρ M (.UnaryOp .USub a pos) (.dat (.int (-i))) := .mk fun H 𝓗 σ c hE => by
  refine uE.by (fun j => pe_un un_neg (pe_u j)) ((ha.run H 𝓗 σ c hE).mono fun v 𝓗1 ⟨H1, M1, r1, c1, s1, q1, e1, e2⟩ => ?_)
  subst e1 e2
  exact ⟨i, q1, H1, _, _, c1, s1, (by show DA K H1 _ _; unfold DA; rfl), rfl, rfl⟩
/-! ### is None -/
def isNon : Sl → Bool
  | .dat .non => true
  | _ => false
theorem isNon_ok {H : Hp} {v : V} {s : Sl} (hk : known s) (hr : ∀ u, s = .raw u → u ≠ .non) (h : SlOk K H v s) : decide (v = V.non) = isNon s := by
  cases s with
  | un => exact hk.elim
  | raw u => have h' : v = u := h; rw [h']; exact decide_eq_false (hr u rfl)
  | dat d =>
    have h' : DA K H d v := h
    cases d with
    | non => unfold DA at h'; rw [h']; rfl
    | bl _ => unfold DA at h'; rw [h']; rfl
    | int _ => unfold DA at h'; rw [h']; rfl
    | str _ => unfold DA at h'; rw [h']; rfl
    | lst _ => unfold DA at h'; obtain ⟨_, _, z, _⟩ := h'; rw [z]; rfl
    | tup _ => unfold DA at h'; obtain ⟨_, _, z, _⟩ := h'; rw [z]; rfl
    | scr _ => unfold DA at h'; obtain ⟨_, _, z, _⟩ := h'; rw [z]; rfl
    | ins _ _ _ => unfold DA at h'; obtain ⟨_, _, _, z, _⟩ := h'; rw [z]; rfl
theorem ed_isN {j p2} (ha : ED F ρ M a r) (hk : known r := by trivial) (hr : ∀ u, r = .raw u → u ≠ .non := by intro u z; cases z <;> (intro z2; cases z2)) : ED F ρ M (.Compare a [.Is] [.Constant .none j p2] pos) (.dat (.bl (isNon r))) := .mk fun H 𝓗 σ c hE => by
  refine uE.by (fun j => pe_cmp (pc_isN (pe_u j)) rfl) ((ha.run H 𝓗 σ c hE).mono fun v 𝓗1 ⟨H1, M1, r1, c1, s1, q1, e1, e2⟩ => ?_)
  subst e1 e2
  exact ⟨H1, _, _, c1, s1, (by show DA K H1 _ _; unfold DA; rw [isNon_ok hk hr q1]), rfl, rfl⟩
theorem ed_notN {j p2} (ha : ED F ρ M a r) (hk : known r := by trivial) (hr : ∀ u, r = .raw u → u ≠ .non := by intro u z; cases z <;> (intro z2; cases z2)) : ED F ρ M (.Compare a [.IsNot] [.Constant .none j p2] pos) (.dat (.bl (!isNon r))) := .mk fun H 𝓗 σ c hE => by
  refine uE.by (fun j => pe_cmp (pc_notN (pe_u j)) rfl) ((ha.run H 𝓗 σ c hE).mono fun v 𝓗1 ⟨H1, M1, r1, c1, s1, q1, e1, e2⟩ => ?_)
  subst e1 e2
  exact ⟨H1, _, _, c1, s1, (by show DA K H1 _ _; unfold DA; rw [isNon_ok hk hr q1]), rfl, rfl⟩
theorem td_isN {j p2} (ha : ED F ρ M a r) (hk : known r := by trivial) (hr : ∀ u, r = .raw u → u ≠ .non := by intro u z; cases z <;> (intro z2; cases z2)) : TD F ρ M (.Compare a [.Is] [.Constant .none j p2] pos) (isNon r) := .mk fun H 𝓗 σ c hE => by
  refine uT.by (fun j => pt_cmp (pc_isN (pe_u j)) rfl) ((ha.run H 𝓗 σ c hE).mono fun v 𝓗1 ⟨H1, M1, r1, c1, s1, q1, e1, e2⟩ => ?_)
  subst e1 e2
  exact ⟨isNon r1, (by rw [isNon_ok hk hr q1]), H1, _, c1, s1, rfl, rfl⟩
theorem td_notN {j p2} (ha : ED F ρ M a r) (hk : known r := by trivial) (hr : ∀ u, r = .raw u → u ≠ .non := by intro u z; cases z <;> (intro z2; cases z2)) : TD F ρ M (.Compare a [.IsNot] [.Constant .none j p2] pos) (!isNon r) := .mk fun H 𝓗 σ c hE => by
  refine uT.by (fun j => pt_cmp (pc_notN (pe_u j)) rfl) ((ha.run H 𝓗 σ c hE).mono fun v 𝓗1 ⟨H1, M1, r1, c1, s1, q1, e1, e2⟩ => ?_)
  subst e1 e2
  exact ⟨!isNon r1, (by rw [isNon_ok hk hr q1]), H1, _, c1, s1, rfl, rfl⟩
end
/-! ### isinstance -/
def tyS (M : OH) : Sl → Option String
  | .dat .non => some "NoneType"
  | .dat (.bl _) => some "bool"
  | .dat (.int _) => some "int"
  | .dat (.str _) => some "str"
  | .dat (.lst _) => some "list"
  | .dat (.scr _) => some "list"
  | .dat (.tup _) => some "tuple"
  | .raw (.ref p) => if (M p).isSome = true then some "list" else none
  | _ => none
theorem tyS_ok {H 𝓗 : Hp} {v : V} {s : Sl} {T : String} (c : St3 F M H 𝓗) (h : SlOk K H v s) (e : tyS M s = some T) : TyX K 𝓗 v (.type T) := by
  cases s with
  | un => cases e
  | raw u =>
    have h' : v = u := h
    subst h'
    cases v with
    | ref p =>
      have e : (if (M p).isSome = true then some "list" else none) = some T := e
      cases q : M p with
      | none => rw [q] at e; cases e
      | some xs =>
        rw [q] at e; cases e
        obtain ⟨_, _, vs, e3, _⟩ := c.o p xs q
        exact .base (.lst e3)
    | non => cases e
    | bl _ => cases e
    | int _ => cases e
    | str _ => cases e
    | byt _ => cases e
    | flt _ => cases e
    | ty _ => cases e
  | dat d =>
    have h' : DA K H d v := h
    cases d with
    | non => cases e; unfold DA at h'; rw [h']; exact .base .non
    | bl _ => cases e; unfold DA at h'; rw [h']; exact .base (.bl _)
    | int _ => cases e; unfold DA at h'; rw [h']; exact .base (.int _)
    | str _ => cases e; unfold DA at h'; rw [h']; exact .base (.str _)
    | lst _ => cases e; unfold DA at h'; obtain ⟨_, _, z, z2, _⟩ := h'; rw [z]; exact .base (.lst (c.u _ _ z2))
    | tup _ =>
      cases e; unfold DA at h'; obtain ⟨_, _, z, z2, _⟩ := h'; rw [z]
      rcases z2 with (z2 | ⟨o, z2⟩) | ⟨o, _, _, z2, z3, _⟩
      · exact .base (.tup (c.u _ _ z2))
      · exact .fTuple (c.u _ _ z2)
      · exact .kTuple z2 z3
    | scr _ =>
      cases e; unfold DA at h'; obtain ⟨_, _, z, z2, _⟩ := h'; rw [z]
      rcases z2 with (z2 | ⟨o, z2⟩) | ⟨o, _, _, z2, z3, _⟩
      · exact .base (.lst (c.u _ _ z2))
      · exact .base (.frz (c.u _ _ z2))
      · exact .kList z2 z3
    | ins _ _ _ => cases e
theorem fIsi (i : F.ι) : CallR (F.X i) (.builtin "isinstance") (rIsi K) := by have h := call_isi (X := F.X i); rw [F.eK i] at h; exact h
theorem ed_isi {p p2 : Pos} {B T : String} {k : Bool} (mi : mg "isinstance" = none) (ha : ED F ρ M a r) (ht : tyS M r = some T) (mb : mg (Str.ofString B) = none) (hk : kitB T B = some k) (hv : bootBuiltins (Str.ofString B) = some (.type B) := by decide +kernel)
    (hg : GL F "isinstance" := by intro _; rfl) (hg2 : GL F (Str.ofString B) := by intro _; rfl) (hn : Str.ofString B ≠ "__name__" := by decide) (hd : (Str.ofString B == ("__debug__" : Str)) = false := by decide) (hs : NS F a [.Name (Str.ofString B) p2] := by intro _; rfl) (hs2 : NS F (.Name (Str.ofString B) p2) [] := by intro _; rfl) (hpl : NP F pos [.Name (Str.ofString B) p2] := by intro _; rfl) :
    ED F ρ M (.Call (.Name "isinstance" p) [a, .Name (Str.ofString B) p2] [] pos) (.dat (.bl k)) := by
  have hb : ED F ρ M (.Name (Str.ofString B) p2) (.raw (.ty B)) := ed_c (fun i => pe_bltn (v := .ty B) (hg2 i) (hmg mb i) hv rfl hn hd) fun _ => rfl
  refine ew_cb (fun i => pe_callB (fIsi i) (hg i) (hmg mi i) (by decide +kernel) (pa_u i) (he := hs i) (hpl := hpl i)) ((ad_cons ha (ad_cons hb ad_nil hs2) hs).aw fun H 𝓗 vs Q' c q kk => ?_)
  obtain ⟨v, u, rfl, q1, q2⟩ := sl2 q
  have q2' : u = .ty B := q2
  subst q2'
  exact ⟨v, .ty B, .type T, .type B, k, rfl, .ty B, tyS_ok c q1 ht, kit_ty hk, here c kk (by show DA K H _ _; unfold DA; rfl)⟩
end
end DL
namespace DL
open PySem PySem.Spec PyProof.Rows L2
/-! ### comprehensions -/
theorem wipe_get {σ : L2.St} {i : Nat} : ∀ vs : List Nat, (L2.wipe σ vs)[i]? = if i ∈ vs ∧ i < σ.length then some none else σ[i]?
  | [] => by simp [L2.wipe]
  | v :: vs => by
    unfold L2.wipe
    rw [List.getElem?_set, wipe_get vs, L2.wipe_length]
    by_cases hv : v = i
    · subst hv
      by_cases hl : v < σ.length
      · simp [hl]
      · simp [hl]
    · rw [if_neg hv]
      by_cases hm : i ∈ vs
      · simp [hm]
      · simp [hm, Ne.symm hv]
theorem wipe_again {σ : L2.St} {vs : List Nat} {j : Nat} {o : Option V} (hj : j ∈ vs) : L2.wipe ((L2.wipe σ vs).set j o) vs = L2.wipe σ vs := by
  apply List.ext_getElem?
  intro i
  rw [wipe_get, List.length_set, L2.wipe_length, wipe_get, List.getElem?_set, wipe_get, L2.wipe_length]
  by_cases hi : i ∈ vs ∧ i < σ.length
  · rw [if_pos hi, if_pos hi]
  · rw [if_neg hi, if_neg hi]
    by_cases h : j = i
    · subst h
      rw [if_pos rfl]
      have : ¬ j < σ.length := fun z => hi ⟨hj, z⟩
      rw [if_neg this, List.getElem?_eq_none (by omega)]
    · rw [if_neg h]
theorem wipe_again2 {σ : L2.St} {vs : List Nat} {j k : Nat} {o o' : Option V} (hj : j ∈ vs) (hk : k ∈ vs) : L2.wipe (((L2.wipe σ vs).set j o).set k o') vs = L2.wipe σ vs := by
  apply List.ext_getElem?
  intro i
  rw [wipe_get, List.length_set, List.length_set, L2.wipe_length, wipe_get, List.getElem?_set, List.getElem?_set, wipe_get, List.length_set, L2.wipe_length]
  by_cases hi : i ∈ vs ∧ i < σ.length
  · rw [if_pos hi, if_pos hi]
  · rw [if_neg hi, if_neg hi]
    by_cases h : k = i
    · subst h
      rw [if_pos rfl]
      have : ¬ k < σ.length := fun z => hi ⟨hk, z⟩
      rw [if_neg this, List.getElem?_eq_none (by omega)]
    · rw [if_neg h]
      by_cases h : j = i
      · subst h
        rw [if_pos rfl]
        have : ¬ j < σ.length := fun z => hi ⟨hj, z⟩
        rw [if_neg this, List.getElem?_eq_none (by omega)]
      · rw [if_neg h]
section
variable {P : Program} {w : World} {K : PySem.W.Frag} {mg : Str → Option Value} {base : Heap} {N : List Str} {sc : Scope} {F : Fm P w K mg base N sc}
variable {ρ : Rho} {M : OH} {e a b c : Expr} {pos : Pos} {r r1 r2 : Sl} {Q : Sl → OH → Prop} {D : DE}
/-- the contexts of a comprehension's block -/
def Fm.blk (F : Fm P w K mg base N sc) (scope : Scope) : Fm P w K mg base N (relS scope sc) where
  ι := F.ι × Shared × Hp × Addr × List (Str × Addr) × List Addr
  X := fun z => (F.X z.1).blk z.2.1 z.2.2.1 scope (compEnvC scope z.2.2.2.2.1 z.2.2.2.1 (F.X z.1).env) z.2.2.2.2.2
  eP := fun z => F.eP z.1
  ew := fun z => F.ew z.1
  eK := fun z => F.eK z.1
  eg := fun z => F.eg z.1
  eb := fun z => F.eb z.1
  eN := fun z => F.eN z.1
  es := fun z => show relS scope (F.X z.1).env.scope = relS scope sc from congrArg _ (F.es z.1)
  nd := F.nd
  lv := F.lv
  hr := fun z => F.hr z.1
  hc := fun z => F.hc z.1
  po := fun z => PassesOwn.never
  B0 := F.B0
  H0 := F.H0
  ex := fun _ _ _ => False
  tk := fun _ u s' x => by
    obtain ⟨_, _, _, _, _, _, _, _, _, _, _, _, _, _, _, _, z⟩ := x
    obtain ⟨_, _, _, _, _, _, _, _, z⟩ := z
    exact z.elim

/-- the tests of a comprehension: none or one -/
def CW (F : Fm P w K mg base N sc) (ρ : Rho) (M : OH) : List Expr → (Bool → OH → Prop) → Prop
  | [], Q => Q true M
  | [c], Q => TW F ρ M c Q
  | _, _ => False
def ttOf (F : Fm P w K mg base N sc) : List Expr → TT
  | [] => tYes
  | [c] => uT F c
  | _ => fun _ _ _ => False
theorem pts_u {ifs : List Expr} (hl : ifs.length ≤ 1) (i : F.ι) : PTs (F.X i) ifs (ttOf F ifs) := by
  match ifs, hl with
  | [], _ => exact pts_nil
  | [c], _ => exact pts_one (pt_u i)
theorem CW.go {ifs : List Expr} {Q : Bool → OH → Prop} (h : CW F ρ M ifs Q) {H 𝓗 : Hp} {σ : L2.St} (cc : St3 F M H 𝓗) (hE : EnvOk K H σ ρ) {R : Bool → Hp → Prop} (k : ∀ b 𝓗, QB F H Q b 𝓗 → R b 𝓗) : ttOf F ifs σ 𝓗 R := by
  match ifs, h with
  | [], h => exact k true 𝓗 ⟨H, M, cc, Same.refl H, h⟩
  | [c], h =>
    have h' : TW F ρ M c Q := h
    exact (h'.run H 𝓗 σ cc hE).mono k
/-- the target takes the item -/
structure TgOk (F : Fm P w K mg base N sc) (scope : Scope) (tg : Expr) (vs : List Nat) (ρ : Rho) (g : TG) (okd : Dt → Prop) (upr : Dt → Rho) : Prop where
  pg : ∀ z, PG ((F.blk scope).X z) tg g
  go : ∀ H 𝓗 M (σ : L2.St) v d (R : L2.St → Hp → Prop), St3 F M H 𝓗 → EnvOk K H σ ρ → DA K H d v → okd d → (∀ σ2, EnvOk K H σ2 (upr d) → L2.wipe σ2 vs = L2.wipe σ vs → R σ2 𝓗) → g v (L2.wipe σ vs) 𝓗 R
theorem tg_name {scope : Scope} {j : Nat} {x : Str} {px : Pos} {vs : List Nat} (hj : j ∈ vs) (hN : N[j]? = some x) (hx : ∀ z, Loc ((F.blk scope).X z).env.scope x) (hf : ∀ z, ((F.blk scope).X z).fn x = true ∨ ((F.blk scope).X z).env.scope.names.lookup x = some .local) :
    TgOk F scope (.Name x px) vs ρ (gName j) (fun _ => True) fun d => (wipeR ρ vs).set j (.dat d) where
  pg := fun z => pg_name (by rw [(F.blk scope).eN z]; exact F.nd) (by rw [(F.blk scope).eN z]; exact hN) (hx z) (hf z)
  go := fun H 𝓗 M σ v d R cc hE hd _ k => k _ ((hE.wipe vs).set j (s := .dat d) hd) (wipe_again hj)
theorem tg_pair {scope : Scope} {j k : Nat} {x y : Str} {px py pt : Pos} {kt} {vs : List Nat} (hj : j ∈ vs) (hk : k ∈ vs) (hN : N[j]? = some x) (hN2 : N[k]? = some y) (hx : ∀ z, Loc ((F.blk scope).X z).env.scope x) (hf : ∀ z, ((F.blk scope).X z).fn x = true ∨ ((F.blk scope).X z).env.scope.names.lookup x = some .local)
    (hx2 : ∀ z, Loc ((F.blk scope).X z).env.scope y) (hf2 : ∀ z, ((F.blk scope).X z).fn y = true ∨ ((F.blk scope).X z).env.scope.names.lookup y = some .local)
    (h1 : ∀ z, (assignEach [.Name x px, .Name y py] ((F.blk scope).X z).env).map (·.2) = assign (.Name x px) ((F.blk scope).X z).env :: (assignEach [.Name y py] ((F.blk scope).X z).env).map (·.2)) (h2 : ∀ z, (assignEach [.Name y py] ((F.blk scope).X z).env).map (·.2) = assign (.Name y py) ((F.blk scope).X z).env :: (assignEach [] ((F.blk scope).X z).env).map (·.2))
    (h3 : ∀ z, (assignEach [.Name x px, .Name y py] ((F.blk scope).X z).env).length = 2) (h4 : ∀ z, (assignEach [.Name x px, .Name y py] ((F.blk scope).X z).env).findIdx? (·.1) = none) :
    TgOk F scope (.Tuple [.Name x px, .Name y py] kt pt) vs ρ (gTup K 2 (gCons (gName j) (gCons (gName k) gNil))) (fun d => ∃ d1 d2, d = .tup [d1, d2]) fun d => match d with | .tup [d1, d2] => ((wipeR ρ vs).set j (.dat d1)).set k (.dat d2) | _ => [] where
  pg := fun z => by
    have q := pg_tup (X := (F.blk scope).X z) (k := kt) (pos := pt) ((F.blk scope).hc z) (pgs_cons (pg_name (i := j) (x := x) (pos := px) (by rw [(F.blk scope).eN z]; exact F.nd) (by rw [(F.blk scope).eN z]; exact hN) (hx z) (hf z)) (pgs_cons (pg_name (i := k) (x := y) (pos := py) (by rw [(F.blk scope).eN z]; exact F.nd) (by rw [(F.blk scope).eN z]; exact hN2) (hx2 z) (hf2 z)) pgs_nil (h2 z)) (h1 z)) (h3 z) (h4 z)
    rw [(F.blk scope).eK z] at q
    exact q
  go := fun H 𝓗 M σ v d R cc hE hd ok kk => by
    obtain ⟨d1, d2, rfl⟩ := ok
    obtain ⟨p, ws, rfl, e2, e3⟩ := tup_seq cc (show SlOk K H v (.dat (.tup [d1, d2])) from hd)
    obtain ⟨v1, v2, rfl, q1, q2⟩ := sl2 e3
    refine ⟨p, _, rfl, e2, rfl, v1, _, rfl, v2, _, rfl, rfl, ?_⟩
    exact kk _ (((hE.wipe vs).set j q1).set k q2) (wipe_again2 hj hk)
/-- [elt for tg in a list of data if ..] -/
theorem ew_lcL {elt tg it : Expr} {ifs : List Expr} {scope : Scope} {own : List (Str × Nat)} {g : TG} {okd : Dt → Prop} {upr : Dt → Rho} {d : Dt} {xs : List Dt} (Pv : Addr → Nat → List Sl → OH → Prop) (hl1 : ifs.length ≤ 1) (hi : ED F ρ M it (.dat d)) (hl : DLs d xs) (hz : xs.length ≤ 90000)
    (tg1 : TgOk F scope tg (own.map (·.2)) ρ g okd upr) (hok : ∀ x ∈ xs, okd x) (ok : BlkOk N sc scope own) (h0 : ∀ D, M D = none → Pv D 0 [] (oset M D []))
    (hs : ∀ D k x acc M', xs[k]? = some x → M' D = some acc → Pv D k acc M' → acc.length ≤ k → CW (F.blk scope) (upr x) M' ifs fun b M1 => if b = true then EW (F.blk scope) (upr x) M1 elt fun s M2 => M2 D = some acc ∧ Pv D (k + 1) (acc ++ [s]) (oset M2 D (acc ++ [s])) else M1 D = some acc ∧ Pv D (k + 1) acc M1)
    (hd : ∀ D acc M', M' D = some acc → Pv D xs.length acc M' → Q (.raw (.ref D)) M') (hss : ∀ j y, foldedSetIterable it (F.X j).env y = pure y := by intro _ _; rfl) : EW F ρ M (.ListComp elt [⟨tg, it, ifs, 0⟩] scope pos) Q := .mk fun H 𝓗 σ c hE => by
  refine uE.by (t := tLc (iList K (uE F it)) g (ttOf (F.blk scope) ifs) (uE (F.blk scope) elt) (own.map (·.2))) (fun j => pe_lc (own := own) (F.hc j) (by rw [F.eN j]; exact F.nd) (fList j) (by rw [F.eN j, F.es j]; exact ok) (fun s H C cl fp => tg1.pg (j, s, H, C, cl, fp)) (fun s H C cl fp => pts_u hl1 (F := F.blk scope) (j, s, H, C, cl, fp)) (fun s H C cl fp => pe_u (F := F.blk scope) (j, s, H, C, cl, fp)) (hss j)) ((hi.run H 𝓗 σ c hE).mono fun v 𝓗1 ⟨H1, M1, r1, c1, s1, q1, e1, e2⟩ => ?_)
  subst e1 e2
  obtain ⟨p, vs, rfl, q2, q3⟩ := hl.seq q1
  have len : vs.length = xs.length := by rw [q3.length, List.length_map]
  refine ⟨p, rfl, ⟨vs, c1.u.seq q2⟩, fun Da hD => ?_⟩
  have hMD : M1 Da = none := (c1.none_of hD).2.2
  refine lc_list (K := K) (a := p) (xs := vs) (fun k 𝓗' => ∃ H' M' acc, St3 F M' H' 𝓗' ∧ Same H1 H' ∧ M' Da = some acc ∧ Pv Da k acc M' ∧ acc.length ≤ k) ⟨H1, _, [], c1.newL hD .nil, Same.refl _, oset_same, h0 Da hMD, Nat.le_refl _⟩ ?_ ?_ ?_
  · rintro k 𝓗' _ ⟨H', M', acc, c', s', _⟩
    exact c'.u.seq (s'.seq q2)
  · rintro k v 𝓗' hv ⟨H', M', acc, c', s', hm, pv, hlen⟩
    obtain ⟨r', e5, e6⟩ := paired_get' q3 hv
    obtain ⟨x, e7, rfl⟩ := dat_get e5
    have hk : k < xs.length := (List.getElem?_eq_some_iff.mp e7).1
    refine tg1.go H' 𝓗' M' σ v x _ c' (hE.mono (s1.trans s')) (e6.mono s') (hok x (List.mem_of_getElem? e7)) fun σ2 hE2 hw => ⟨hw, ?_⟩
    refine CW.go (hs Da k x acc M' e7 hm pv hlen) (F := F.blk scope) c' hE2 ?_
    rintro b 𝓗3 ⟨H3, M3, c3, s3, q⟩
    cases b with
    | true =>
      simp only [if_true] at q ⊢
      refine (q.run H3 𝓗3 σ2 c3 (hE2.mono s3)).mono ?_
      rintro y 𝓗4 ⟨H4, M4, s, c4, s4, qy, hm4, pv4⟩
      obtain ⟨_, _, ws, w1, w2⟩ := c4.o Da acc hm4
      refine ⟨ws, w1, sz5l (by rw [w2.length]; omega), H4, _, acc ++ [s], c4.wr hm4 (paired_append w2 (.cons qy .nil)), (s'.trans s3).trans s4, oset_same, pv4, by rw [List.length_append]; exact Nat.succ_le_succ hlen⟩
    | false =>
      simp only [Bool.false_eq_true, if_false] at q ⊢
      exact ⟨H3, M3, acc, c3, s'.trans s3, q.1, q.2, Nat.le_succ_of_le hlen⟩
  · rintro 𝓗' ⟨H', M', acc, c', s', hm, pv, _⟩
    exact ⟨H', M', .raw (.ref Da), c', s1.trans s', rfl, hd Da acc M' hm (by rw [← len]; exact pv)⟩
/-- .. over range(n) -/
theorem ew_lcR {elt tg a : Expr} {p2 p3 : Pos} {ifs : List Expr} {scope : Scope} {own : List (Str × Nat)} {g : TG} {upr : Dt → Rho} {n : Int} (m : Nat) (Pv : Addr → Nat → List Sl → OH → Prop) (mr : mg "range" = none) (hl1 : ifs.length ≤ 1) (ha : ED F ρ M a (.dat (.int n))) (hn : n = (m : Int)) (hz : m ≤ 90000)
    (tg1 : TgOk F scope tg (own.map (·.2)) ρ g (fun _ => True) upr) (ok : BlkOk N sc scope own) (h0 : ∀ D, M D = none → Pv D 0 [] (oset M D []))
    (hs : ∀ D k acc M', k < m → M' D = some acc → Pv D k acc M' → acc.length ≤ k → CW (F.blk scope) (upr (.int (k : Int))) M' ifs fun b M1 => if b = true then EW (F.blk scope) (upr (.int (k : Int))) M1 elt fun s M2 => M2 D = some acc ∧ Pv D (k + 1) (acc ++ [s]) (oset M2 D (acc ++ [s])) else M1 D = some acc ∧ Pv D (k + 1) acc M1)
    (hd : ∀ D acc M', M' D = some acc → Pv D m acc M' → Q (.raw (.ref D)) M') (hg : GL F "range" := by intro _; rfl) (hns : NS F a [] := by intro _; rfl) (hss : ∀ j y, foldedSetIterable (.Call (.Name "range" p2) [a] [] p3) (F.X j).env y = pure y := by intro _ _; rfl) :
    EW F ρ M (.ListComp elt [⟨tg, .Call (.Name "range" p2) [a] [] p3, ifs, 0⟩] scope pos) Q := .mk fun H 𝓗 σ c hE => by
  subst hn
  refine uE.by (t := tLc (iRng1 (uA F [a])) g (ttOf (F.blk scope) ifs) (uE (F.blk scope) elt) (own.map (·.2))) (fun j => pe_lc (own := own) (F.hc j) (by rw [F.eN j]; exact F.nd) (pi_range1 (hg j) (hmg mr j) (pa_u j) (hns j)) (by rw [F.eN j, F.es j]; exact ok) (fun s H C cl fp => tg1.pg (j, s, H, C, cl, fp)) (fun s H C cl fp => pts_u hl1 (F := F.blk scope) (j, s, H, C, cl, fp)) (fun s H C cl fp => pe_u (F := F.blk scope) (j, s, H, C, cl, fp)) (hss j)) (((ad_cons ha ad_nil hns).run H 𝓗 σ c hE).mono fun vs 𝓗1 ⟨H1, M1, r1, c1, s1, q1, e1, e2⟩ => ?_)
  subst e1 e2
  obtain ⟨v, rfl, qv⟩ := sl1 q1
  have qv' : v = .int (m : Int) := qv
  subst qv'
  refine ⟨m, rfl, by omega, by omega, fun Da hD => ?_⟩
  have hMD : M1 Da = none := (c1.none_of hD).2.2
  refine lc_range (lo := 0) (n := ((m : Int)).toNat) (fun k 𝓗' => ∃ H' M' acc, St3 F M' H' 𝓗' ∧ Same H1 H' ∧ M' Da = some acc ∧ Pv Da k acc M' ∧ acc.length ≤ k) ⟨H1, _, [], c1.newL hD .nil, Same.refl _, oset_same, h0 Da hMD, Nat.le_refl _⟩ ?_ ?_
  · rintro k 𝓗' hk' ⟨H', M', acc, c', s', hm, pv, hlen⟩
    have hk : k < m := by omega
    have e0 : (0 : Int) + (k : Int) = (k : Int) := Int.zero_add _
    rw [e0]
    refine tg1.go H' 𝓗' M' σ _ (.int (k : Int)) _ c' (hE.mono (s1.trans s')) (by unfold DA; rfl) trivial fun σ2 hE2 hw => ⟨hw, ?_⟩
    refine CW.go (hs Da k acc M' hk hm pv hlen) (F := F.blk scope) c' hE2 ?_
    rintro b 𝓗3 ⟨H3, M3, c3, s3, q⟩
    cases b with
    | true =>
      simp only [if_true] at q ⊢
      refine (q.run H3 𝓗3 σ2 c3 (hE2.mono s3)).mono ?_
      rintro y 𝓗4 ⟨H4, M4, s, c4, s4, qy, hm4, pv4⟩
      obtain ⟨_, _, ws, w1, w2⟩ := c4.o Da acc hm4
      refine ⟨ws, w1, sz5l (by rw [w2.length]; omega), H4, _, acc ++ [s], c4.wr hm4 (paired_append w2 (.cons qy .nil)), (s'.trans s3).trans s4, oset_same, pv4, by rw [List.length_append]; exact Nat.succ_le_succ hlen⟩
    | false =>
      simp only [Bool.false_eq_true, if_false] at q ⊢
      exact ⟨H3, M3, acc, c3, s'.trans s3, q.1, q.2, Nat.le_succ_of_le hlen⟩
  · rintro 𝓗' ⟨H', M', acc, c', s', hm, pv, _⟩
    exact ⟨H', M', .raw (.ref Da), c', s1.trans s', rfl, hd Da acc M' hm pv⟩
/-- .. pure: an int's truth, or a test, over range(n) -/
theorem el_lcR {elt tg a : Expr} {p2 p3 : Pos} {ifs : List Expr} {scope : Scope} {own : List (Str × Nat)} {g : TG} {upr : Dt → Rho} {n : Int} (m : Nat) (f : Nat → Bool) (v : Nat → Sl) (mr : mg "range" = none) (hl1 : ifs.length ≤ 1) (ha : ED F ρ M a (.dat (.int n))) (hn : n = (m : Int)) (hz : m ≤ 90000)
    (tg1 : TgOk F scope tg (own.map (·.2)) ρ g (fun _ => True) upr) (ok : BlkOk N sc scope own)
    (ht : ∀ k M', k < m → CW (F.blk scope) (upr (.int (k : Int))) M' ifs fun b M1 => b = f k ∧ M1 = M')
    (he : ∀ k M', k < m → f k = true → ED (F.blk scope) (upr (.int (k : Int))) M' elt (v k)) (hg : GL F "range" := by intro _; rfl) (hns : NS F a [] := by intro _; rfl) (hss : ∀ j y, foldedSetIterable (.Call (.Name "range" p2) [a] [] p3) (F.X j).env y = pure y := by intro _ _; rfl) :
    EL F ρ M (.ListComp elt [⟨tg, .Call (.Name "range" p2) [a] [] p3, ifs, 0⟩] scope pos) (((List.range m).filter f).map v) := by
  refine ew_lcR m (fun D k acc M' => M D = none ∧ M' = oset M D acc ∧ acc = ((List.range k).filter f).map v) mr hl1 ha hn hz tg1 ok (fun D hD => ⟨hD, rfl, rfl⟩) ?_ ?_ hg hns hss
  · rintro D k acc M' hk hm ⟨hD, e1, e2⟩ _
    have h1 := ht k M' hk
    match ifs, hl1, h1 with
    | [], _, h1 =>
      obtain ⟨e3, _⟩ := h1
      refine (he k M' hk e3.symm).ew ⟨hm, hD, by rw [e1, oset_oset], ?_⟩
      rw [List.range_succ, List.filter_append, List.map_append, e2]
      simp [← e3]
    | [c], _, h1 =>
      refine TW.mono h1 fun b M1 ⟨e3, e4⟩ => ?_
      subst e3 e4
      split
      · rename_i hf
        refine (he k M1 hk hf).ew ⟨hm, hD, by rw [e1, oset_oset], ?_⟩
        rw [List.range_succ, List.filter_append, List.map_append, e2]
        simp [hf]
      · rename_i hf
        refine ⟨hm, hD, e1, ?_⟩
        rw [List.range_succ, List.filter_append, List.map_append, e2]
        simp [hf]
  · rintro D acc M' hm ⟨hD, e1, e2⟩
    exact ⟨D, hD, rfl, by rw [e1, e2]⟩
theorem el_lcL {elt tg it : Expr} {ifs : List Expr} {scope : Scope} {own : List (Str × Nat)} {g : TG} {okd : Dt → Prop} {upr : Dt → Rho} {d : Dt} {xs : List Dt} (f : Dt → Bool) (v : Dt → Sl) (hl1 : ifs.length ≤ 1) (hi : ED F ρ M it (.dat d)) (hl : DLs d xs) (hz : xs.length ≤ 90000)
    (tg1 : TgOk F scope tg (own.map (·.2)) ρ g okd upr) (hok : ∀ x ∈ xs, okd x) (ok : BlkOk N sc scope own)
    (ht : ∀ x M', x ∈ xs → CW (F.blk scope) (upr x) M' ifs fun b M1 => b = f x ∧ M1 = M')
    (he : ∀ x M', x ∈ xs → f x = true → ED (F.blk scope) (upr x) M' elt (v x)) (hss : ∀ j y, foldedSetIterable it (F.X j).env y = pure y := by intro _ _; rfl) :
    EL F ρ M (.ListComp elt [⟨tg, it, ifs, 0⟩] scope pos) ((xs.filter f).map v) := by
  refine ew_lcL (fun D k acc M' => M D = none ∧ M' = oset M D acc ∧ acc = ((xs.take k).filter f).map v) hl1 hi hl hz tg1 hok ok (fun D hD => ⟨hD, rfl, rfl⟩) ?_ ?_ hss
  · rintro D k x acc M' hx hm ⟨hD, e1, e2⟩ _
    have hmem : x ∈ xs := List.mem_of_getElem? hx
    have ht' : xs.take (k + 1) = xs.take k ++ [x] := by rw [List.take_add_one, hx]; rfl
    have h1 := ht x M' hmem
    match ifs, hl1, h1 with
    | [], _, h1 =>
      obtain ⟨e3, _⟩ := h1
      refine (he x M' hmem e3.symm).ew ⟨hm, hD, by rw [e1, oset_oset], ?_⟩
      rw [ht', List.filter_append, List.map_append, e2]
      simp [← e3]
    | [c], _, h1 =>
      refine TW.mono h1 fun b M1 ⟨e3, e4⟩ => ?_
      subst e3 e4
      split
      · rename_i hf
        refine (he x M1 hmem hf).ew ⟨hm, hD, by rw [e1, oset_oset], ?_⟩
        rw [ht', List.filter_append, List.map_append, e2]
        simp [hf]
      · rename_i hf
        refine ⟨hm, hD, e1, ?_⟩
        rw [ht', List.filter_append, List.map_append, e2]
        simp [hf]
  · rintro D acc M' hm ⟨hD, e1, e2⟩
    exact ⟨D, hD, rfl, by rw [e1, e2, List.take_length]⟩
theorem TD.cw {k : Bool} (h : TD F ρ M c k) : CW F ρ M [c] fun b M1 => b = k ∧ M1 = M := h
/-! ### truth -/
theorem td_truI {i : Int} (ha : ED F ρ M a (.dat (.int i))) (he : ∀ j whole, isTrue a (F.X j).env whole = (do let v ← whole; standAt a.pos; holding [v] (truthy v)) := by intro _ _; rfl) : TD F ρ M a (i != 0) := .mk fun H 𝓗 σ c hE =>
  uT.by (t := fun σ H Q => uE F a σ H fun x H' => ∃ k, TruV K x H' k ∧ Q k H') (fun j => by have q := pt_truth (X := F.X j) (pe_u (e := a) j) (he j); rw [F.eK j] at q; exact q) ((ha.run H 𝓗 σ c hE).mono fun v 𝓗1 ⟨H1, M1, r1, c1, s1, q1, e1, e2⟩ => by
    subst e1 e2
    have q1' : v = .int i := q1
    subst q1'
    exact ⟨i != 0, rfl, H1, _, c1, s1, rfl, rfl⟩)
/-! ### methods of lists -/
theorem fTy {H 𝓗 : Hp} {v : V} {s : Sl} {xs : List Sl} (c : St3 F M H 𝓗) (hl : LsOf M s xs) (q : SlOk K H v s) : tyV K "list" v 𝓗 := by
  obtain ⟨p, vs, rfl, q2, _⟩ := hl.seq c q
  exact .inl ⟨rfl, vs, q2⟩
section
variable {o : Expr} {apos : Pos} {p : Addr} {xs : List Sl}
abbrev AB (F : Fm P w K mg base N sc) (o : Expr) (x : Str) : Prop := ∀ j, attributeBase o x (F.X j).env (eval o (F.X j).env) = eval o (F.X j).env
abbrev FW (F : Fm P w K mg base N sc) (pos : Pos) (es : List Expr) : Prop := ∀ j, ((backTo pos (starEach es (F.X j).env)).all (fun x => !x.1) && (backToKw pos (keywordEach [] (F.X j).env)).all (fun x => x.1.isSome)
      && decide (es.length + ([] : List Keyword).length + (if ([] : List Keyword).isEmpty then 0 else 1) < 30)) = true
/-- a method of a list with one argument, by values -/
theorem ew_bm1 {name : Str} {id : String} {t : V → List V → Hp → VK → Prop} {s : Sl} (slot : Slot "list" name id) (hty : typeOf (.builtin id) = pure (.type "method_descriptor")) (hm : ∀ j, MtR (F.X j) id t)
    (ho : ED F ρ M o s) (hl : LsOf M s xs) (ha : EW F ρ M a fun r M1 => ∀ H 𝓗 u v (Q' : VK), St3 F M1 H 𝓗 → SlOk K H u s → SlOk K H v r → (∀ v' 𝓗', QV F H Q v' 𝓗' → Q' v' 𝓗') → t u [v] 𝓗 Q')
    (hb : AB F o name := by intro _; rfl) (hf : FW F pos [a] := by intro _; rfl) (hline : (apos.endLine == pos.line) = true := by rfl) (hs : NS F a [] := by intro _; rfl) (hpl : NP F pos [] := by intro _; rfl) : EW F ρ M (.Call (.Attribute o name apos) [a] [] pos) Q := .mk fun H 𝓗 σ c hE => by
  refine uE.by (t := tBM K "list" t (uE F o) (uA F [a])) (fun j => by have q := pe_bm (X := F.X j) PySem.F.plainAttrs_list slot hty (hm j) (pe_u (e := o) j) (pa_u (es := [a]) j) (hb j) (hf j) hline (hs j) (hpl j); rw [F.eK j] at q; exact q) ((ho.run H 𝓗 σ c hE).mono fun u 𝓗1 ⟨H1, M1, r1, c1, s1, q1, e1, e2⟩ => ?_)
  subst e1 e2
  refine ⟨fTy c1 hl q1, (aw_cons (Q := fun rs M2 => ∃ r, rs = [r] ∧ ∀ H 𝓗 u v (Q' : VK), St3 F M2 H 𝓗 → SlOk K H u r1 → SlOk K H v r → (∀ v' 𝓗', QV F H Q v' 𝓗' → Q' v' 𝓗') → t u [v] 𝓗 Q') (ha.mono fun r M2 h => aw_nil ⟨r, rfl, h⟩) hs).run H1 𝓗1 σ c1 (hE.mono s1) |>.mono fun vs 𝓗2 ⟨H2, M2, rs, c2, s2, q2, r, e3, h⟩ => ?_⟩
  subst e3
  obtain ⟨v, rfl, qv⟩ := sl1 q2
  exact h H2 𝓗2 u v _ c2 (q1.mono s2) qv fun v' 𝓗' z => z.up (s1.trans s2)
theorem ew_bm0 {name : Str} {id : String} {t : V → List V → Hp → VK → Prop} {s : Sl} (slot : Slot "list" name id) (hty : typeOf (.builtin id) = pure (.type "method_descriptor")) (hm : ∀ j, MtR (F.X j) id t)
    (ho : ED F ρ M o s) (hl : LsOf M s xs) (ha : ∀ H 𝓗 u (Q' : VK), St3 F M H 𝓗 → SlOk K H u s → (∀ v' 𝓗', QV F H Q v' 𝓗' → Q' v' 𝓗') → t u [] 𝓗 Q')
    (hb : AB F o name := by intro _; rfl) (hline : (apos.endLine == pos.line) = true := by rfl) : EW F ρ M (.Call (.Attribute o name apos) [] [] pos) Q := .mk fun H 𝓗 σ c hE => by
  refine uE.by (t := tBM0 K "list" t (uE F o)) (fun j => by have q := pe_bm0 (X := F.X j) (cpos := pos) (apos := apos) PySem.F.plainAttrs_list slot hty (hm j) (pe_u (e := o) j) (hb j) (hline := hline); rw [F.eK j] at q; exact q) ((ho.run H 𝓗 σ c hE).mono fun u 𝓗1 ⟨H1, M1, r1, c1, s1, q1, e1, e2⟩ => ?_)
  subst e1 e2
  exact ⟨fTy c1 hl q1, ha H1 𝓗1 u _ c1 q1 fun v' 𝓗' z => z.up s1⟩
/-- xs.append(e) -/
theorem ew_append (ho : ED F ρ M o (.raw (.ref p))) (hp : M p = some xs) (ha : EW F ρ M a fun s M1 => ∃ ys, M1 p = some ys ∧ ys.length ≤ 90000 ∧ Q (.dat .non) (oset M1 p (ys ++ [s])))
    (hb : AB F o "append" := by intro _; rfl) (hf : FW F pos [a] := by intro _; rfl) (hline : (apos.endLine == pos.line) = true := by rfl) (hs : NS F a [] := by intro _; rfl) (hpl : NP F pos [] := by intro _; rfl) : EW F ρ M (.Call (.Attribute o "append" apos) [a] [] pos) Q :=
  ew_bm1 PySem.F.slot_list_append PySem.F.type_list_append (fun _ => mt_append) ho (.raw hp) (ha.mono fun s M1 ⟨ys, e1, e2, q⟩ H 𝓗 u v Q' c qu qv k => by
    have qu' : u = .ref p := qu
    subst qu'
    obtain ⟨_, _, ws, w1, w2⟩ := c.o p ys e1
    exact ⟨p, ws, v, rfl, rfl, w1, sz5l (by rw [w2.length]; omega), k _ _ ⟨H, _, .dat .non, c.wr e1 (paired_append w2 (.cons qv .nil)), Same.refl H, (by show DA K H _ _; unfold DA; rfl), q⟩⟩) hb hf hline hs hpl
/-- xs.pop(i) -/
theorem ew_pop {i : Int} {k : Nat} {s : Sl} (ho : ED F ρ M o (.raw (.ref p))) (hp : M p = some xs) (ha : ED F ρ M a (.dat (.int i))) (hi : i = (k : Int)) (hk : xs[k]? = some s) (hz : xs.length ≤ 100000) (q : Q s (oset M p (xs.eraseIdx k)))
    (hb : AB F o "pop" := by intro _; rfl) (hf : FW F pos [a] := by intro _; rfl) (hline : (apos.endLine == pos.line) = true := by rfl) (hs : NS F a [] := by intro _; rfl) (hpl : NP F pos [] := by intro _; rfl) : EW F ρ M (.Call (.Attribute o "pop" apos) [a] [] pos) Q :=
  ew_bm1 PySem.F.slot_list_pop PySem.F.type_list_pop (fun _ => mt_popAt) ho (.raw hp) (ha.ew fun H 𝓗 u v Q' c qu qv kk => by
    have qu' : u = .ref p := qu
    have qv' : v = .int i := qv
    subst qu' qv' hi
    obtain ⟨_, _, ws, w1, w2⟩ := c.o p xs hp
    obtain ⟨y, y1, y2⟩ := slget w2 hk
    have hlt : k < ws.length := (List.getElem?_eq_some_iff.mp y1).1
    have hz' := w2.length
    refine ⟨p, ws, k, k, y, rfl, rfl, w1, by omega, by omega, ?_, y1, kk _ _ ⟨H, _, s, c.wr hp (paired_erase k w2), Same.refl H, y2, q⟩⟩
    exact (ixN_seq (n := ws.length) (i := (k : Int)) (by unfold ixN; rw [if_pos (by omega), if_pos (by omega)]; rfl)).1) hb hf hline hs hpl
/-- xs.reverse() -/
theorem ew_reverse (ho : ED F ρ M o (.raw (.ref p))) (hp : M p = some xs) (q : Q (.dat .non) (oset M p xs.reverse)) (hb : AB F o "reverse" := by intro _; rfl) (hline : (apos.endLine == pos.line) = true := by rfl) : EW F ρ M (.Call (.Attribute o "reverse" apos) [] [] pos) Q :=
  ew_bm0 PySem.F.slot_list_reverse PySem.F.type_list_reverse (fun _ => mt_reverse) ho (.raw hp) (fun H 𝓗 u Q' c qu k => by
    have qu' : u = .ref p := qu
    subst qu'
    obtain ⟨_, _, ws, w1, w2⟩ := c.o p xs hp
    exact ⟨p, ws, rfl, rfl, w1, k _ _ ⟨H, _, .dat .non, c.wr hp (paired_rev w2), Same.refl H, (by show DA K H _ _; unfold DA; rfl), q⟩⟩) hb hline
/-- .. where the list is what an expression gives -/
theorem ew_bm1W {name : Str} {id : String} {t : V → List V → Hp → VK → Prop} (slot : Slot "list" name id) (hty : typeOf (.builtin id) = pure (.type "method_descriptor")) (hm : ∀ j, MtR (F.X j) id t)
    (h : EW F ρ M o fun s M0 => (∃ xs, LsOf M0 s xs) ∧ EW F ρ M0 a fun r M1 => ∀ H 𝓗 u v (Q' : VK), St3 F M1 H 𝓗 → SlOk K H u s → SlOk K H v r → (∀ v' 𝓗', QV F H Q v' 𝓗' → Q' v' 𝓗') → t u [v] 𝓗 Q')
    (hb : AB F o name := by intro _; rfl) (hf : FW F pos [a] := by intro _; rfl) (hline : (apos.endLine == pos.line) = true := by rfl) (hs : NS F a [] := by intro _; rfl) (hpl : NP F pos [] := by intro _; rfl) : EW F ρ M (.Call (.Attribute o name apos) [a] [] pos) Q := .mk fun H 𝓗 σ c hE => by
  refine uE.by (t := tBM K "list" t (uE F o) (uA F [a])) (fun j => by have q := pe_bm (X := F.X j) PySem.F.plainAttrs_list slot hty (hm j) (pe_u (e := o) j) (pa_u (es := [a]) j) (hb j) (hf j) hline (hs j) (hpl j); rw [F.eK j] at q; exact q) ((h.run H 𝓗 σ c hE).mono fun u 𝓗1 ⟨H1, M1, r1, c1, s1, q1, ⟨xs, hl⟩, ha⟩ => ?_)
  refine ⟨fTy c1 hl q1, (aw_cons (Q := fun rs M2 => ∃ r, rs = [r] ∧ ∀ H 𝓗 u v (Q' : VK), St3 F M2 H 𝓗 → SlOk K H u r1 → SlOk K H v r → (∀ v' 𝓗', QV F H Q v' 𝓗' → Q' v' 𝓗') → t u [v] 𝓗 Q') (ha.mono fun r M2 h => aw_nil ⟨r, rfl, h⟩) hs).run H1 𝓗1 σ c1 (hE.mono s1) |>.mono fun vs 𝓗2 ⟨H2, M2, rs, c2, s2, q2, r, e3, h⟩ => ?_⟩
  subst e3
  obtain ⟨v, rfl, qv⟩ := sl1 q2
  exact h H2 𝓗2 u v _ c2 (q1.mono s2) qv fun v' 𝓗' z => z.up (s1.trans s2)
theorem ew_appendW (h : EW F ρ M o fun s M0 => ∃ p xs, s = .raw (.ref p) ∧ M0 p = some xs ∧ EW F ρ M0 a fun s M1 => ∃ ys, M1 p = some ys ∧ ys.length ≤ 90000 ∧ Q (.dat .non) (oset M1 p (ys ++ [s])))
    (hb : AB F o "append" := by intro _; rfl) (hf : FW F pos [a] := by intro _; rfl) (hline : (apos.endLine == pos.line) = true := by rfl) (hs : NS F a [] := by intro _; rfl) (hpl : NP F pos [] := by intro _; rfl) : EW F ρ M (.Call (.Attribute o "append" apos) [a] [] pos) Q :=
  ew_bm1W PySem.F.slot_list_append PySem.F.type_list_append (fun _ => mt_append) (h.mono fun s M0 ⟨p, xs, e0, hp, ha⟩ => ⟨⟨xs, by rw [e0]; exact .raw hp⟩, ha.mono fun s M1 ⟨ys, e1, e2, q⟩ H 𝓗 u v Q' c qu qv k => by
    subst e0
    have qu' : u = .ref p := qu
    subst qu'
    obtain ⟨_, _, ws, w1, w2⟩ := c.o p ys e1
    exact ⟨p, ws, v, rfl, rfl, w1, sz5l (by rw [w2.length]; omega), k _ _ ⟨H, _, .dat .non, c.wr e1 (paired_append w2 (.cons qv .nil)), Same.refl H, (by show DA K H _ _; unfold DA; rfl), q⟩⟩⟩) hb hf hline hs hpl
end
/-- fewer owned lists from here on -/
theorem sx_less {M' : OH} {sts : List Stmt} (h : SX F ρ M' sts D) (k : ∀ p xs, M' p = some xs → M p = some xs) : SX F ρ M sts D := .mk fun H 𝓗 σ c hE => h.run H 𝓗 σ (c.less k) hE
theorem sx_drop {sts : List Stmt} (h : SX F ρ OH0 sts D) : SX F ρ M sts D := sx_less h fun _ _ z => by cases z
/-- a call that gives a new list of data, frozen at once -/
theorem ew_callLD {k : Nat} {x : Str} {ps : List Str} {pre : List Dt → Prop} {post : List Dt → List Sl → Prop} {a : Expr} {es : List Expr} {p2 : Pos} {ds : List Dt} (G : Def P w K mg base CX0 k x ps (prL pre post))
    (ha : AD F ρ M (a :: es) (ds.map .dat)) (hp : pre ds) (q : ∀ xs, post ds xs → ∃ ds', xs = ds'.map .dat ∧ Q (.dat (.lst ds')) M) (hg : GL F x := by intro _; rfl) (hs : NS F a es := by intro _; rfl) (hpl : NP F pos es := by intro _; rfl) (hdb : (x == ("__debug__" : Str)) = false := by decide) (hk : k ≤ F.lv := by exact Nat.le_of_ble_eq_true rfl) :
    EW F ρ M (.Call (.Name x p2) (a :: es) [] pos) Q :=
  EW.freeze (ew_callL G ha hp (fun p xs h hn => by
    obtain ⟨ds', e1, e2⟩ := q xs h
    exact ⟨p, ds', rfl, by rw [oset_same, e1], by rw [odel_oset hn]; exact e2⟩) hg hs hpl hdb hk)
end
end DL
namespace K02
open PySem PySem.Spec PyProof.Rows L2 DL
def topS (i : Nat) : Stmt := PySem.Challenge.pw_barrierrow_k02_ways.main.body.getD i (.Pass ⟨0, 0, 0, 0⟩)
abbrev s_rounds : Stmt := topS 1
theorem sc_rounds : FnScope ["many", "turn"] ["many"] (defScope s_rounds) := ⟨rfl, rfl, rfl, by decide +kernel, rfl, by decide +kernel, by decide +kernel⟩
abbrev s_partner : Stmt := topS 2
theorem sc_partner : FnScope ["place", "turn", "many"] ["place", "turn", "many"] (defScope s_partner) := ⟨rfl, rfl, rfl, by decide +kernel, rfl, by decide +kernel, by decide +kernel⟩
abbrev s_way : Stmt := topS 3
theorem sc_way : FnScope ["one", "other", "many", "distance", "turn"] ["one", "other", "many"] (defScope s_way) := ⟨rfl, rfl, rfl, by decide +kernel, rfl, by decide +kernel, by decide +kernel⟩
abbrev s_l_cell_at : Stmt := topS 5
theorem sc_l_cell_at : FnScope ["_law_script", "_law_k"] ["_law_script", "_law_k"] (defScope s_l_cell_at) := ⟨rfl, rfl, rfl, by decide +kernel, rfl, by decide +kernel, by decide +kernel⟩
abbrev s_l_whole : Stmt := topS 6
theorem sc_l_whole : FnScope ["_law_found"] ["_law_found"] (defScope s_l_whole) := ⟨rfl, rfl, rfl, by decide +kernel, rfl, by decide +kernel, by decide +kernel⟩
abbrev s_l_power : Stmt := topS 7
theorem sc_l_power : FnScope ["_law_turn", "_law_found", "_law_k"] ["_law_turn"] (defScope s_l_power) := ⟨rfl, rfl, rfl, by decide +kernel, rfl, by decide +kernel, by decide +kernel⟩
abbrev s_law : Stmt := topS 8
theorem sc_law : FnScope ["_law_script", "_law_many", "_law_one", "_law_other", "_law_found", "_law_far", "_law_here", "_law_last", "_law_turn", "_law_there"] ["_law_script"] (defScope s_law) := ⟨rfl, rfl, rfl, by decide +kernel, rfl, by decide +kernel, by decide +kernel⟩
local macro_rules | `(tactic| walk_at "ev") => `(tactic| first
  | exact ed_var (i := 0) rfl
  | exact ed_var (i := 1) rfl
  | exact ed_var (i := 2) rfl
  | exact ed_var (i := 3) rfl
  | exact ed_var (i := 4) rfl
  | exact ed_var (i := 5) rfl
  | exact ed_var (i := 6) rfl
  | exact ed_var (i := 7) rfl
  | exact ed_var (i := 8) rfl
  | exact ed_var (i := 9) rfl
  | exact ed_var (i := 10) rfl
  | exact ed_var (i := 11) rfl
  | exact ed_var (i := 12) rfl
  | exact ed_var (i := 13) rfl
  | exact ed_var (i := 14) rfl
  | exact ed_var (i := 15) rfl
  | exact ed_var (i := 16) rfl
  | exact ed_var (i := 17) rfl)
local macro_rules | `(tactic| walk_at "ed") => `(tactic| first
  | exact ed_int | exact ed_str | exact ed_bl | exact ed_non
  | ((with_reducible show ED _ _ _ (Expr.Name _ _) _); walk_at "ev")
  | ((with_reducible show ED _ _ _ (Expr.BinOp _ Operator.Add _ _) _); exact ed_add (by walk_at "ed") (by walk_at "ed"))
  | ((with_reducible show ED _ _ _ (Expr.BinOp _ Operator.Sub _ _) _); exact ed_sub (by walk_at "ed") (by walk_at "ed"))
  | ((with_reducible show ED _ _ _ (Expr.BinOp _ Operator.Mult _ _) _); exact ed_mul (by walk_at "ed") (by walk_at "ed") (by first | exact .inr (by decide) | exact .inl (by omega) | exact .inr (by omega)))
  | ((with_reducible show ED _ _ _ (Expr.BinOp _ Operator.Mod _ _) _); exact ed_mod (by walk_at "ed") (by walk_at "ed") (by first | decide | omega))
  | ((with_reducible show ED _ _ _ (Expr.BinOp _ Operator.FloorDiv _ _) _); exact ed_div (by walk_at "ed") (by walk_at "ed") (by exact ⟨(by first | decide | omega), (by first | decide | omega)⟩))
  | ((with_reducible show ED _ _ _ (Expr.BinOp _ Operator.Pow _ _) _); exact ed_pow (by walk_at "ed") (by walk_at "ed") (by exact ⟨(by decide), (by decide), (by decide)⟩))
  | ((with_reducible show ED _ _ _ (Expr.UnaryOp UnaryOp.USub _ _) _); exact ed_neg (by walk_at "ed"))
  | ((with_reducible show ED _ _ _ (Expr.UnaryOp UnaryOp.Not _ _) _); exact ed_not (by walk_at "ed"))
  | ((with_reducible show ED _ _ _ (Expr.Compare _ [CmpOp.Lt] _ _) _); exact ed_lt (by walk_at "ed") (by walk_at "ed"))
  | ((with_reducible show ED _ _ _ (Expr.Compare _ [CmpOp.LtE] _ _) _); exact ed_le (by walk_at "ed") (by walk_at "ed"))
  | ((with_reducible show ED _ _ _ (Expr.Compare _ [CmpOp.Gt] _ _) _); exact ed_gt (by walk_at "ed") (by walk_at "ed"))
  | ((with_reducible show ED _ _ _ (Expr.Compare _ [CmpOp.GtE] _ _) _); exact ed_ge (by walk_at "ed") (by walk_at "ed"))
  | ((with_reducible show ED _ _ _ (Expr.Compare _ [CmpOp.Eq] _ _) _); exact ed_eqI (by walk_at "ed") (by walk_at "ed"))
  | ((with_reducible show ED _ _ _ (Expr.Compare _ [CmpOp.Eq] _ _) _); exact ed_eqS (by walk_at "ed") (by walk_at "ed"))
  | ((with_reducible show ED _ _ _ (Expr.Compare _ [CmpOp.NotEq] _ _) _); exact ed_neI (by walk_at "ed") (by walk_at "ed"))
  | ((with_reducible show ED _ _ _ (Expr.Compare _ [CmpOp.NotEq] _ _) _); exact ed_neS (by walk_at "ed") (by walk_at "ed")))
local macro_rules | `(tactic| walk_at "td") => `(tactic| first
  | ((with_reducible show TD _ _ _ (Expr.Compare _ [CmpOp.Lt] _ _) _); exact td_lt (by walk_at "ed") (by walk_at "ed"))
  | ((with_reducible show TD _ _ _ (Expr.Compare _ [CmpOp.LtE] _ _) _); exact td_le (by walk_at "ed") (by walk_at "ed"))
  | ((with_reducible show TD _ _ _ (Expr.Compare _ [CmpOp.Gt] _ _) _); exact td_gt (by walk_at "ed") (by walk_at "ed"))
  | ((with_reducible show TD _ _ _ (Expr.Compare _ [CmpOp.GtE] _ _) _); exact td_ge (by walk_at "ed") (by walk_at "ed"))
  | ((with_reducible show TD _ _ _ (Expr.Compare _ [CmpOp.Eq] _ _) _); exact td_eqI (by walk_at "ed") (by walk_at "ed"))
  | ((with_reducible show TD _ _ _ (Expr.Compare _ [CmpOp.Eq] _ _) _); exact td_eqS (by walk_at "ed") (by walk_at "ed"))
  | ((with_reducible show TD _ _ _ (Expr.Compare _ [CmpOp.NotEq] _ _) _); exact td_neI (by walk_at "ed") (by walk_at "ed"))
  | ((with_reducible show TD _ _ _ (Expr.Compare _ [CmpOp.NotEq] _ _) _); exact td_neS (by walk_at "ed") (by walk_at "ed"))
  | ((with_reducible show TD _ _ _ (Expr.UnaryOp UnaryOp.Not _ _) _); exact td_not (by walk_at "td"))
  | ((with_reducible show TD _ _ _ (Expr.BoolOp BoolOp.And _ _) _); exact td_and (by walk_at "td") (fun _ => by walk_at "wd"))
  | ((with_reducible show TD _ _ _ (Expr.BoolOp BoolOp.Or _ _) _); exact td_or (by walk_at "td") (fun _ => by walk_at "wd"))
  | ((with_reducible show TD _ _ _ (Expr.Call _ _ _ _) _); exact TD.ofB (by walk_at "ed"))
  | ((with_reducible show TD _ _ _ (Expr.Name _ _) _); exact TD.ofB (by walk_at "ed")))
local macro_rules | `(tactic| walk_at "wd") => `(tactic| first
  | exact wd_and1 (by walk_at "td")
  | exact wd_or1 (by walk_at "td")
  | ((with_reducible show WD _ _ _ (Expr.BoolOp BoolOp.And _ _) _); exact wd_and (by walk_at "td") (fun _ => by walk_at "wd"))
  | ((with_reducible show WD _ _ _ (Expr.BoolOp BoolOp.Or _ _) _); exact wd_or (by walk_at "td") (fun _ => by walk_at "wd")))
variable {P : Program} {w : World} {K : PySem.W.Frag} {mg : Str → Option Value} {base : Heap}
/-- the least count of rounds -/
def lg (n : Nat) : Nat := if h : n ≤ 1 then 0 else lg ((n + 1) / 2) + 1
termination_by n
decreasing_by omega
theorem lg_spec (n : Nat) : n ≤ 2 ^ lg n ∧ (∀ k, n ≤ 2 ^ k → lg n ≤ k) := by
  induction n using Nat.strongRecOn with
  | ind n ih =>
    unfold lg
    split
    · rename_i h
      exact ⟨by simpa using h, fun k _ => Nat.zero_le k⟩
    · rename_i h
      obtain ⟨a, b⟩ := ih ((n + 1) / 2) (by omega)
      refine ⟨by rw [Nat.pow_succ]; omega, fun k hk => ?_⟩
      cases k with
      | zero => simp at hk; omega
      | succ k =>
        have := b k (by rw [Nat.pow_succ] at hk; omega)
        omega


def prRounds : Pr := prD (fun ds => ∃ n : Nat, ds = [.int (n : Int)] ∧ 1 ≤ n ∧ n ≤ 1000) (fun ds d => ∀ n : Nat, ds = [.int (n : Int)] → d = .int (lg n : Int))
theorem d_rounds (a : At K mg "rounds" s_rounds ["many"]) : Def P w K mg base CX0 1 "rounds" ["many"] prRounds := by
  refine defA 0 a sc_rounds (fun rs M ⟨_, ds, h, n, h2, _⟩ => by subst h h2; rfl) fun f cd A outer s H E hr B0 H0 rs M ⟨hM, ds, h, n, h2, hn1, hn2⟩ => ?_
  subst hM h h2
  refine sx_cons (s_set 1 (by walk_at "ed") ?_)
  refine sx_cons (s_while (fun m ρ M => ∃ t : Nat, ρ = [.dat (.int (n : Int)), .dat (.int (t : Int))] ∧ M = OH0 ∧ t ≤ lg n ∧ m = lg n - t) (lg n) ⟨0, rfl, rfl, Nat.zero_le _, rfl⟩ ?_)
  rintro m ρ M ⟨t, rfl, rfl, ht, rfl⟩
  have hlg : lg n ≤ 10 := (lg_spec n).2 10 (by omega)
  refine TD.tw (td_lt (ed_shl ed_int (ed_var (i := 1) rfl) ⟨by omega, by omega, by decide⟩) (ed_var (i := 0) rfl)) ?_
  refine ite2 (fun h => ?_) (fun h => ?_)
  · have h1 : 2 ^ t < n := by
      have := of_decide_eq_true h
      simp at this
      exact_mod_cast this
    have h2 : t < lg n := by
      refine Nat.lt_of_not_le fun z => ?_
      have a := (lg_spec n).1
      have b : 2 ^ lg n ≤ 2 ^ t := Nat.pow_le_pow_right (by decide) z
      omega
    refine sx_one (s_augAdd 1 rfl ed_int ?_)
    exact ⟨lg n - (t + 1), by omega, t + 1, rfl, rfl, h2, rfl⟩
  · have h1 : ¬ 2 ^ t < n := fun z => h (decide_eq_true (by simp; exact_mod_cast z))
    have h2 : lg n ≤ t := (lg_spec n).2 t (by omega)
    have h3 : t = lg n := by omega
    subst h3
    refine sx_one (s_ret ((ed_var (i := 1) rfl).ew ?_))
    refine ⟨rfl, [.int n], _, rfl, rfl, fun n' e => ?_⟩
    cases e
    rfl


def prCell : Pr := prD (fun ds => ∃ (ns : List Int) (k : Nat), ds = [.scr (ns.map .int), .int (k : Int)]) (fun ds d => ∀ (ns : List Int) (k : Nat), ds = [.scr (ns.map .int), .int (k : Int)] → d = .int (ns.getD k 0))
theorem map_int_inj : ∀ {a b : List Int}, a.map Dt.int = b.map Dt.int → a = b
  | [], [], _ => rfl
  | [], _ :: _, h => by cases h
  | _ :: _, [], h => by cases h
  | x :: xs, y :: ys, h => by
    rw [List.map_cons, List.map_cons] at h
    injection h with h1 h2
    injection h1 with h1
    rw [h1, map_int_inj h2]
theorem d_cell (a : At K mg "_law_cell_at" s_l_cell_at ["_law_script", "_law_k"]) (nl : mg "len" = none) : Def P w K mg base CX0 1 "_law_cell_at" ["_law_script", "_law_k"] prCell := by
  refine defA 0 a sc_l_cell_at (fun rs M ⟨_, ds, h, n, k, h2⟩ => by subst h h2; rfl) fun f cd A outer s H E hr B0 H0 rs M ⟨hM, ds, h, ns, k, h2⟩ => ?_
  subst hM h h2
  have fin : ∀ z, z = ns.getD k 0 → prCell.post ([Dt.scr (ns.map .int), Dt.int (k : Int)].map .dat) OH0 (.dat (.int z)) OH0 := fun z e => ⟨rfl, _, _, rfl, rfl, fun ns' k' e' => by
    injection e' with e1 e2
    injection e1 with e1
    injection e2 with e2
    injection e2 with e2
    have e2 : k = k' := by omega
    rw [← map_int_inj e1, ← e2, e]⟩
  refine sx_cons (s_if (td_lt (ed_var (i := 1) rfl) (ed_len nl (ed_var (i := 0) rfl) (.l (.scr _)))) (fun h => ?_) (fun h => ?_))
  · have h1 : k < ns.length := by
      have := of_decide_eq_true h
      simp at this
      exact this
    refine sx_one (s_ret ((ed_ixL (k := k) (r := .dat (.int (ns[k]))) (ed_var (i := 0) rfl) (ed_var (i := 1) rfl) (.scr _) rfl (by simp [h1])).ew ?_))
    exact fin _ (by simp [h1])
  · have h1 : ns.length ≤ k := by
      have := of_decide_eq_false h
      simp at this
      exact this
    refine sx_nil (sx_one (s_ret (ed_int.ew ?_)))
    exact fin _ (by simp [h1])
theorem ed_cell {N : List Str} {sc : Scope} {F : Fm P w K mg base N sc} {ρ : Rho} {M : OH} {a b : Expr} {pos p2 : Pos} {ns : List Int} {k : Int} (C : Def P w K mg base CX0 1 "_law_cell_at" ["_law_script", "_law_k"] prCell) (ha : ED F ρ M a (.dat (.scr (ns.map .int)))) (hb : ED F ρ M b (.dat (.int k))) (h0 : 0 ≤ k)
    (hg : GL F "_law_cell_at" := by intro _; rfl) (hs : NS F a [b] := by intro _; rfl) (hs2 : NS F b [] := by intro _; rfl) (hpl : NP F pos [b] := by intro _; rfl) (hk : 1 ≤ F.lv := by exact Nat.le_of_ble_eq_true rfl) : ED F ρ M (.Call (.Name "_law_cell_at" p2) [a, b] [] pos) (.dat (.int (ns.getD k.toNat 0))) := by
  have e : k = ((k.toNat : Nat) : Int) := by omega
  refine ew_callD (ds := [.scr (ns.map .int), .int k]) C (ad_cons ha (ad_cons hb ad_nil hs2) hs) ⟨ns, k.toNat, by rw [← e]⟩ (fun d hd => ?_) hg hs hpl (hk := hk)
  rw [hd ns k.toNat (by rw [← e])]
  exact ⟨rfl, rfl⟩

def isI : Dt → Bool
  | .int _ => true
  | _ => false
def tyD (d : Dt) : Prop := ∃ T, tyS OH0 (.dat d) = some T
def prWhole : Pr := prD (fun ds => ∃ d, ds = [d] ∧ tyD d) (fun ds d => ∀ x, ds = [x] → d = .bl (isI x))
theorem d_whole (a : At K mg "_law_whole" s_l_whole ["_law_found"]) (n1 : mg "isinstance" = none) (n2 : mg "int" = none) (n3 : mg "bool" = none) : Def P w K mg base CX0 1 "_law_whole" ["_law_found"] prWhole := by
  refine defA 0 a sc_l_whole (fun rs M ⟨_, ds, h, d, h2, _⟩ => by subst h h2; rfl) fun f cd A outer s H E hr B0 H0 rs M ⟨hM, ds, h, d, h2, T, hT⟩ => ?_
  subst hM h h2
  have fin : ∀ z, z = isI d → prWhole.post ([d].map .dat) OH0 (.dat (.bl z)) OH0 := fun z e => ⟨rfl, _, _, rfl, rfl, fun x e' => by
    injection e' with e1 _
    rw [← e1, e]⟩
  have go : ∀ k l, kitB T "int" = some k → kitB T "bool" = some l → (k && !l) = isI d → SX (fm0 P w K mg base sc_l_whole "_law_whole" f cd A outer s H E 0 hr B0 H0) (startR ["_law_found"] ([d].map .dat)) OH0 (defBody s_l_whole) { nx := fun _ M' => prWhole.post ([d].map .dat) OH0 (.dat .non) M', rt := fun r M' => prWhole.post ([d].map .dat) OH0 r M' } := fun k l hk hl e => by
    refine sx_one (s_ret ((ed_and (ed_isi n1 (ed_var (i := 0) rfl) hT n2 hk) fun _ => ed_one (ed_not (ed_isi n1 (ed_var (i := 0) rfl) hT n3 hl))).ew (fin _ e)))
  cases d <;> cases hT <;> first | exact go false false (by decide +kernel) (by decide +kernel) rfl | exact go true true (by decide +kernel) (by decide +kernel) rfl | exact go true false (by decide +kernel) (by decide +kernel) rfl

theorem ed_wholeI {N : List Str} {sc : Scope} {F : Fm P w K mg base N sc} {ρ : Rho} {M : OH} {a : Expr} {pos p2 : Pos} {i : Int} (W : Def P w K mg base CX0 1 "_law_whole" ["_law_found"] prWhole) (ha : ED F ρ M a (.dat (.int i)))
    (hg : GL F "_law_whole" := by intro _; rfl) (hs : NS F a [] := by intro _; rfl) (hpl : NP F pos [] := by intro _; rfl) (hk : 1 ≤ F.lv := by exact Nat.le_of_ble_eq_true rfl) : ED F ρ M (.Call (.Name "_law_whole" p2) [a] [] pos) (.dat (.bl true)) :=
  ed_F (ds := [.int i]) (.bl true) W (ad_cons ha ad_nil hs) ⟨_, rfl, "int", rfl⟩ (fun d hd => hd _ rfl) hg hs hpl (hk := hk)

local macro_rules | `(tactic| walk_at "ev") => `(tactic| first
  | exact ed_var (i := 0) rfl
  | exact ed_var (i := 1) rfl
  | exact ed_var (i := 2) rfl
  | exact ed_var (i := 3) rfl
  | exact ed_var (i := 4) rfl
  | exact ed_var (i := 5) rfl
  | exact ed_var (i := 6) rfl
  | exact ed_var (i := 7) rfl
  | exact ed_var (i := 8) rfl
  | exact ed_var (i := 9) rfl
  | exact ed_var (i := 10) rfl
  | exact ed_var (i := 11) rfl
  | exact ed_var (i := 12) rfl
  | exact ed_var (i := 13) rfl
  | exact ed_var (i := 14) rfl
  | exact ed_var (i := 15) rfl
  | exact ed_var (i := 16) rfl
  | exact ed_var (i := 17) rfl)
local macro_rules | `(tactic| walk_at "ed") => `(tactic| first
  | exact ed_int | exact ed_str | exact ed_bl | exact ed_non
  | ((with_reducible show ED _ _ _ (Expr.Name _ _) _); walk_at "ev")
  | ((with_reducible show ED _ _ _ (Expr.Call (Expr.Name (Str.ofString "_law_cell_at") _) _ _ _) _); exact ed_cell (by assumption) (by walk_at "ev") (by walk_at "ed") (by first | decide | omega))
  | ((with_reducible show ED _ _ _ (Expr.Call (Expr.Name (Str.ofString "_law_whole") _) _ _ _) _); exact ed_wholeI (by assumption) (by walk_at "ed"))
  | ((with_reducible show ED _ _ _ (Expr.Call (Expr.Name (Str.ofString "isinstance") _) _ _ _) _); exact ed_isi (by assumption) (by walk_at "ev") rfl (by assumption) (by decide +kernel))
  | ((with_reducible show ED _ _ _ (Expr.Call (Expr.Name (Str.ofString "len") _) _ _ _) _); exact ed_len (by assumption) (by walk_at "ev") (by first | exact .l (.dat _) | exact .l (.scr _) | exact .t _))
  | ((with_reducible show ED _ _ _ (Expr.BinOp _ Operator.Add _ _) _); exact ed_add (by walk_at "ed") (by walk_at "ed"))
  | ((with_reducible show ED _ _ _ (Expr.BinOp _ Operator.Sub _ _) _); exact ed_sub (by walk_at "ed") (by walk_at "ed"))
  | ((with_reducible show ED _ _ _ (Expr.BinOp _ Operator.Mult _ _) _); exact ed_mul (by walk_at "ed") (by walk_at "ed") (by first | exact .inr (by decide) | exact .inl (by omega) | exact .inr (by omega)))
  | ((with_reducible show ED _ _ _ (Expr.BinOp _ Operator.Mod _ _) _); exact ed_mod (by walk_at "ed") (by walk_at "ed") (by first | decide | omega))
  | ((with_reducible show ED _ _ _ (Expr.BinOp _ Operator.FloorDiv _ _) _); exact ed_div (by walk_at "ed") (by walk_at "ed") (by exact ⟨(by first | decide | omega), (by first | decide | omega)⟩))
  | ((with_reducible show ED _ _ _ (Expr.BinOp _ Operator.Pow _ _) _); exact ed_pow (by walk_at "ed") (by walk_at "ed") (by exact ⟨(by decide), (by decide), (by decide)⟩))
  | ((with_reducible show ED _ _ _ (Expr.UnaryOp UnaryOp.USub _ _) _); exact ed_neg (by walk_at "ed"))
  | ((with_reducible show ED _ _ _ (Expr.UnaryOp UnaryOp.Not _ _) _); exact ed_not (by walk_at "ed"))
  | ((with_reducible show ED _ _ _ (Expr.Compare _ [CmpOp.Lt] _ _) _); exact ed_lt (by walk_at "ed") (by walk_at "ed"))
  | ((with_reducible show ED _ _ _ (Expr.Compare _ [CmpOp.LtE] _ _) _); exact ed_le (by walk_at "ed") (by walk_at "ed"))
  | ((with_reducible show ED _ _ _ (Expr.Compare _ [CmpOp.Gt] _ _) _); exact ed_gt (by walk_at "ed") (by walk_at "ed"))
  | ((with_reducible show ED _ _ _ (Expr.Compare _ [CmpOp.GtE] _ _) _); exact ed_ge (by walk_at "ed") (by walk_at "ed"))
  | ((with_reducible show ED _ _ _ (Expr.Compare _ [CmpOp.Eq] _ _) _); exact ed_eqI (by walk_at "ed") (by walk_at "ed"))
  | ((with_reducible show ED _ _ _ (Expr.Compare _ [CmpOp.Eq] _ _) _); exact ed_eqS (by walk_at "ed") (by walk_at "ed"))
  | ((with_reducible show ED _ _ _ (Expr.Compare _ [CmpOp.NotEq] _ _) _); exact ed_neI (by walk_at "ed") (by walk_at "ed"))
  | ((with_reducible show ED _ _ _ (Expr.Compare _ [CmpOp.NotEq] _ _) _); exact ed_neS (by walk_at "ed") (by walk_at "ed")))
local macro_rules | `(tactic| walk_at "td") => `(tactic| first
  | ((with_reducible show TD _ _ _ (Expr.Compare _ [CmpOp.Lt] _ _) _); exact td_lt (by walk_at "ed") (by walk_at "ed"))
  | ((with_reducible show TD _ _ _ (Expr.Compare _ [CmpOp.LtE] _ _) _); exact td_le (by walk_at "ed") (by walk_at "ed"))
  | ((with_reducible show TD _ _ _ (Expr.Compare _ [CmpOp.Gt] _ _) _); exact td_gt (by walk_at "ed") (by walk_at "ed"))
  | ((with_reducible show TD _ _ _ (Expr.Compare _ [CmpOp.GtE] _ _) _); exact td_ge (by walk_at "ed") (by walk_at "ed"))
  | ((with_reducible show TD _ _ _ (Expr.Compare _ [CmpOp.Eq] _ _) _); exact td_eqI (by walk_at "ed") (by walk_at "ed"))
  | ((with_reducible show TD _ _ _ (Expr.Compare _ [CmpOp.Eq] _ _) _); exact td_eqS (by walk_at "ed") (by walk_at "ed"))
  | ((with_reducible show TD _ _ _ (Expr.Compare _ [CmpOp.NotEq] _ _) _); exact td_neI (by walk_at "ed") (by walk_at "ed"))
  | ((with_reducible show TD _ _ _ (Expr.Compare _ [CmpOp.NotEq] _ _) _); exact td_neS (by walk_at "ed") (by walk_at "ed"))
  | ((with_reducible show TD _ _ _ (Expr.UnaryOp UnaryOp.Not _ _) _); exact td_not (by walk_at "td"))
  | ((with_reducible show TD _ _ _ (Expr.BoolOp BoolOp.And _ _) _); exact td_and (by walk_at "td") (fun _ => by walk_at "wd"))
  | ((with_reducible show TD _ _ _ (Expr.BoolOp BoolOp.Or _ _) _); exact td_or (by walk_at "td") (fun _ => by walk_at "wd"))
  | ((with_reducible show TD _ _ _ (Expr.Call _ _ _ _) _); exact TD.ofB (by walk_at "ed"))
  | ((with_reducible show TD _ _ _ (Expr.Name _ _) _); exact TD.ofB (by walk_at "ed")))
local macro_rules | `(tactic| walk_at "wd") => `(tactic| first
  | exact wd_and1 (by walk_at "td")
  | exact wd_or1 (by walk_at "td")
  | ((with_reducible show WD _ _ _ (Expr.BoolOp BoolOp.And _ _) _); exact wd_and (by walk_at "td") (fun _ => by walk_at "wd"))
  | ((with_reducible show WD _ _ _ (Expr.BoolOp BoolOp.Or _ _) _); exact wd_or (by walk_at "td") (fun _ => by walk_at "wd")))

/-! ### the mathematics of ways -/
def bits (d R : Nat) : List Nat := (List.range R).filter fun t => d / 2 ^ t % 2 != 0
theorem bits_succ (d R : Nat) : bits d (R + 1) = bits d R ++ if d / 2 ^ R % 2 != 0 then [R] else [] := by
  unfold bits
  rw [List.range_succ, List.filter_append]
  simp only [List.filter_cons, List.filter_nil]
theorem bits_sum (d : Nat) : ∀ R, ((bits d R).map (2 ^ ·)).sum = d % 2 ^ R
  | 0 => by simp [bits, Nat.mod_one]
  | R + 1 => by
    rw [bits_succ, List.map_append, List.sum_append, bits_sum d R, Nat.pow_succ, Nat.mod_mul]
    have : d / 2 ^ R % 2 = 0 ∨ d / 2 ^ R % 2 = 1 := by omega
    rcases this with h | h <;> simp [h]
theorem bits_mem {d R t : Nat} (h : t ∈ bits d R) : t < R ∧ 2 ^ t ≤ d := by
  unfold bits at h
  rw [List.mem_filter, List.mem_range] at h
  refine ⟨h.1, ?_⟩
  have h2 : d / 2 ^ t % 2 ≠ 0 := by simpa using h.2
  refine Nat.le_of_not_lt fun z => h2 ?_
  rw [Nat.div_eq_of_lt z]
theorem bits_rise (d R : Nat) : (bits d R).Pairwise (· < ·) := by
  unfold bits
  exact List.Pairwise.filter _ List.pairwise_lt_range
theorem rise_at {l : List Nat} (h : l.Pairwise (· < ·)) {i a b : Nat} (h1 : l[i]? = some a) (h2 : l[i + 1]? = some b) : a < b := by
  obtain ⟨l1, e1⟩ := List.getElem?_eq_some_iff.mp h1
  obtain ⟨l2, e2⟩ := List.getElem?_eq_some_iff.mp h2
  have := List.pairwise_iff_getElem.mp h i (i + 1) l1 l2 (by omega)
  rw [e1, e2] at this
  exact this
theorem mod1 (x : Nat) : Builtin.bitAnd (x : Int) 1 != 0 ↔ x % 2 != 0 := by
  rw [PyProof.Rows.bitAnd_m1]
  simp
  omega
def prPartner : Pr := prD (fun ds => ∃ p t n : Nat, ds = [.int (p : Int), .int (t : Int), .int (n : Int)] ∧ t ≤ 20 ∧ 1 ≤ n) (fun ds d => ∀ p t n : Nat, ds = [.int (p : Int), .int (t : Int), .int (n : Int)] → d = .int (((p + 2 ^ t) % n : Nat) : Int))
theorem d_partner (a : At K mg "partner" s_partner ["place", "turn", "many"]) : Def P w K mg base CX0 1 "partner" ["place", "turn", "many"] prPartner := by
  refine defA 0 a sc_partner (fun rs M ⟨_, ds, h, p, t, n, h2, _⟩ => by subst h h2; rfl) fun f cd A outer s H E hr B0 H0 rs M ⟨hM, ds, h, p, t, n, h2, ht, hn⟩ => ?_
  subst hM h h2
  refine sx_one (s_ret (ED.ew (ed_mod (ed_add (ed_var (i := 0) rfl) (ed_shl ed_int (ed_var (i := 1) rfl) ⟨by omega, by omega, by decide⟩)) (ed_var (i := 2) rfl) (by omega)) ⟨rfl, _, _, rfl, rfl, fun p' t' n' e => ?_⟩))
  injection e with e1 e
  injection e with e2 e
  injection e with e3 e
  injection e1 with e1
  injection e2 with e2
  injection e3 with e3
  have e1 : p = p' := by omega
  have e2 : t = t' := by omega
  have e3 : n = n' := by omega
  subst e1 e2 e3
  simp
def prWay : Pr := prL (fun ds => ∃ a b n : Nat, ds = [.int (a : Int), .int (b : Int), .int (n : Int)] ∧ 1 ≤ n ∧ n ≤ 1000) (fun ds xs => ∀ a b n : Nat, ds = [.int (a : Int), .int (b : Int), .int (n : Int)] → xs = (bits (((b : Int) - (a : Int)) % (n : Int)).toNat (lg n)).map fun t : Nat => .dat (.int (t : Int)))
theorem d_way (a : At K mg "way" s_way ["one", "other", "many"]) (nr : mg "range" = none) (R : Def P w K mg base CX0 1 "rounds" ["many"] prRounds) : Def P w K mg base CX0 2 "way" ["one", "other", "many"] prWay := by
  refine defA 1 a sc_way (fun rs M ⟨_, ds, h, p, t, n, h2, _⟩ => by subst h h2; rfl) fun f cd A outer s H E hr B0 H0 rs M ⟨hM, ds, h, p, t, n, h2, hn1, hn2⟩ => ?_
  subst hM h h2
  refine sx_cons (s_set 3 (ed_mod (ed_sub (ed_var (i := 1) rfl) (ed_var (i := 0) rfl)) (ed_var (i := 2) rfl) (by omega)) ?_)
  have e0 : ((t : Int) - (p : Int)) % (n : Int) = (((((t : Int) - (p : Int)) % (n : Int)).toNat : Nat) : Int) := by
    rw [Int.toNat_of_nonneg (Int.emod_nonneg _ (by omega))]
  rw [e0]
  generalize hd : (((t : Int) - (p : Int)) % (n : Int)).toNat = d
  have hlg : lg n ≤ 10 := (lg_spec n).2 10 (by omega)
  refine sx_one (s_ret (EL.ew (el_lcR (own := [("turn", 4)]) (lg n) (fun k => d / 2 ^ k % 2 != 0) (fun k => .dat (.int (k : Int))) nr (by decide)
    (ed_F (ds := [.int (n : Int)]) (.int (lg n : Int)) R (ad_cons (ed_var (i := 2) rfl) ad_nil) ⟨n, rfl, hn1, hn2⟩ fun d hd => hd n rfl) rfl (by omega)
    (tg_name (j := 4) (by decide) (by decide +kernel) (by intro _; first | exact Or.inl rfl | exact Or.inr rfl) (by intro _; first | exact .inl rfl | exact .inr rfl)) (blkOk_by (by decide +kernel)) (fun k M' hk => TD.cw ?_) (fun k M' hk _ => ed_var (i := 4) rfl)) ?_))
  · refine (td_truI (ed_and2 (ed_shr (ed_var (i := 3) rfl) (ed_var (i := 4) rfl) (by omega)) ed_int)).to ?_
    have : ((d : Int) / 2 ^ ((k : Int)).toNat) = ((d / 2 ^ k : Nat) : Int) := by simp
    rw [this]
    exact Bool.eq_iff_iff.mpr (mod1 _)
  · intro q hq
    refine ⟨_, q, _, rfl, rfl, rfl, fun a b n' e => ?_⟩
    injection e with e1 e
    injection e with e2 e
    injection e with e3 e
    injection e1 with e1
    injection e2 with e2
    injection e3 with e3
    have e1 : p = a := by omega
    have e2 : t = b := by omega
    have e3 : n = n' := by omega
    subst e1 e2 e3
    rw [hd]
    rfl
def prPow : Pr := prD (fun ds => ∃ t : Nat, ds = [.int (t : Int)] ∧ t ≤ 50) (fun ds d => ∀ t : Nat, ds = [.int (t : Int)] → d = .int ((2 ^ t : Nat) : Int))
theorem d_pow (a : At K mg "_law_power" s_l_power ["_law_turn"]) (nr : mg "range" = none) : Def P w K mg base CX0 1 "_law_power" ["_law_turn"] prPow := by
  refine defA 0 a sc_l_power (fun rs M ⟨_, ds, h, t, h2, _⟩ => by subst h h2; rfl) fun f cd A outer s H E hr B0 H0 rs M ⟨hM, ds, h, t, h2, ht⟩ => ?_
  subst hM h h2
  refine sx_cons (s_set 1 (by walk_at "ed") ?_)
  refine sx_cons (s_forR 2 t (fun k ρ' M' => ∃ r : Sl, ρ' = [.dat (.int (t : Int)), .dat (.int ((2 ^ k : Nat) : Int)), r] ∧ M' = OH0) nr (by walk_at "ed") rfl (by omega) ⟨_, rfl, rfl⟩ ?_ ?_)
  · rintro k ρ' M' hk ⟨r, rfl, rfl⟩
    refine sx_one (s_set 1 (by walk_at "ed") ⟨.dat (.int (k : Int)), ?_, rfl⟩)
    show [_, _, _] = [_, _, _]
    rw [Nat.pow_succ]
    simp
    omega
  · rintro ρ' M' ⟨r, rfl, rfl⟩
    refine sx_one (s_ret (ED.ew (by walk_at "ed") ⟨rfl, _, _, rfl, rfl, fun t' e => ?_⟩))
    injection e with e1 e
    injection e1 with e1
    have e1 : t = t' := by omega
    rw [e1]
theorem sum_take {l : List Nat} {k t : Nat} (h : l[k]? = some t) (f : Nat → Nat) : ((l.take (k + 1)).map f).sum = ((l.take k).map f).sum + f t := by
  rw [List.take_add_one, h]
  simp
theorem ok_law {f : Addr} {fd : FuncData} (Fd : Fun K "law" "law" s_law f fd) (nl : mg "len" = none) (n1 : mg "isinstance" = none) (n2 : mg "list" = none) (C : Def P w K mg base CX0 1 "_law_cell_at" ["_law_script", "_law_k"] prCell) (Wh : Def P w K mg base CX0 1 "_law_whole" ["_law_found"] prWhole)
    (Pa : Def P w K mg base CX0 1 "partner" ["place", "turn", "many"] prPartner) (Wa : Def P w K mg base CX0 2 "way" ["one", "other", "many"] prWay) (Po : Def P w K mg base CX0 1 "_law_power" ["_law_turn"] prPow) : FnOk P w K mg base CX0 3 f fd ["_law_script"] (spM K prLaw) := by
  refine fn0 Fd sc_law (fun rs M ⟨_, ns, h, _⟩ => by subst h; rfl) fun cd A outer s H E hr B0 H0 rs M ⟨hM, ns, h, hl⟩ => ?_
  subst hM h
  have start : startR ["_law_script", "_law_many", "_law_one", "_law_other", "_law_found", "_law_far", "_law_here", "_law_last", "_law_turn", "_law_there"] [.dat (.scr (ns.map .int))] = [.dat (.scr (ns.map .int)), .un, .un, .un, .un, .un, .un, .un, .un, .un] := rfl
  rw [start]
  refine sx_cons (s_set 1 (by walk_at "ed") ?_)
  refine sx_cut (fun ρ' M' => ∃ n : Nat, ρ' = [.dat (.scr (ns.map .int)), .dat (.int (n : Int)), .un, .un, .un, .un, .un, .un, .un, .un] ∧ M' = OH0 ∧ 1 ≤ n ∧ n ≤ 1000) (s_if (by walk_at "td") (fun _ => ?_) (fun _ => ?_)) ?_
  · refine sx_one (s_set 1 (by walk_at "ed") ⟨(1 + ns.getD 1 0 % 1000).toNat, ?_, rfl, by omega, by omega⟩)
    rw [Int.toNat_of_nonneg (by omega)]
    rfl
  · refine sx_nil ⟨(1 + ns.getD 1 0 % 40).toNat, ?_, rfl, by omega, by omega⟩
    rw [Int.toNat_of_nonneg (by omega)]
    rfl
  rintro ρ' M' ⟨n, rfl, rfl, hn1, hn2⟩
  refine sx_cons (s_set 2 (by walk_at "ed") ?_)
  refine sx_cons (s_set 3 (by walk_at "ed") ?_)
  have toN : ∀ c : Int, c % (n : Int) = (((c % (n : Int)).toNat : Nat) : Int) ∧ (c % (n : Int)).toNat < n := fun c => by
    have h1 := Int.emod_nonneg c (show (n : Int) ≠ 0 by omega)
    have h2 := Int.emod_lt_of_pos c (show (0 : Int) < n by omega)
    omega
  refine sx_cut (fun ρ' M' => ∃ a b : Nat, ρ' = [.dat (.scr (ns.map .int)), .dat (.int (n : Int)), .dat (.int (a : Int)), .dat (.int (b : Int)), .un, .un, .un, .un, .un, .un] ∧ M' = OH0 ∧ a < n ∧ b < n) (s_if (by walk_at "td") (fun _ => ?_) (fun _ => ?_)) ?_
  · refine sx_one (s_set 3 (by walk_at "ed") ⟨(ns.getD (Int.toNat 2) 0 % (n : Int)).toNat, (ns.getD (Int.toNat 2) 0 % (n : Int)).toNat, ?_, rfl, (toN _).2, (toN _).2⟩)
    rw [← (toN _).1]
    rfl
  · refine sx_nil ⟨(ns.getD (Int.toNat 2) 0 % (n : Int)).toNat, (ns.getD (Int.toNat 3) 0 % (n : Int)).toNat, ?_, rfl, (toN _).2, (toN _).2⟩
    rw [← (toN _).1, ← (toN _).1]
    rfl
  rintro ρ' M' ⟨a, b, rfl, rfl, ha, hb⟩
  have wpre : ∃ a' b' n' : Nat, [Dt.int (a : Int), Dt.int (b : Int), Dt.int (n : Int)] = [.int (a' : Int), .int (b' : Int), .int (n' : Int)] ∧ 1 ≤ n' ∧ n' ≤ 1000 := ⟨a, b, n, rfl, hn1, hn2⟩
  refine sx_cons (s_expr (ew_appendW (ew_callL (ds := [.int (a : Int), .int (b : Int), .int (n : Int)]) Wa (ad_cons (by walk_at "ed") (ad_cons (by walk_at "ed") (ad_cons (by walk_at "ed") ad_nil))) wpre fun p xs hx hp => ?_)))
  refine ⟨p, xs, rfl, oset_same, ED.ew (by walk_at "ed") ⟨xs, oset_same, ?_, sx_drop ?_⟩⟩
  · rw [hx a b n rfl]
    have h1 : (lg n) ≤ 10 := (lg_spec n).2 10 (by omega)
    have h2 := List.length_filter_le (fun t => ((((b : Int) - (a : Int)) % (n : Int)).toNat) / 2 ^ t % 2 != 0) (List.range (lg n))
    rw [List.length_range] at h2
    rw [List.length_map]
    unfold bits
    omega
  clear hx hp p xs
  generalize hd : (((b : Int) - (a : Int)) % (n : Int)).toNat = d
  have hd0 : ((b : Int) - (a : Int)) % (n : Int) = (d : Int) := by rw [← hd, ← (toN _).1]
  have hdn : d < n := by rw [← hd]; exact (toN _).2
  have hdsum : ((bits d (lg n)).map (2 ^ ·)).sum = d := by
    rw [bits_sum]
    exact Nat.mod_eq_of_lt (Nat.lt_of_lt_of_le hdn (lg_spec n).1)
  refine sx_cons (s_setW 4 (ew_callLD (ds := [.int (a : Int), .int (b : Int), .int (n : Int)]) Wa (ad_cons (by walk_at "ed") (ad_cons (by walk_at "ed") (ad_cons (by walk_at "ed") ad_nil))) wpre fun xs hx => ⟨(bits d (lg n)).map fun t : Nat => .int (t : Int), ?_, ?_⟩))
  · rw [hx a b n rfl, hd, List.map_map]
    rfl
  refine sx_cons (s_if (k := !true) (td_not (TD.ofB (ed_isi (k := true) n1 (by walk_at "ed") rfl n2 (by decide +kernel)))) (fun z => by cases z) fun _ => sx_nil ?_)
  refine sx_cons (s_set 5 (by walk_at "ed") ?_)
  refine sx_cons (s_set 6 (by walk_at "ed") ?_)
  refine sx_cons (s_set 7 (by walk_at "ed") ?_)
  generalize hbs : bits d (lg n) = bs
  have mem : ∀ {k t : Nat}, bs[k]? = some t → t < lg n ∧ 2 ^ t ≤ d := fun {k t} h => bits_mem (by rw [hbs]; exact List.mem_of_getElem? h)
  have hlg : lg n ≤ 10 := (lg_spec n).2 10 (by omega)
  refine sx_cut (fun ρ' M' => ∃ l r1 r2, ρ' = [.dat (.scr (ns.map .int)), .dat (.int (n : Int)), .dat (.int (a : Int)), .dat (.int (b : Int)), .dat (.lst (bs.map fun t : Nat => .int (t : Int))), .dat (.int (d : Int)), .dat (.int (((a + d) % n : Nat) : Int)), l, r1, r2] ∧ M' = OH0)
    (s_forL 8 (fun k ρ' M' => ∃ (l : Int) (r1 r2 : Sl), ρ' = [.dat (.scr (ns.map .int)), .dat (.int (n : Int)), .dat (.int (a : Int)), .dat (.int (b : Int)), .dat (.lst (bs.map fun t : Nat => .int (t : Int))), .dat (.int ((((bs.take k).map (2 ^ ·)).sum : Nat) : Int)), .dat (.int (((a + ((bs.take k).map (2 ^ ·)).sum) % n : Nat) : Int)), .dat (.int l), r1, r2] ∧ M' = OH0 ∧ (k = 0 ∧ l = -1 ∨ ∃ j t, k = j + 1 ∧ bs[j]? = some t ∧ l = (t : Int)))
      (by walk_at "ed") (.lst _) ⟨-1, .un, .un, ?_, rfl, .inl ⟨rfl, rfl⟩⟩ ?_ ?_) ?_
  · show [_, _, _, _, _, _, _, _, _, _] = [_, _, _, _, _, _, _, _, _, _]
    simp [Nat.mod_eq_of_lt ha]
  · rintro k r ρ' M' hk ⟨l, r1, r2, rfl, rfl, hl⟩
    obtain ⟨t, ht, rfl⟩ : ∃ t : Nat, bs[k]? = some t ∧ r = .int (t : Int) := by
      rw [List.getElem?_map] at hk
      cases e : bs[k]? with
      | none => rw [e] at hk; cases hk
      | some t => rw [e] at hk; exact ⟨t, rfl, (Option.some.inj hk).symm⟩
    obtain ⟨ht1, ht2⟩ := mem ht
    have hlt : l < (t : Int) := by
      rcases hl with ⟨_, rfl⟩ | ⟨j, t0, rfl, h0, rfl⟩
      · omega
      · have := rise_at (by rw [← hbs]; exact bits_rise d (lg n)) h0 ht
        omega
    have hpt : 2 ^ t < n := by omega
    have pw : ∀ {ρ : Rho} {M : OH} {p2 pos q}, ρ[8]? = some (.dat (.int (t : Int))) → ED (fm0 P w K mg base sc_law "law" f cd A outer s H E 2 hr B0 H0) ρ M (.Call (.Name "_law_power" p2) [.Name "_law_turn" q] [] pos) (.dat (.int ((2 ^ t : Nat) : Int))) := fun h =>
      ed_F (ds := [.int (t : Int)]) _ Po (ad_cons (ed_var (i := 8) h) ad_nil) ⟨t, rfl, by omega⟩ fun d hd => hd t rfl
    refine sx_cons (s_if (k := !true || (decide ((t : Int) ≤ l) || decide ((n : Int) ≤ ((2 ^ t : Nat) : Int)))) (td_or (by walk_at "td") fun _ => wd_or (by walk_at "td") fun _ => wd_or1 (td_ge (pw rfl) (by walk_at "ed"))) (fun z => ?_) fun _ => sx_nil ?_)
    · rw [decide_eq_false (by omega), decide_eq_false (by omega)] at z
      cases z
    refine sx_cons (s_set 5 (ed_add (by walk_at "ed") (pw rfl)) ?_)
    generalize hS : ((bs.take k).map (2 ^ ·)).sum = S
    have eS : ((bs.take (k + 1)).map (2 ^ ·)).sum = S + 2 ^ t := by rw [sum_take ht, hS]
    refine sx_cons (s_set 9 (ed_F (ds := [.int (((a + S) % n : Nat) : Int), .int (t : Int), .int (n : Int)]) _ Pa (ad_cons (by walk_at "ed") (ad_cons (by walk_at "ed") (ad_cons (by walk_at "ed") ad_nil))) ⟨_, t, n, rfl, by omega, hn1⟩ fun d hd => hd _ t n rfl) ?_)
    refine sx_cons (s_if (k := !true || !decide (((((a + S) % n + 2 ^ t) % n : Nat) : Int) = ((((a + S) % n : Nat) : Int) + ((2 ^ t : Nat) : Int)) % (n : Int))) (td_or (by walk_at "td") fun _ => wd_or1 (td_neI (by walk_at "ed") (ed_mod (ed_add (by walk_at "ed") (pw rfl)) (by walk_at "ed") (by omega)))) (fun z => ?_) fun _ => sx_nil ?_)
    · rw [decide_eq_true (by rw [Int.natCast_emod, Int.natCast_add])] at z
      cases z
    refine sx_cons (s_set 6 (by walk_at "ed") ?_)
    refine sx_one (s_set 7 (by walk_at "ed") ⟨(t : Int), .dat (.int (t : Int)), .dat (.int ((((a + S) % n + 2 ^ t) % n : Nat) : Int)), ?_, rfl, .inr ⟨k, t, rfl, ht, rfl⟩⟩)
    have e1 : ((S : Nat) : Int) + ((2 ^ t : Nat) : Int) = ((S + 2 ^ t : Nat) : Int) := (Int.natCast_add _ _).symm
    have e2 : ((a + S) % n + 2 ^ t) % n = (a + (S + 2 ^ t)) % n := by rw [Nat.mod_add_mod, Nat.add_assoc]
    rw [eS, e1, e2]
    rfl
  · rintro ρ' M' ⟨l, r1, r2, rfl, rfl, _⟩
    refine ⟨.dat (.int l), r1, r2, ?_, rfl⟩
    rw [List.length_map, List.take_length, ← hbs, hdsum]
  rintro ρ' M' ⟨l, r1, r2, rfl, rfl⟩
  have hgo : (a + d) % n = b := by
    have h1 : ((a : Int) + (d : Int)) % (n : Int) = (b : Int) := by
      rw [← hd0, Int.add_emod_emod]
      have e : (a : Int) + ((b : Int) - (a : Int)) = (b : Int) := by omega
      rw [e]
      exact Int.emod_eq_of_lt (by omega) (by omega)
    have h2 : (((a + d) % n : Nat) : Int) = (b : Int) := by rw [Int.natCast_emod, Int.natCast_add]; exact h1
    omega
  rw [hgo]
  refine sx_cons (s_if (k := !decide ((b : Int) = (b : Int)) || !decide ((d : Int) = ((b : Int) - (a : Int)) % (n : Int))) (td_or (by walk_at "td") fun _ => by walk_at "wd") (fun z => ?_) fun _ => sx_nil ?_)
  · rw [decide_eq_true rfl, decide_eq_true hd0.symm] at z
    cases z
  refine sx_cons (s_if (by walk_at "td") (fun z => ?_) fun z => sx_nil ?_)
  · have hn : n = 1 := by
      have := of_decide_eq_true z
      omega
    subst hn
    have : bs = [] := by
      rw [← hbs]
      have : lg 1 = 0 := by simp [lg]
      rw [this]
      rfl
    subst this
    refine sx_one (s_ret (ED.ew (by walk_at "ed") ?_))
    rfl
  have hn : 2 ≤ n := by
    have := of_decide_eq_false z
    omega
  refine sx_cons (s_set 8 (by walk_at "ed") ?_)
  refine sx_cut (fun ρ' M' => ∃ t : Nat, ρ' = [.dat (.scr (ns.map .int)), .dat (.int (n : Int)), .dat (.int (a : Int)), .dat (.int (b : Int)), .dat (.lst (bs.map fun t : Nat => .int (t : Int))), .dat (.int (d : Int)), .dat (.int (b : Int)), l, .dat (.int (t : Int)), r2] ∧ M' = OH0 ∧ t ≤ 10)
    (s_while (fun m ρ' M' => ∃ t : Nat, ρ' = [.dat (.scr (ns.map .int)), .dat (.int (n : Int)), .dat (.int (a : Int)), .dat (.int (b : Int)), .dat (.lst (bs.map fun t : Nat => .int (t : Int))), .dat (.int (d : Int)), .dat (.int (b : Int)), l, .dat (.int (t : Int)), r2] ∧ M' = OH0 ∧ t + m = 10) 10 ⟨0, rfl, rfl, rfl⟩ ?_) ?_
  · rintro m ρ' M' ⟨t, rfl, rfl, ht⟩
    have ht0 : ((t : Int) + 1) = ((t + 1 : Nat) : Int) := by omega
    refine TD.tw (td_and (td_lt (ed_F (ds := [.int ((t : Int) + 1)]) (.int ((2 ^ (t + 1) : Nat) : Int)) Po (ad_cons (by walk_at "ed") ad_nil) ⟨t + 1, by rw [ht0], by omega⟩ fun d hd => hd (t + 1) (by rw [ht0])) (by walk_at "ed")) fun _ => by walk_at "wd") ?_
    refine ite2 (fun z => ?_) (fun z => ⟨t, rfl, rfl, by omega⟩)
    rw [Bool.and_eq_true, decide_eq_true_eq, decide_eq_true_eq] at z
    refine sx_one (s_set 8 (by walk_at "ed") ⟨m - 1, by omega, t + 1, ?_, rfl, by omega⟩)
    rw [← ht0]
    rfl
  rintro ρ' M' ⟨t, rfl, rfl, ht⟩
  refine sx_cons (s_set 9 (ed_F (ds := [.int (b : Int), .int (t : Int), .int (n : Int)]) _ Pa (ad_cons (by walk_at "ed") (ad_cons (by walk_at "ed") (ad_cons (by walk_at "ed") ad_nil))) ⟨b, t, n, rfl, by omega, hn1⟩ fun d hd => hd _ t n rfl) ?_)
  refine sx_one (s_ret (ED.ew (ed_and (by walk_at "ed") fun _ => ed_one (ed_eqI (by walk_at "ed") (ed_mod (ed_add (by walk_at "ed") (ed_F (ds := [.int (t : Int)]) (.int ((2 ^ t : Nat) : Int)) Po (ad_cons (by walk_at "ed") ad_nil) ⟨t, rfl, by omega⟩ fun d hd => hd t rfl)) (by walk_at "ed") (by omega)))) ?_))
  show Sl.dat (.bl (true && decide _)) = _
  rw [decide_eq_true (by rw [Int.natCast_emod, Int.natCast_add])]
  rfl

theorem all_mk {l : PySem.W.OpenLaw} {w : World} {K : PySem.W.Frag} {h : Heap} {mg : Str → Option Value} {fa : Addr} (X : K.In h) (G : h.Ns mainGlobals mg) (hfa : mg "law" = some (.ref fa))
    {f1 f2 f3 f5 f6 f7 f8 : Addr}
    {od1 an1 od2 an2 od3 an3 od5 an5 od6 an6 od7 an7 od8 an8 : Option Addr} {sl1 sl2 sl3 sl5 sl6 sl7 sl8 : Array (Option Value)} {oc1 kV1 dc1 pm1 cd1 ct1 oc2 kV2 dc2 pm2 cd2 ct2 oc3 kV3 dc3 pm3 cd3 ct3 oc5 kV5 dc5 pm5 cd5 ct5 oc6 kV6 dc6 pm6 cd6 ct6 oc7 kV7 dc7 pm7 cd7 ct7 oc8 kV8 dc8 pm8 cd8 ct8 : Value}
    (a1 : PySem.W.nsIn K mainGlobals "rounds" = some (some (.ref f1))) (l1 : K.lookup f1 = some ⟨oc1, od1, .func (PySem.W.fnOf "rounds" "rounds" (defArgs s_rounds) (defBody s_rounds) (defScope s_rounds) .none kV1 dc1 pm1 an1 cd1 ct1), sl1⟩) (c1 : PySem.W.codeIn K cd1 "rounds" = true) (k1 : PySem.W.keepIn K (.ref f1) = true)
    (a2 : PySem.W.nsIn K mainGlobals "partner" = some (some (.ref f2))) (l2 : K.lookup f2 = some ⟨oc2, od2, .func (PySem.W.fnOf "partner" "partner" (defArgs s_partner) (defBody s_partner) (defScope s_partner) .none kV2 dc2 pm2 an2 cd2 ct2), sl2⟩) (c2 : PySem.W.codeIn K cd2 "partner" = true) (k2 : PySem.W.keepIn K (.ref f2) = true)
    (a3 : PySem.W.nsIn K mainGlobals "way" = some (some (.ref f3))) (l3 : K.lookup f3 = some ⟨oc3, od3, .func (PySem.W.fnOf "way" "way" (defArgs s_way) (defBody s_way) (defScope s_way) .none kV3 dc3 pm3 an3 cd3 ct3), sl3⟩) (c3 : PySem.W.codeIn K cd3 "way" = true) (k3 : PySem.W.keepIn K (.ref f3) = true)
    (a5 : PySem.W.nsIn K mainGlobals "_law_cell_at" = some (some (.ref f5))) (l5 : K.lookup f5 = some ⟨oc5, od5, .func (PySem.W.fnOf "_law_cell_at" "_law_cell_at" (defArgs s_l_cell_at) (defBody s_l_cell_at) (defScope s_l_cell_at) .none kV5 dc5 pm5 an5 cd5 ct5), sl5⟩) (c5 : PySem.W.codeIn K cd5 "_law_cell_at" = true) (k5 : PySem.W.keepIn K (.ref f5) = true)
    (a6 : PySem.W.nsIn K mainGlobals "_law_whole" = some (some (.ref f6))) (l6 : K.lookup f6 = some ⟨oc6, od6, .func (PySem.W.fnOf "_law_whole" "_law_whole" (defArgs s_l_whole) (defBody s_l_whole) (defScope s_l_whole) .none kV6 dc6 pm6 an6 cd6 ct6), sl6⟩) (c6 : PySem.W.codeIn K cd6 "_law_whole" = true) (k6 : PySem.W.keepIn K (.ref f6) = true)
    (a7 : PySem.W.nsIn K mainGlobals "_law_power" = some (some (.ref f7))) (l7 : K.lookup f7 = some ⟨oc7, od7, .func (PySem.W.fnOf "_law_power" "_law_power" (defArgs s_l_power) (defBody s_l_power) (defScope s_l_power) .none kV7 dc7 pm7 an7 cd7 ct7), sl7⟩) (c7 : PySem.W.codeIn K cd7 "_law_power" = true) (k7 : PySem.W.keepIn K (.ref f7) = true)
    (a8 : PySem.W.nsIn K mainGlobals "law" = some (some (.ref f8))) (l8 : K.lookup f8 = some ⟨oc8, od8, .func (PySem.W.fnOf "law" "law" (defArgs s_law) (defBody s_law) (defScope s_law) .none kV8 dc8 pm8 an8 cd8 ct8), sl8⟩) (c8 : PySem.W.codeIn K cd8 "law" = true) (k8 : PySem.W.keepIn K (.ref f8) = true)
    (z_bool : PySem.W.nsIn K mainGlobals "bool" = some none)
    (z_int : PySem.W.nsIn K mainGlobals "int" = some none)
    (z_isinstance : PySem.W.nsIn K mainGlobals "isinstance" = some none)
    (z_len : PySem.W.nsIn K mainGlobals "len" = some none)
    (z_list : PySem.W.nsIn K mainGlobals "list" = some none)
    (z_range : PySem.W.nsIn K mainGlobals "range" = some none)
    :
    ∃ fd : FuncData, (∀ (s : Shared) (v : Value), BindsTo s fd ⟨[v], []⟩ [("_law_script", v)]) ∧ ∀ base : Heap, K.In base → base.Ns mainGlobals mg → FnOk l.prog w K mg base CX0 3 fa fd ["_law_script"] (spLaw K) := by
  have A_rounds : At K mg "rounds" s_rounds ["many"] := at_mk X G a1 l1 c1 k1 fun _ _ _ _ _ _ us hl => match us, hl with | [_], _ => rfl
  have A_partner : At K mg "partner" s_partner ["place", "turn", "many"] := at_mk X G a2 l2 c2 k2 fun _ _ _ _ _ _ us hl => match us, hl with | [_, _, _], _ => rfl
  have A_way : At K mg "way" s_way ["one", "other", "many"] := at_mk X G a3 l3 c3 k3 fun _ _ _ _ _ _ us hl => match us, hl with | [_, _, _], _ => rfl
  have A_l_cell_at : At K mg "_law_cell_at" s_l_cell_at ["_law_script", "_law_k"] := at_mk X G a5 l5 c5 k5 fun _ _ _ _ _ _ us hl => match us, hl with | [_, _], _ => rfl
  have A_l_whole : At K mg "_law_whole" s_l_whole ["_law_found"] := at_mk X G a6 l6 c6 k6 fun _ _ _ _ _ _ us hl => match us, hl with | [_], _ => rfl
  have A_l_power : At K mg "_law_power" s_l_power ["_law_turn"] := at_mk X G a7 l7 c7 k7 fun _ _ _ _ _ _ us hl => match us, hl with | [_], _ => rfl
  have A_law : At K mg "law" s_law ["_law_script"] := at_mk X G a8 l8 c8 k8 fun _ _ _ _ _ _ us hl => match us, hl with | [_], _ => rfl
  have n_bool : mg "bool" = none := PySem.W.mg_none_of X G z_bool
  have n_int : mg "int" = none := PySem.W.mg_none_of X G z_int
  have n_isinstance : mg "isinstance" = none := PySem.W.mg_none_of X G z_isinstance
  have n_len : mg "len" = none := PySem.W.mg_none_of X G z_len
  have n_list : mg "list" = none := PySem.W.mg_none_of X G z_list
  have n_range : mg "range" = none := PySem.W.mg_none_of X G z_range
  have e := hfa.symm.trans (PySem.W.mg_of X G a8)
  cases e
  refine ⟨PySem.W.fnOf "law" "law" (defArgs s_law) (defBody s_law) (defScope s_law) .none kV8 dc8 pm8 an8 cd8 ct8, fun s v => .of_eq rfl, fun base _ _ => ?_⟩
  have Fl := fun_mk (x := "law") (qual := "law") (st := s_law) l8 c8 k8
  have C := d_cell (P := l.prog) (w := w) (base := base) A_l_cell_at n_len
  have R := d_rounds (P := l.prog) (w := w) (base := base) A_rounds
  exact law_imp (ok_law Fl n_len n_isinstance n_list C (d_whole A_l_whole n_isinstance n_int n_bool) (d_partner A_partner) (d_way A_way n_range R) (d_pow A_l_power n_range))
end K02

open PySem PySem.W PyProof.Rows in
set_option maxRecDepth 100000 in
set_option maxHeartbeats 0 in
theorem PySem.Challenge.cw_barrierrow_k02_ways_holds : PySem.Challenge.rw_barrierrow_k02_ways.Holds := by
  w_on; o_law; k_head; (case hw => w_witness2)
  k_fill
  refine L2.walk_of (l := PySem.Challenge.rw_barrierrow_k02_ways) (n := 63) (k := 3) (x := "_law_script") (CX := fun _ => L2.CX0) (sp := fun w => DL.spLaw _) rfl (by decide) rfl ⟨rfl, by decide, by decide⟩ (fun w h Y => PySem.W.kIn_of Y) ?F (fun _ _ a ns hl _ hS => ⟨a, ns, rfl, hS, hl, fun _ => rfl⟩) (fun _ _ _ _ _ h => h)
  case F =>
    intro w mg fa h KX G hmg
    refine' K02.all_mk KX G hmg ?a1 ?l1 ?c1 ?k1 ?a2 ?l2 ?c2 ?k2 ?a3 ?l3 ?c3 ?k3 ?a5 ?l5 ?c5 ?k5 ?a6 ?l6 ?c6 ?k6 ?a7 ?l7 ?c7 ?k7 ?a8 ?l8 ?c8 ?k8 ?z_bool ?z_int ?z_isinstance ?z_len ?z_list ?z_range
    (case a1 => k_is)
    (case l1 => k_is)
    (case c1 => k_is)
    (case k1 => k_is)
    (case a2 => k_is)
    (case l2 => k_is)
    (case c2 => k_is)
    (case k2 => k_is)
    (case a3 => k_is)
    (case l3 => k_is)
    (case c3 => k_is)
    (case k3 => k_is)
    (case a5 => k_is)
    (case l5 => k_is)
    (case c5 => k_is)
    (case k5 => k_is)
    (case a6 => k_is)
    (case l6 => k_is)
    (case c6 => k_is)
    (case k6 => k_is)
    (case a7 => k_is)
    (case l7 => k_is)
    (case c7 => k_is)
    (case k7 => k_is)
    (case a8 => k_is)
    (case l8 => k_is)
    (case c8 => k_is)
    (case k8 => k_is)
    (case z_bool => k_is)
    (case z_int => k_is)
    (case z_isinstance => k_is)
    (case z_len => k_is)
    (case z_list => k_is)
    (case z_range => k_is)
