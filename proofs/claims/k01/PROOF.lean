import PyProof.Rows.All
import Wide.All
import OpenK.AllK
import Wide.FinOn
import HandS.ForMost
import HandS.Exc
import HandS.TryOnly
import HandS.TryMany
import HandS.ExcOwn
import HandS.WordsExc
import HandS.IsInst
import HandS.ExcIs
import HandS.FStr
import HandS.TupMul
import HandS.TupAny
import HandS.Conv
import HandS.Deep
import HandS.Strs
import HandS.SetKeys
import PySem.Challenge.RW_barrierrow_k01_rounds
set_option Elab.async false
set_option linter.all false
set_option maxRecDepth 100000
set_option maxHeartbeats 4000000
/-! Data and owned lists over the hand layer: a logic whose states speak of plain data. -/
namespace DL
open PySem PySem.Spec PyProof.Rows L2

/-! ### plain data -/
inductive Dt where
  | non | bl (b : Bool) | int (i : Int) | str (x : Str) | lst (ds : List Dt) | tup (ds : List Dt) | scr (ds : List Dt)
  | ins (C : Addr) (ns : List Str) (ds : List Dt)
/-- what a place holds: nothing known, data, a raw value (an owned list's address) -/
inductive Sl where
  | un | dat (d : Dt) | raw (v : V)
abbrev Rho := List Sl
abbrev OH := Addr → Option (List Sl)
def OH0 : OH := fun _ => none
def oset (M : OH) (p : Addr) (xs : List Sl) : OH := fun a => if a = p then some xs else M a
def odel (M : OH) (p : Addr) : OH := fun a => if a = p then none else M a
theorem oset_same {M : OH} {p : Addr} {xs : List Sl} : oset M p xs p = some xs := by unfold oset; rw [if_pos rfl]
theorem oset_ne {M : OH} {p q : Addr} {xs : List Sl} (h : q ≠ p) : oset M p xs q = M q := by unfold oset; rw [if_neg h]
theorem odel_oset {M : OH} {p : Addr} {xs : List Sl} (h : M p = none) : odel (oset M p xs) p = M := by
  funext a; unfold odel oset
  by_cases e : a = p
  · rw [if_pos e, e, h]
  · rw [if_neg e, if_neg e]
theorem oset_oset {M : OH} {p : Addr} {xs ys : List Sl} : oset (oset M p xs) p ys = oset M p ys := by
  funext a; unfold oset
  by_cases e : a = p
  · rw [if_pos e, if_pos e]
  · rw [if_neg e, if_neg e, if_neg e]

mutual
def DA (K : PySem.W.Frag) (H : Hp) : Dt → V → Prop
  | .non, v => v = .non
  | .bl b, v => v = .bl b
  | .int i, v => v = .int i
  | .str x, v => v = .str x
  | .lst ds, v => ∃ a vs, v = .ref a ∧ H a = some (.lst vs) ∧ DAs K H ds vs
  | .scr ds, v => ∃ a vs, v = .ref a ∧ SqL K H a vs ∧ DAs K H ds vs
  | .tup ds, v => ∃ a vs, v = .ref a ∧ SqT K H a vs ∧ DAs K H ds vs
  | .ins C ns ds, v => ∃ a dx vs, v = .ref a ∧ H a = some (.ins C dx (ns.zip vs)) ∧ vs.length = ns.length ∧ DAs K H ds vs
def DAs (K : PySem.W.Frag) (H : Hp) : List Dt → List V → Prop
  | [], vs => vs = []
  | d :: ds, vs => ∃ v r, vs = v :: r ∧ DA K H d v ∧ DAs K H ds r
end
section
variable {K : PySem.W.Frag} {H H' : Hp}
mutual
theorem DA.mono (e : Same H H') : ∀ {d : Dt} {v : V}, DA K H d v → DA K H' d v
  | .non, _, h => h
  | .bl _, _, h => h
  | .int _, _, h => h
  | .str _, _, h => h
  | .lst ds, _, h => by
    unfold DA at h ⊢
    obtain ⟨a, vs, e1, e2, e3⟩ := h
    exact ⟨a, vs, e1, e _ _ e2, DAs.mono e e3⟩
  | .scr ds, _, h => by
    unfold DA at h ⊢
    obtain ⟨a, vs, e1, e2, e3⟩ := h
    exact ⟨a, vs, e1, e.seq e2, DAs.mono e e3⟩
  | .tup ds, _, h => by
    unfold DA at h ⊢
    obtain ⟨a, vs, e1, e2, e3⟩ := h
    refine ⟨a, vs, e1, ?_, DAs.mono e e3⟩
    rcases e2 with (e2 | ⟨o, e2⟩) | e2
    · exact .inl (.inl (e _ _ e2))
    · exact .inl (.inr ⟨o, e _ _ e2⟩)
    · exact .inr e2
  | .ins C ns ds, _, h => by
    unfold DA at h ⊢
    obtain ⟨a, dx, vs, e1, e2, e4, e3⟩ := h
    exact ⟨a, dx, vs, e1, e _ _ e2, e4, DAs.mono e e3⟩
theorem DAs.mono (e : Same H H') : ∀ {ds : List Dt} {vs : List V}, DAs K H ds vs → DAs K H' ds vs
  | [], _, h => by unfold DAs at h ⊢; exact h
  | d :: ds, _, h => by
    unfold DAs at h ⊢
    obtain ⟨v, r, e1, e2, e3⟩ := h
    exact ⟨v, r, e1, DA.mono e e2, DAs.mono e e3⟩
end
theorem DAs.paired : ∀ {ds : List Dt} {vs : List V}, DAs K H ds vs → Paired (fun v d => DA K H d v) vs ds
  | [], vs, h => by unfold DAs at h; subst h; exact .nil
  | d :: ds, vs, h => by
    unfold DAs at h
    obtain ⟨v, r, rfl, e2, e3⟩ := h
    exact .cons e2 e3.paired
theorem DAs.of : ∀ {ds : List Dt} {vs : List V}, Paired (fun v d => DA K H d v) vs ds → DAs K H ds vs
  | _, _, .nil => by unfold DAs; rfl
  | _, _, .cons h t => by unfold DAs; exact ⟨_, _, rfl, h, DAs.of t⟩
theorem DAs.len {ds : List Dt} {vs : List V} (h : DAs K H ds vs) : vs.length = ds.length := h.paired.length
end
theorem paired_get {α β : Type} {F : α → β → Prop} : ∀ {l₁ : List α} {l₂ : List β} {i : Nat} {b : β}, Paired F l₁ l₂ → l₂[i]? = some b → ∃ a, l₁[i]? = some a ∧ F a b
  | _, _, _, _, .nil, e => by simp at e
  | _, _, 0, _, .cons r _, e => by simp at e; subst e; exact ⟨_, rfl, r⟩
  | _, _, i + 1, _, .cons _ t, e => by
    obtain ⟨u, h1, h2⟩ := paired_get (i := i) t (by simpa using e)
    exact ⟨u, by simpa using h1, h2⟩
theorem paired_get' {α β : Type} {F : α → β → Prop} : ∀ {l₁ : List α} {l₂ : List β} {i : Nat} {a : α}, Paired F l₁ l₂ → l₁[i]? = some a → ∃ b, l₂[i]? = some b ∧ F a b
  | _, _, _, _, .nil, e => by simp at e
  | _, _, 0, _, .cons r _, e => by simp at e; subst e; exact ⟨_, rfl, r⟩
  | _, _, i + 1, _, .cons _ t, e => by
    obtain ⟨u, h1, h2⟩ := paired_get' (i := i) t (by simpa using e)
    exact ⟨u, by simpa using h1, h2⟩
theorem paired_set {α β : Type} {F : α → β → Prop} {a : α} {b : β} (r : F a b) : ∀ {l₁ : List α} {l₂ : List β} (i : Nat), Paired F l₁ l₂ → Paired F (l₁.set i a) (l₂.set i b)
  | _, _, _, .nil => .nil
  | _, _, 0, .cons _ t => .cons r t
  | _, _, i + 1, .cons q t => .cons q (paired_set r i t)
theorem paired_append {α β : Type} {F : α → β → Prop} : ∀ {l₁ r₁ : List α} {l₂ r₂ : List β}, Paired F l₁ l₂ → Paired F r₁ r₂ → Paired F (l₁ ++ r₁) (l₂ ++ r₂)
  | _, _, _, _, .nil, s => s
  | _, _, _, _, .cons r t, s => .cons r (paired_append t s)
theorem paired_map {α β γ : Type} {F : α → γ → Prop} {f : β → γ} : ∀ {l₁ : List α} {l₂ : List β}, Paired F l₁ (l₂.map f) ↔ Paired (fun a b => F a (f b)) l₁ l₂
  | l₁, [] => ⟨fun h => by cases h; exact .nil, fun h => by cases h; exact .nil⟩
  | l₁, b :: l₂ => ⟨fun h => by cases h with | cons r t => exact .cons r (paired_map.mp t), fun h => by cases h with | cons r t => exact .cons r (paired_map.mpr t)⟩
theorem paired_erase {α β : Type} {F : α → β → Prop} : ∀ {l₁ : List α} {l₂ : List β} (i : Nat), Paired F l₁ l₂ → Paired F (l₁.eraseIdx i) (l₂.eraseIdx i)
  | _, _, _, .nil => .nil
  | _, _, 0, .cons _ t => t
  | _, _, i + 1, .cons q t => .cons q (paired_erase i t)
theorem paired_rev {α β : Type} {F : α → β → Prop} : ∀ {l₁ : List α} {l₂ : List β}, Paired F l₁ l₂ → Paired F l₁.reverse l₂.reverse
  | _, _, .nil => .nil
  | _, _, .cons q t => by
    rw [List.reverse_cons, List.reverse_cons]
    exact paired_append (paired_rev t) (.cons q .nil)
theorem paired_take {α β : Type} {F : α → β → Prop} : ∀ {l₁ : List α} {l₂ : List β} (i : Nat), Paired F l₁ l₂ → Paired F (l₁.take i) (l₂.take i)
  | _, _, 0, _ => .nil
  | _, _, _ + 1, .nil => .nil
  | _, _, i + 1, .cons q t => .cons q (paired_take i t)
theorem paired_drop {α β : Type} {F : α → β → Prop} : ∀ {l₁ : List α} {l₂ : List β} (i : Nat), Paired F l₁ l₂ → Paired F (l₁.drop i) (l₂.drop i)
  | _, _, 0, h => h
  | _, _, _ + 1, .nil => .nil
  | _, _, i + 1, .cons q t => paired_drop i t
theorem paired_rep {α β : Type} {F : α → β → Prop} {l₁ : List α} {l₂ : List β} (h : Paired F l₁ l₂) : ∀ k : Nat, Paired F (List.replicate k l₁).flatten (List.replicate k l₂).flatten
  | 0 => .nil
  | k + 1 => by
    rw [List.replicate_succ, List.replicate_succ, List.flatten_cons, List.flatten_cons]
    exact paired_append h (paired_rep h k)

def SlOk (K : PySem.W.Frag) (H : Hp) (v : V) : Sl → Prop
  | .un => True
  | .dat d => DA K H d v
  | .raw u => v = u
theorem SlOk.mono {K : PySem.W.Frag} {H H' : Hp} (e : Same H H') {v : V} : ∀ {s : Sl}, SlOk K H v s → SlOk K H' v s
  | .un, h => h
  | .dat _, h => DA.mono e h
  | .raw _, h => h
abbrev SlsOk (K : PySem.W.Frag) (H : Hp) : List V → List Sl → Prop := Paired (SlOk K H)
theorem SlsOk.mono {K : PySem.W.Frag} {H H' : Hp} (e : Same H H') {vs : List V} {xs : List Sl} (h : SlsOk K H vs xs) : SlsOk K H' vs xs := Paired.mono (fun _ _ r => SlOk.mono e r) h
theorem SlsOk.das {K : PySem.W.Frag} {H : Hp} {vs : List V} {ds : List Dt} : SlsOk K H vs (ds.map .dat) ↔ DAs K H ds vs :=
  ⟨fun h => DAs.of (paired_map.mp h), fun h => paired_map.mpr h.paired⟩
/-- a frame's place -/
def PlOk (K : PySem.W.Frag) (H : Hp) (o : Option V) : Sl → Prop
  | .un => True
  | .dat d => ∃ v, o = some v ∧ DA K H d v
  | .raw u => o = some u
theorem PlOk.mono {K : PySem.W.Frag} {H H' : Hp} (e : Same H H') {v : Option V} : ∀ {s : Sl}, PlOk K H v s → PlOk K H' v s
  | .un, h => h
  | .dat _, ⟨v, e1, h⟩ => ⟨v, e1, DA.mono e h⟩
  | .raw _, h => h
theorem PlOk.of {K : PySem.W.Frag} {H : Hp} {v : V} : ∀ {s : Sl}, SlOk K H v s → PlOk K H (some v) s
  | .un, _ => trivial
  | .dat _, h => ⟨v, rfl, h⟩
  | .raw _, h => congrArg some h
abbrev EnvOk (K : PySem.W.Frag) (H : Hp) : L2.St → Rho → Prop := Paired (PlOk K H)
theorem EnvOk.mono {K : PySem.W.Frag} {H H' : Hp} (e : Same H H') {σ : L2.St} {ρ : Rho} (h : EnvOk K H σ ρ) : EnvOk K H' σ ρ := Paired.mono (fun _ _ r => PlOk.mono e r) h
theorem EnvOk.set {K : PySem.W.Frag} {H : Hp} {σ : L2.St} {ρ : Rho} {v : V} {s : Sl} (i : Nat) (h : EnvOk K H σ ρ) (r : SlOk K H v s) : EnvOk K H (σ.set i (some v)) (ρ.set i s) := paired_set (PlOk.of r) i h
def wipeR (ρ : Rho) : List Nat → Rho
  | [] => ρ
  | v :: vs => (wipeR ρ vs).set v .un
theorem EnvOk.wipe {K : PySem.W.Frag} {H : Hp} {σ : L2.St} {ρ : Rho} (h : EnvOk K H σ ρ) : ∀ vs : List Nat, EnvOk K H (L2.wipe σ vs) (wipeR ρ vs)
  | [] => h
  | v :: vs => by
    unfold L2.wipe wipeR
    exact paired_set (F := PlOk K H) (a := none) (b := .un) trivial v (EnvOk.wipe h vs)
def known : Sl → Prop
  | .un => False
  | _ => True
theorem EnvOk.get {K : PySem.W.Frag} {H : Hp} {σ : L2.St} {ρ : Rho} {i : Nat} {s : Sl} (h : EnvOk K H σ ρ) (e : ρ[i]? = some s) (k : known s) : ∃ v, σ[i]? = some (some v) ∧ SlOk K H v s := by
  obtain ⟨o, e1, e2⟩ := paired_get h e
  cases s with
  | un => exact k.elim
  | dat d => obtain ⟨v, rfl, q⟩ := e2; exact ⟨v, e1, q⟩
  | raw u => exact ⟨u, by rw [e1]; exact congrArg some e2, rfl⟩

/-! ### the state: frozen data H, owned lists M, all that stands 𝓗 -/
structure Cxt (K : PySem.W.Frag) (B0 H0 : Hp) (M : OH) (H 𝓗 : Hp) : Prop where
  f : Same H0 H
  u : Same H 𝓗
  b : Same B0 𝓗
  n : ∀ a, H a ≠ none → H0 a ≠ none ∨ B0 a = none
  o : ∀ p xs, M p = some xs → H p = none ∧ B0 p = none ∧ ∃ vs, 𝓗 p = some (.lst vs) ∧ SlsOk K H vs xs
theorem same_new {H : Hp} {p : Addr} {o : HO} (h : H p = none) : Same H (upd H p o) := fun b x e => by
  rw [upd_ne (ne_of_none e h)]
  exact e
theorem same_up {H H' : Hp} {p : Addr} {o : HO} (e : Same H H') (h : H p = none) : Same H (upd H' p o) := fun b x q => by
  rw [upd_ne (ne_of_none q h)]
  exact e _ _ q
theorem same_both {H H' : Hp} {p : Addr} {o : HO} (e : Same H H') : Same (upd H p o) (upd H' p o) := fun b x q => by
  by_cases z : b = p
  · subst z; rw [upd_same] at q ⊢; exact q
  · rw [upd_ne z] at q ⊢; exact e _ _ q
section
variable {K : PySem.W.Frag} {B0 H0 H H' 𝓗 : Hp} {M : OH} {p : Addr} {xs : List Sl} {vs : List V} {ds : List Dt}
theorem Cxt.none_of (c : Cxt K B0 H0 M H 𝓗) (h : 𝓗 p = none) : H p = none ∧ B0 p = none ∧ M p = none := by
  refine ⟨?_, ?_, ?_⟩
  · exact c.u.free h
  · exact c.b.free h
  · cases e : M p with
    | none => rfl
    | some xs =>
      obtain ⟨_, _, vs, q, _⟩ := c.o p xs e
      rw [h] at q; cases q
/-- a new owned list -/
theorem Cxt.newL (c : Cxt K B0 H0 M H 𝓗) (h : 𝓗 p = none) (r : SlsOk K H vs xs) : Cxt K B0 H0 (oset M p xs) H (upd 𝓗 p (.lst vs)) := by
  obtain ⟨h1, h2, h3⟩ := c.none_of h
  refine ⟨c.f, same_up c.u h1, same_up c.b h2, c.n, fun q ys e => ?_⟩
  by_cases z : q = p
  · subst z
    rw [oset_same] at e; cases e
    exact ⟨h1, h2, vs, upd_same, r⟩
  · rw [oset_ne z] at e
    obtain ⟨a1, a2, ws, a3, a4⟩ := c.o q ys e
    exact ⟨a1, a2, ws, by rw [upd_ne z]; exact a3, a4⟩
/-- a new frozen object -/
theorem Cxt.newF {o : HO} (c : Cxt K B0 H0 M H 𝓗) (h : 𝓗 p = none) : Cxt K B0 H0 M (upd H p o) (upd 𝓗 p o) ∧ Same H (upd H p o) := by
  obtain ⟨h1, h2, h3⟩ := c.none_of h
  refine ⟨⟨c.f.trans (same_new h1), same_both c.u, same_up c.b h2, fun a q => ?_, fun q ys e => ?_⟩, same_new h1⟩
  · by_cases z : a = p
    · subst z; exact .inr h2
    · rw [upd_ne z] at q; exact c.n a q
  · have z : q ≠ p := fun z => by rw [z, h3] at e; cases e
    obtain ⟨a1, a2, ws, a3, a4⟩ := c.o q ys e
    exact ⟨by rw [upd_ne z]; exact a1, a2, ws, by rw [upd_ne z]; exact a3, a4.mono (same_new h1)⟩
/-- an owned list is written -/
theorem Cxt.wr {ys : List Sl} (c : Cxt K B0 H0 M H 𝓗) (e : M p = some xs) (r : SlsOk K H vs ys) : Cxt K B0 H0 (oset M p ys) H (upd 𝓗 p (.lst vs)) := by
  obtain ⟨h1, h2, us, h3, h4⟩ := c.o p xs e
  refine ⟨c.f, same_up c.u h1, same_up c.b h2, c.n, fun q zs e => ?_⟩
  by_cases z : q = p
  · subst z
    rw [oset_same] at e; cases e
    exact ⟨h1, h2, vs, upd_same, r⟩
  · rw [oset_ne z] at e
    obtain ⟨a1, a2, ws, a3, a4⟩ := c.o q zs e
    exact ⟨a1, a2, ws, by rw [upd_ne z]; exact a3, a4⟩
/-- an owned list of data is frozen -/
theorem Cxt.frz (c : Cxt K B0 H0 M H 𝓗) (e : M p = some (ds.map .dat)) : ∃ H', Cxt K B0 H0 (odel M p) H' 𝓗 ∧ Same H H' ∧ DA K H' (.lst ds) (.ref p) := by
  obtain ⟨h1, h2, us, h3, h4⟩ := c.o p _ e
  have s1 : Same H (upd H p (.lst us)) := same_new h1
  refine ⟨upd H p (.lst us), ⟨c.f.trans s1, fun a o q => ?_, c.b, fun a q => ?_, fun q zs e => ?_⟩, s1, ?_⟩
  · by_cases z : a = p
    · subst z; rw [upd_same] at q; rw [← q]; exact h3
    · rw [upd_ne z] at q; exact c.u _ _ q
  · by_cases z : a = p
    · subst z; exact .inr h2
    · rw [upd_ne z] at q; exact c.n a q
  · unfold odel at e
    by_cases z : q = p
    · rw [if_pos z] at e; cases e
    · rw [if_neg z] at e
      obtain ⟨a1, a2, ws, a3, a4⟩ := c.o q zs e
      exact ⟨by rw [upd_ne z]; exact a1, a2, ws, a3, a4.mono s1⟩
  · unfold DA
    exact ⟨p, us, rfl, upd_same, (SlsOk.das.mp h4).mono s1⟩
/-- fewer owned -/
theorem Cxt.less {M' : OH} (c : Cxt K B0 H0 M H 𝓗) (h : ∀ p xs, M' p = some xs → M p = some xs) : Cxt K B0 H0 M' H 𝓗 := ⟨c.f, c.u, c.b, c.n, fun p xs e => c.o p xs (h p xs e)⟩
end

/-! ### families of contexts -/
def mkW (K : PySem.W.Frag) (B0 H0 : Hp) (ex : Addr → Rho → OH → Prop) : WX := fun cls d σ 𝓗 => ∃ C ρ M H, cls = .ref C ∧ d = none ∧ Cxt K B0 H0 M H 𝓗 ∧ EnvOk K H σ ρ ∧ ex C ρ M
structure Fm (P : Program) (w : World) (K : PySem.W.Frag) (mg : Str → Option Value) (base : Heap) (N : List Str) where
  ι : Type
  X : ι → Cx
  eP : ∀ i, (X i).prog = P
  ew : ∀ i, (X i).w = w
  eK : ∀ i, (X i).K = K
  eg : ∀ i, (X i).mg = mg
  eb : ∀ i, (X i).base = base
  eN : ∀ i, (X i).N = N
  nd : N.Nodup
  lv : Nat
  hr : ∀ i, Room lv (X i).A
  hc : ∀ i, (X i).calm = true
  po : ∀ i, PassesOwn (model (X i).prog (X i).w) (X i).A (X i).env (X i).xe
  B0 : Hp
  H0 : Hp
  ex : Addr → Rho → OH → Prop
  tk : ∀ i, Takes (X i) (mkW K B0 H0 ex)
section
variable {P : Program} {w : World} {K : PySem.W.Frag} {mg : Str → Option Value} {base : Heap} {N : List Str} {F : Fm P w K mg base N}
def uE (F : Fm P w K mg base N) (e : Expr) : TE := fun σ H Q => ∀ i pins s, Inv (F.X i) pins σ H s → wpAny (model (F.X i).prog (F.X i).w) (F.X i).A (eval e (F.X i).env) (EP (F.X i) pins σ Q) (F.X i).xe s
def uT (F : Fm P w K mg base N) (e : Expr) : TT := fun σ H Q => ∀ i pins s, Inv (F.X i) pins σ H s → wpAny (model (F.X i).prog (F.X i).w) (F.X i).A (isTrue e (F.X i).env (eval e (F.X i).env)) (TP (F.X i) pins σ Q) (F.X i).xe s
def uW (F : Fm P w K mg base N) (e : Expr) : TT := fun σ H Q => ∀ i whole pins s, Inv (F.X i) pins σ H s → wpAny (model (F.X i).prog (F.X i).w) (F.X i).A (isTrue e (F.X i).env whole) (TP (F.X i) pins σ Q) (F.X i).xe s
def uA (F : Fm P w K mg base N) (es : List Expr) : TA := fun σ H Q => ∀ i pos pins s, Inv (F.X i) pins σ H s → wpAny (model (F.X i).prog (F.X i).w) (F.X i).A (spliced (backTo pos (starEach es (F.X i).env))) (AP (F.X i) pins σ Q) (F.X i).xe s
def uS (F : Fm P w K mg base N) (st : Stmt) : TS := fun D σ H => ∀ i pins s, Inv (F.X i) pins σ H s → wpAny (model (F.X i).prog (F.X i).w) (F.X i).A (exec st (F.X i).env) (SP (F.X i) pins D) (F.X i).xe s
def uSs (F : Fm P w K mg base N) (sts : List Stmt) : TS := fun D σ H => ∀ i pins s, Inv (F.X i) pins σ H s → wpAny (model (F.X i).prog (F.X i).w) (F.X i).A (execs sts (F.X i).env) (SP (F.X i) pins D) (F.X i).xe s
theorem pe_u {e : Expr} (i : F.ι) : PE (F.X i) e (uE F e) := ⟨fun pins s _ _ _ I h => h i pins s I⟩
theorem pt_u {e : Expr} (i : F.ι) : PT (F.X i) e (uT F e) := ⟨fun pins s _ _ _ I h => h i pins s I⟩
theorem pw_u {e : Expr} (i : F.ι) : PW (F.X i) e (uW F e) := ⟨fun wh pins s _ _ _ I h => h i wh pins s I⟩
theorem pa_u {es : List Expr} (i : F.ι) : PA (F.X i) es (uA F es) := ⟨fun pos pins s _ _ _ I h => h i pos pins s I⟩
theorem ps_u {st : Stmt} (i : F.ι) : PS (F.X i) st (uS F st) := ⟨fun pins s _ _ _ I h => h i pins s I⟩
theorem pss_u {sts : List Stmt} (i : F.ι) : PSs (F.X i) sts (uSs F sts) := ⟨fun pins s _ _ _ I h => h i pins s I⟩
theorem uE.by {e : Expr} {t : TE} {σ : L2.St} {H : Hp} {Q : VK} (h : ∀ i, PE (F.X i) e t) (q : t σ H Q) : uE F e σ H Q := fun i pins s I => (h i).run pins s σ H Q I q
theorem uT.by {e : Expr} {t : TT} {σ : L2.St} {H : Hp} {Q : Bool → Hp → Prop} (h : ∀ i, PT (F.X i) e t) (q : t σ H Q) : uT F e σ H Q := fun i pins s I => (h i).run pins s σ H Q I q
theorem uW.by {e : Expr} {t : TT} {σ : L2.St} {H : Hp} {Q : Bool → Hp → Prop} (h : ∀ i, PW (F.X i) e t) (q : t σ H Q) : uW F e σ H Q := fun i wh pins s I => (h i).run wh pins s σ H Q I q
theorem uA.by {es : List Expr} {t : TA} {σ : L2.St} {H : Hp} {Q : List V → Hp → Prop} (h : ∀ i, PA (F.X i) es t) (q : t σ H Q) : uA F es σ H Q := fun i pos pins s I => (h i).run pos pins s σ H Q I q
theorem uS.by {st : Stmt} {t : TS} {σ : L2.St} {H : Hp} {D : Ends} (h : ∀ i, PS (F.X i) st t) (q : t D σ H) : uS F st D σ H := fun i pins s I => (h i).run pins s σ H D I q
theorem uSs.by {sts : List Stmt} {t : TS} {σ : L2.St} {H : Hp} {D : Ends} (h : ∀ i, PSs (F.X i) sts t) (q : t D σ H) : uSs F sts D σ H := fun i pins s I => (h i).run pins s σ H D I q
theorem uE.mono {e : Expr} {σ : L2.St} {H : Hp} {Q Q' : VK} (h : uE F e σ H Q) (m : ∀ v H, Q v H → Q' v H) : uE F e σ H Q' := fun i pins s I => thn (h i pins s I) fun _ _ ⟨v, H', I', r, q⟩ => ⟨v, H', I', r, m _ _ q⟩
theorem uT.mono {e : Expr} {σ : L2.St} {H : Hp} {Q Q' : Bool → Hp → Prop} (h : uT F e σ H Q) (m : ∀ v H, Q v H → Q' v H) : uT F e σ H Q' := fun i pins s I => thn (h i pins s I) fun _ _ ⟨H', I', q⟩ => ⟨H', I', m _ _ q⟩
theorem uW.mono {e : Expr} {σ : L2.St} {H : Hp} {Q Q' : Bool → Hp → Prop} (h : uW F e σ H Q) (m : ∀ v H, Q v H → Q' v H) : uW F e σ H Q' := fun i wh pins s I => thn (h i wh pins s I) fun _ _ ⟨H', I', q⟩ => ⟨H', I', m _ _ q⟩
theorem uA.mono {es : List Expr} {σ : L2.St} {H : Hp} {Q Q' : List V → Hp → Prop} (h : uA F es σ H Q) (m : ∀ v H, Q v H → Q' v H) : uA F es σ H Q' := fun i pos pins s I => thn (h i pos pins s I) fun _ _ ⟨v, H', I', r, q⟩ => ⟨v, H', I', r, m _ _ q⟩
structure DLe (D D' : Ends) : Prop where
  nx : ∀ σ H, D.nx σ H → D'.nx σ H
  rt : ∀ v H, D.rt v H → D'.rt v H
  bk : ∀ σ H, D.bk σ H → D'.bk σ H
  ct : ∀ σ H, D.ct σ H → D'.ct σ H
theorem sp_mono {X : Cx} {pins : List (Addr × Obj)} {D D' : Ends} (m : DLe D D') {f : Flow} {s : Shared} (h : SP X pins D f s) : SP X pins D' f s := by
  cases f with
  | next => obtain ⟨σ, H, I, q⟩ := h; exact ⟨σ, H, I, m.nx _ _ q⟩
  | brk => obtain ⟨σ, H, I, q⟩ := h; exact ⟨σ, H, I, m.bk _ _ q⟩
  | cont => obtain ⟨σ, H, I, q⟩ := h; exact ⟨σ, H, I, m.ct _ _ q⟩
  | ret u => obtain ⟨v, σ, H, I, r, q⟩ := h; exact ⟨v, σ, H, I, r, m.rt _ _ q⟩
theorem uS.mono {st : Stmt} {σ : L2.St} {H : Hp} {D D' : Ends} (h : uS F st D σ H) (m : DLe D D') : uS F st D' σ H := fun i pins s I => thn (h i pins s I) fun _ _ q => sp_mono m q
theorem uSs.mono {sts : List Stmt} {σ : L2.St} {H : Hp} {D D' : Ends} (h : uSs F sts D σ H) (m : DLe D D') : uSs F sts D' σ H := fun i pins s I => thn (h i pins s I) fun _ _ q => sp_mono m q

/-! ### the judgements over data -/
abbrev St3 (F : Fm P w K mg base N) (M : OH) (H 𝓗 : Hp) : Prop := Cxt K F.B0 F.H0 M H 𝓗
/-- what a raw end knows -/
def QV (F : Fm P w K mg base N) (H : Hp) (Q : Sl → OH → Prop) : VK := fun v 𝓗 => ∃ H' M r, St3 F M H' 𝓗 ∧ Same H H' ∧ SlOk K H' v r ∧ Q r M
def QB (F : Fm P w K mg base N) (H : Hp) (Q : Bool → OH → Prop) : Bool → Hp → Prop := fun b 𝓗 => ∃ H' M, St3 F M H' 𝓗 ∧ Same H H' ∧ Q b M
def QA (F : Fm P w K mg base N) (H : Hp) (Q : List Sl → OH → Prop) : List V → Hp → Prop := fun vs 𝓗 => ∃ H' M rs, St3 F M H' 𝓗 ∧ Same H H' ∧ SlsOk K H' vs rs ∧ Q rs M
structure EW (F : Fm P w K mg base N) (ρ : Rho) (M : OH) (e : Expr) (Q : Sl → OH → Prop) : Prop where
  run : ∀ H 𝓗 σ, St3 F M H 𝓗 → EnvOk K H σ ρ → uE F e σ 𝓗 (QV F H Q)
structure TW (F : Fm P w K mg base N) (ρ : Rho) (M : OH) (e : Expr) (Q : Bool → OH → Prop) : Prop where
  run : ∀ H 𝓗 σ, St3 F M H 𝓗 → EnvOk K H σ ρ → uT F e σ 𝓗 (QB F H Q)
structure WW (F : Fm P w K mg base N) (ρ : Rho) (M : OH) (e : Expr) (Q : Bool → OH → Prop) : Prop where
  run : ∀ H 𝓗 σ, St3 F M H 𝓗 → EnvOk K H σ ρ → uW F e σ 𝓗 (QB F H Q)
structure AW (F : Fm P w K mg base N) (ρ : Rho) (M : OH) (es : List Expr) (Q : List Sl → OH → Prop) : Prop where
  run : ∀ H 𝓗 σ, St3 F M H 𝓗 → EnvOk K H σ ρ → uA F es σ 𝓗 (QA F H Q)
def ED (F : Fm P w K mg base N) (ρ : Rho) (M : OH) (e : Expr) (r : Sl) : Prop := EW F ρ M e fun r' M' => r' = r ∧ M' = M
def TD (F : Fm P w K mg base N) (ρ : Rho) (M : OH) (e : Expr) (b : Bool) : Prop := TW F ρ M e fun b' M' => b' = b ∧ M' = M
def AD (F : Fm P w K mg base N) (ρ : Rho) (M : OH) (es : List Expr) (rs : List Sl) : Prop := AW F ρ M es fun rs' M' => rs' = rs ∧ M' = M
structure DE where
  nx : Rho → OH → Prop
  rt : Sl → OH → Prop
  bk : Rho → OH → Prop := fun _ _ => False
  ct : Rho → OH → Prop := fun _ _ => False
def QN (F : Fm P w K mg base N) (H : Hp) (Q : Rho → OH → Prop) : L2.St → Hp → Prop := fun σ 𝓗 => ∃ ρ M H', St3 F M H' 𝓗 ∧ Same H H' ∧ EnvOk K H' σ ρ ∧ Q ρ M
def QR (F : Fm P w K mg base N) (Q : Sl → OH → Prop) : VK := fun v 𝓗 => ∃ r M H, St3 F M H 𝓗 ∧ SlOk K H v r ∧ Q r M
def rawD (F : Fm P w K mg base N) (H : Hp) (D : DE) : Ends := { nx := QN F H D.nx, rt := QR F D.rt, bk := QN F H D.bk, ct := QN F H D.ct }
structure S1 (F : Fm P w K mg base N) (ρ : Rho) (M : OH) (st : Stmt) (D : DE) : Prop where
  run : ∀ H 𝓗 σ, St3 F M H 𝓗 → EnvOk K H σ ρ → uS F st (rawD F H D) σ 𝓗
structure SX (F : Fm P w K mg base N) (ρ : Rho) (M : OH) (sts : List Stmt) (D : DE) : Prop where
  run : ∀ H 𝓗 σ, St3 F M H 𝓗 → EnvOk K H σ ρ → uSs F sts (rawD F H D) σ 𝓗

variable {ρ : Rho} {M : OH} {e a b c : Expr} {pos : Pos} {r r1 r2 : Sl} {Q : Sl → OH → Prop} {D : DE}
theorem EW.mono {Q' : Sl → OH → Prop} (h : EW F ρ M e Q) (m : ∀ r M', Q r M' → Q' r M') : EW F ρ M e Q' := .mk fun H 𝓗 σ c hE => (h.run H 𝓗 σ c hE).mono fun _ _ ⟨H', M', r, q1, q2, q3, q4⟩ => ⟨H', M', r, q1, q2, q3, m _ _ q4⟩
theorem TW.mono {Q Q' : Bool → OH → Prop} (h : TW F ρ M e Q) (m : ∀ r M', Q r M' → Q' r M') : TW F ρ M e Q' := .mk fun H 𝓗 σ c hE => (h.run H 𝓗 σ c hE).mono fun _ _ ⟨H', M', q1, q2, q4⟩ => ⟨H', M', q1, q2, m _ _ q4⟩
theorem AW.mono {es : List Expr} {Q Q' : List Sl → OH → Prop} (h : AW F ρ M es Q) (m : ∀ r M', Q r M' → Q' r M') : AW F ρ M es Q' := .mk fun H 𝓗 σ c hE => (h.run H 𝓗 σ c hE).mono fun _ _ ⟨H', M', r, q1, q2, q3, q4⟩ => ⟨H', M', r, q1, q2, q3, m _ _ q4⟩
theorem ED.ew (h : ED F ρ M e r) (q : Q r M) : EW F ρ M e Q := EW.mono h fun r' M' z => by rw [z.1, z.2]; exact q
theorem TD.tw {k : Bool} {Q : Bool → OH → Prop} (h : TD F ρ M e k) (q : Q k M) : TW F ρ M e Q := TW.mono h fun r' M' z => by rw [z.1, z.2]; exact q
theorem AD.aw {es : List Expr} {rs : List Sl} {Q : List Sl → OH → Prop} (h : AD F ρ M es rs) (q : Q rs M) : AW F ρ M es Q := AW.mono h fun r' M' z => by rw [z.1, z.2]; exact q
theorem ED.to (h : ED F ρ M e r) (q : r = r1) : ED F ρ M e r1 := by rw [← q]; exact h
theorem TD.to {k k' : Bool} (h : TD F ρ M e k) (q : k = k') : TD F ρ M e k' := by rw [← q]; exact h

/-! ### expressions -/
theorem ed_var {i : Nat} {x : Str} (hr : ρ[i]? = some r) (hk : known r := by trivial) (hN : N[i]? = some x := by decide +kernel)
    (hv : ∀ j, Vis (F.X j).env.scope x := by intro _; first | exact Or.inl rfl | exact Or.inr (Or.inl rfl) | exact Or.inr (Or.inr rfl)) (hd : (x == ("__debug__" : Str)) = false := by decide)
    (hcd : (x == ("__classdict__" : Str)) = false := by decide) : ED F ρ M (.Name x pos) r := .mk fun H 𝓗 σ c hE => by
  obtain ⟨v, e1, e2⟩ := hE.get hr hk
  exact uE.by (fun j => pe_var (i := i) (by rw [F.eN j]; exact hN) (hv j) hd hcd) ⟨v, e1, H, M, r, c, Same.refl H, e2, rfl, rfl⟩
theorem ed_c {v : V} (h : ∀ i, PE (F.X i) e (tC v)) (hs : ∀ H, SlOk K H v r) : ED F ρ M e r := .mk fun H 𝓗 σ c hE => uE.by h ⟨H, M, r, c, Same.refl H, hs H, rfl, rfl⟩
theorem ed_int {i : Int} {j} : ED F ρ M (.Constant (.int i) j pos) (.dat (.int i)) := ed_c (fun _ => pe_int) fun _ => rfl
theorem ed_bl {i : Bool} {j} : ED F ρ M (.Constant (.bool i) j pos) (.dat (.bl i)) := ed_c (fun _ => pe_bl) fun _ => rfl
theorem ed_non {j} : ED F ρ M (.Constant .none j pos) (.dat .non) := ed_c (fun _ => pe_non) fun _ => rfl
theorem ed_str {x : Str} {j} : ED F ρ M (.Constant (.str x) j pos) (.dat (.str x)) := ed_c (fun _ => pe_str) fun _ => rfl
/-- a module's constant -/
theorem ed_glob {x : Str} {v : V} {u : Value} (hm : mg x = some u) (q : RelV v u) (hs : ∀ H, SlOk K H v r) (hg : ∀ i, Gl (F.X i) x := by intro _; rfl) (hd : (x == ("__debug__" : Str)) = false := by decide) : ED F ρ M (.Name x pos) r :=
  ed_c (fun i => pe_glob (hg i) (by rw [F.eg i]; exact hm) q hd) hs
theorem QV.up {H H' : Hp} (e : Same H H') {v : V} {𝓗 : Hp} (h : QV F H' Q v 𝓗) : QV F H Q v 𝓗 := by
  obtain ⟨H1, M, r, q1, q2, q3, q4⟩ := h
  exact ⟨H1, M, r, q1, e.trans q2, q3, q4⟩
/-- a two-place operation: by what its rule asks of the values -/
abbrev Op2 (F : Fm P w K mg base N) (t : R2) (x y : Sl) (M : OH) (Q : Sl → OH → Prop) : Prop := ∀ H 𝓗 u v (Q' : VK), St3 F M H 𝓗 → SlOk K H u x → SlOk K H v y → (∀ v' 𝓗', QV F H Q v' 𝓗' → Q' v' 𝓗') → t u v 𝓗 Q'
theorem ew_op2 {t : R2} (hp : ∀ i, PE (F.X i) e (tOp t (uE F a) (uE F b))) (ha : EW F ρ M a fun x M1 => EW F ρ M1 b fun y M2 => Op2 F t x y M2 Q) : EW F ρ M e Q := .mk fun H 𝓗 σ c hE => by
  refine uE.by hp ((ha.run H 𝓗 σ c hE).mono fun u 𝓗1 ⟨H1, M1, x, c1, s1, q1, hb⟩ => ?_)
  refine (hb.run H1 𝓗1 σ c1 (hE.mono s1)).mono fun v 𝓗2 ⟨H2, M2, y, c2, s2, q2, ht⟩ => ?_
  exact ht H2 𝓗2 u v _ c2 (q1.mono s2) q2 fun v' 𝓗' z => z.up (s1.trans s2)
theorem ed_op2 {t : R2} (hp : ∀ i, PE (F.X i) e (tOp t (uE F a) (uE F b))) (ha : ED F ρ M a r1) (hb : ED F ρ M b r2) (ho : Op2 F t r1 r2 M fun r' M' => r' = r ∧ M' = M) : ED F ρ M e r :=
  ew_op2 hp (ha.ew (hb.ew ho))
/-- the value is had at once, nothing changes -/
theorem here {H 𝓗 : Hp} {v : V} {Q' : VK} (c : St3 F M H 𝓗) (k : ∀ v' 𝓗', QV F H (fun r' M' => r' = r ∧ M' = M) v' 𝓗' → Q' v' 𝓗') (h : SlOk K H v r) : Q' v 𝓗 := k v 𝓗 ⟨H, M, r, c, Same.refl H, h, rfl, rfl⟩
section
variable {i j : Int}
theorem op2_I0 {g : Int → Int → V} {d : Dt} (h : ∀ H, DA K H d (g i j)) : Op2 F (rI0 g) (.dat (.int i)) (.dat (.int j)) M fun r' M' => r' = .dat d ∧ M' = M := fun H 𝓗 u v Q' c e1 e2 k =>
  ⟨i, j, e1, e2, here c k (h H)⟩
theorem op2_I {C : Int → Int → Prop} {g : Int → Int → V} {d : Dt} (hc : C i j) (h : ∀ H, DA K H d (g i j)) : Op2 F (rI C g) (.dat (.int i)) (.dat (.int j)) M fun r' M' => r' = .dat d ∧ M' = M := fun H 𝓗 u v Q' c e1 e2 k =>
  ⟨i, j, e1, e2, hc, here c k (h H)⟩
theorem ed_add (ha : ED F ρ M a (.dat (.int i))) (hb : ED F ρ M b (.dat (.int j))) : ED F ρ M (.BinOp a .Add b pos) (.dat (.int (i + j))) := ed_op2 (fun _ => pe_op op_add (pe_u _) (pe_u _)) ha hb (op2_I0 fun _ => rfl)
theorem ed_sub (ha : ED F ρ M a (.dat (.int i))) (hb : ED F ρ M b (.dat (.int j))) : ED F ρ M (.BinOp a .Sub b pos) (.dat (.int (i - j))) := ed_op2 (fun _ => pe_op op_sub (pe_u _) (pe_u _)) ha hb (op2_I0 fun _ => rfl)
theorem ed_mul (ha : ED F ρ M a (.dat (.int i))) (hb : ED F ρ M b (.dat (.int j))) (h : CMul i j) : ED F ρ M (.BinOp a .Mult b pos) (.dat (.int (i * j))) := ed_op2 (fun _ => pe_op op_mul (pe_u _) (pe_u _)) ha hb (op2_I h fun _ => rfl)
theorem ed_mod (ha : ED F ρ M a (.dat (.int i))) (hb : ED F ρ M b (.dat (.int j))) (h : 0 < j) : ED F ρ M (.BinOp a .Mod b pos) (.dat (.int (i % j))) := ed_op2 (fun _ => pe_op op_mod (pe_u _) (pe_u _)) ha hb (op2_I h fun _ => rfl)
theorem ed_div (ha : ED F ρ M a (.dat (.int i))) (hb : ED F ρ M b (.dat (.int j))) (h : CDiv i j) : ED F ρ M (.BinOp a .FloorDiv b pos) (.dat (.int (i / j))) := ed_op2 (fun _ => pe_op op_fdiv (pe_u _) (pe_u _)) ha hb (op2_I h fun _ => rfl)
theorem ed_pow (ha : ED F ρ M a (.dat (.int i))) (hb : ED F ρ M b (.dat (.int j))) (h : CPow i j) : ED F ρ M (.BinOp a .Pow b pos) (.dat (.int (i ^ j.toNat))) := ed_op2 (fun _ => pe_op op_pow (pe_u _) (pe_u _)) ha hb (op2_I h fun _ => rfl)
theorem ed_shl (ha : ED F ρ M a (.dat (.int i))) (hb : ED F ρ M b (.dat (.int j))) (h : CPow i j) : ED F ρ M (.BinOp a .LShift b pos) (.dat (.int (i * 2 ^ j.toNat))) := ed_op2 (fun _ => pe_op op_shl (pe_u _) (pe_u _)) ha hb (op2_I h fun _ => rfl)
theorem ed_shr (ha : ED F ρ M a (.dat (.int i))) (hb : ED F ρ M b (.dat (.int j))) (h : 0 ≤ j) : ED F ρ M (.BinOp a .RShift b pos) (.dat (.int (i / 2 ^ j.toNat))) := ed_op2 (fun _ => pe_op op_shr (pe_u _) (pe_u _)) ha hb (op2_I h fun _ => rfl)
theorem ed_and2 (ha : ED F ρ M a (.dat (.int i))) (hb : ED F ρ M b (.dat (.int j))) : ED F ρ M (.BinOp a .BitAnd b pos) (.dat (.int (Builtin.bitAnd i j))) := ed_op2 (fun _ => pe_op op_and (pe_u _) (pe_u _)) ha hb (op2_I0 fun _ => rfl)
theorem ed_lt (ha : ED F ρ M a (.dat (.int i))) (hb : ED F ρ M b (.dat (.int j))) : ED F ρ M (.Compare a [.Lt] [b] pos) (.dat (.bl (decide (i < j)))) := ed_op2 (fun _ => pe_cmpR op_lt (pe_u _) (pe_u _) (nomark _)) ha hb (op2_I0 fun _ => rfl)
theorem ed_le (ha : ED F ρ M a (.dat (.int i))) (hb : ED F ρ M b (.dat (.int j))) : ED F ρ M (.Compare a [.LtE] [b] pos) (.dat (.bl (decide (i ≤ j)))) := ed_op2 (fun _ => pe_cmpR op_le (pe_u _) (pe_u _) (nomark _)) ha hb (op2_I0 fun _ => rfl)
theorem ed_gt (ha : ED F ρ M a (.dat (.int i))) (hb : ED F ρ M b (.dat (.int j))) : ED F ρ M (.Compare a [.Gt] [b] pos) (.dat (.bl (decide (j < i)))) := ed_op2 (fun _ => pe_cmpR op_gt (pe_u _) (pe_u _) (nomark _)) ha hb (op2_I0 fun _ => rfl)
theorem ed_ge (ha : ED F ρ M a (.dat (.int i))) (hb : ED F ρ M b (.dat (.int j))) : ED F ρ M (.Compare a [.GtE] [b] pos) (.dat (.bl (decide (j ≤ i)))) := ed_op2 (fun _ => pe_cmpR op_ge (pe_u _) (pe_u _) (nomark _)) ha hb (op2_I0 fun _ => rfl)
end
/-! ### tests -/
theorem TW.ofB {Q : Bool → OH → Prop} (h : EW F ρ M e fun r' M' => ∃ k, r' = .dat (.bl k) ∧ Q k M') (he : ∀ j whole, isTrue e (F.X j).env whole = (do let v ← whole; standAt e.pos; holding [v] (truthy v)) := by intro _ _; rfl) : TW F ρ M e Q := .mk fun H 𝓗 σ c hE =>
  uT.by (fun j => pt_val (pe_u j) (he j)) ((h.run H 𝓗 σ c hE).mono fun v 𝓗1 ⟨H1, M1, r', c1, s1, q1, k, e1, q⟩ => by
    subst e1
    exact ⟨k, q1, H1, M1, c1, s1, q⟩)
theorem TD.ofB {k : Bool} (h : ED F ρ M e (.dat (.bl k))) (he : ∀ j whole, isTrue e (F.X j).env whole = (do let v ← whole; standAt e.pos; holding [v] (truthy v)) := by intro _ _; rfl) : TD F ρ M e k := TW.ofB (h.ew ⟨k, rfl, rfl, rfl⟩) he
theorem td_op2 {t : R2} {k : Bool} (hp : ∀ i, PT (F.X i) e (tTest (tOp t (uE F a) (uE F b)))) (ha : ED F ρ M a r1) (hb : ED F ρ M b r2) (ho : Op2 F t r1 r2 M fun r' M' => r' = .dat (.bl k) ∧ M' = M) : TD F ρ M e k := .mk fun H 𝓗 σ c hE => by
  refine uT.by hp ((ha.run H 𝓗 σ c hE).mono fun u 𝓗1 ⟨H1, M1, x, c1, s1, q1, e1, e2⟩ => ?_)
  subst e1 e2
  refine (hb.run H1 𝓗1 σ c1 (hE.mono s1)).mono fun v 𝓗2 ⟨H2, M2, y, c2, s2, q2, e1, e2⟩ => ?_
  subst e1 e2
  refine ho H2 𝓗2 u v _ c2 (q1.mono s2) q2 fun v' 𝓗' ⟨H3, M3, z, c3, s3, q3, e1, e2⟩ => ?_
  subst e1 e2
  exact ⟨k, q3, H3, M3, c3, (s1.trans s2).trans s3, rfl, rfl⟩
section
variable {i j : Int}
theorem td_lt (ha : ED F ρ M a (.dat (.int i))) (hb : ED F ρ M b (.dat (.int j))) : TD F ρ M (.Compare a [.Lt] [b] pos) (decide (i < j)) := td_op2 (fun _ => pt_cmpR op_lt (pe_u _) (pe_u _) (nomark _)) ha hb (op2_I0 fun _ => rfl)
theorem td_le (ha : ED F ρ M a (.dat (.int i))) (hb : ED F ρ M b (.dat (.int j))) : TD F ρ M (.Compare a [.LtE] [b] pos) (decide (i ≤ j)) := td_op2 (fun _ => pt_cmpR op_le (pe_u _) (pe_u _) (nomark _)) ha hb (op2_I0 fun _ => rfl)
theorem td_gt (ha : ED F ρ M a (.dat (.int i))) (hb : ED F ρ M b (.dat (.int j))) : TD F ρ M (.Compare a [.Gt] [b] pos) (decide (j < i)) := td_op2 (fun _ => pt_cmpR op_gt (pe_u _) (pe_u _) (nomark _)) ha hb (op2_I0 fun _ => rfl)
theorem td_ge (ha : ED F ρ M a (.dat (.int i))) (hb : ED F ρ M b (.dat (.int j))) : TD F ρ M (.Compare a [.GtE] [b] pos) (decide (j ≤ i)) := td_op2 (fun _ => pt_cmpR op_ge (pe_u _) (pe_u _) (nomark _)) ha hb (op2_I0 fun _ => rfl)
end
end
end DL
namespace DL
open PySem PySem.Spec PyProof.Rows L2
section
variable {P : Program} {w : World} {K : PySem.W.Frag} {mg : Str → Option Value} {base : Heap} {N : List Str} {F : Fm P w K mg base N}
variable {ρ : Rho} {M : OH} {e a b c : Expr} {pos : Pos} {r r1 r2 : Sl} {Q : Sl → OH → Prop} {D : DE}

abbrev NS (F : Fm P w K mg base N) (e : Expr) (es : List Expr) : Prop := ∀ j, starEach (e :: es) (F.X j).env = (false, eval e (F.X j).env) :: starEach es (F.X j).env
abbrev NP (F : Fm P w K mg base N) (pos : Pos) (es : List Expr) : Prop := ∀ j, (backTo pos (starEach es (F.X j).env)).any (·.1) = false
abbrev GL (F : Fm P w K mg base N) (x : Str) : Prop := ∀ i, Gl (F.X i) x
/-! ### statements -/
theorem QN.imp {H H' : Hp} (e : Same H H') {Q Q' : Rho → OH → Prop} (m : ∀ ρ M, Q ρ M → Q' ρ M) : ∀ σ 𝓗, QN F H' Q σ 𝓗 → QN F H Q' σ 𝓗 := fun _ _ ⟨ρ, M, H, a, s, b, q⟩ => ⟨ρ, M, H, a, e.trans s, b, m _ _ q⟩
theorem QR.imp {Q Q' : Sl → OH → Prop} (m : ∀ ρ M, Q ρ M → Q' ρ M) : ∀ σ 𝓗, QR F Q σ 𝓗 → QR F Q' σ 𝓗 := fun _ _ ⟨ρ, M, H, a, b, q⟩ => ⟨ρ, M, H, a, b, m _ _ q⟩
theorem DLe.up {H H' : Hp} (e : Same H H') : DLe (rawD F H' D) (rawD F H D) := ⟨QN.imp e fun _ _ q => q, fun _ _ q => q, QN.imp e fun _ _ q => q, QN.imp e fun _ _ q => q⟩
theorem S1.mono {st : Stmt} {D' : DE} (h : S1 F ρ M st D) (m1 : ∀ ρ M, D.nx ρ M → D'.nx ρ M) (m2 : ∀ r M, D.rt r M → D'.rt r M) (m3 : ∀ ρ M, D.bk ρ M → D'.bk ρ M) (m4 : ∀ ρ M, D.ct ρ M → D'.ct ρ M) : S1 F ρ M st D' := .mk fun H 𝓗 σ c hE =>
  (h.run H 𝓗 σ c hE).mono ⟨QN.imp (Same.refl H) m1, QR.imp m2, QN.imp (Same.refl H) m3, QN.imp (Same.refl H) m4⟩
theorem SX.mono {st : List Stmt} {D' : DE} (h : SX F ρ M st D) (m1 : ∀ ρ M, D.nx ρ M → D'.nx ρ M) (m2 : ∀ r M, D.rt r M → D'.rt r M) (m3 : ∀ ρ M, D.bk ρ M → D'.bk ρ M) (m4 : ∀ ρ M, D.ct ρ M → D'.ct ρ M) : SX F ρ M st D' := .mk fun H 𝓗 σ c hE =>
  (h.run H 𝓗 σ c hE).mono ⟨QN.imp (Same.refl H) m1, QR.imp m2, QN.imp (Same.refl H) m3, QN.imp (Same.refl H) m4⟩
/-- a statement list at an elder wish -/
theorem SX.at {st : List Stmt} {H H' 𝓗 : Hp} {σ : L2.St} (h : SX F ρ M st D) (c : St3 F M H' 𝓗) (hE : EnvOk K H' σ ρ) (e : Same H H') : uSs F st (rawD F H D) σ 𝓗 := (h.run H' 𝓗 σ c hE).mono (DLe.up e)
theorem sx_nil (h : D.nx ρ M) : SX F ρ M [] D := .mk fun H 𝓗 σ c hE => uSs.by (fun _ => pss_nil) ⟨ρ, M, H, c, Same.refl H, hE, h⟩
theorem sx_cons {st : Stmt} {rest : List Stmt} (h : S1 F ρ M st { D with nx := fun ρ' M' => SX F ρ' M' rest D }) : SX F ρ M (st :: rest) D := .mk fun H 𝓗 σ c hE =>
  uSs.by (fun _ => pss_cons (ps_u _) (pss_u _)) ((h.run H 𝓗 σ c hE).mono (D' := { rawD F H D with nx := uSs F rest (rawD F H D) }) ⟨fun σ' 𝓗' ⟨ρ', M', H', c', s', hE', q⟩ => q.at c' hE' s', fun _ _ q => q, fun _ _ q => q, fun _ _ q => q⟩)
theorem sx_one {st : Stmt} (h : S1 F ρ M st D) : SX F ρ M [st] D := .mk fun H 𝓗 σ c hE => uSs.by (fun _ => pss_one (ps_u _)) (h.run H 𝓗 σ c hE)
/-- a word between a statement and the rest -/
theorem sx_cut {st : Stmt} {rest : List Stmt} (Mid : Rho → OH → Prop) (h : S1 F ρ M st { D with nx := Mid }) (k : ∀ ρ' M', Mid ρ' M' → SX F ρ' M' rest D) : SX F ρ M (st :: rest) D := sx_cons (h.mono k (fun _ _ q => q) (fun _ _ q => q) fun _ _ q => q)
theorem s_pass (h : D.nx ρ M) : S1 F ρ M (.Pass pos) D := .mk fun H 𝓗 σ c hE => uS.by (fun _ => ps_pass) ⟨ρ, M, H, c, Same.refl H, hE, h⟩
theorem s_break (h : D.bk ρ M) : S1 F ρ M (.Break pos) D := .mk fun H 𝓗 σ c hE => uS.by (fun _ => ps_break) ⟨ρ, M, H, c, Same.refl H, hE, h⟩
theorem s_continue (h : D.ct ρ M) : S1 F ρ M (.Continue pos) D := .mk fun H 𝓗 σ c hE => uS.by (fun _ => ps_continue) ⟨ρ, M, H, c, Same.refl H, hE, h⟩
theorem s_expr (h : EW F ρ M e fun _ M' => D.nx ρ M') (hs : ∀ j, swapsWith e none pos.line (F.X j).env = pure false := by intro _; rfl) : S1 F ρ M (.Expr e pos) D := .mk fun H 𝓗 σ c hE =>
  uS.by (fun j => ps_expr (pe_u j) (hs j)) ((h.run H 𝓗 σ c hE).mono fun v 𝓗' ⟨H', M', r, c', s', q, n⟩ => ⟨ρ, M', H', c', s', hE.mono s', n⟩)
theorem s_ret (h : EW F ρ M e D.rt) : S1 F ρ M (.Return (some e) pos) D := .mk fun H 𝓗 σ c hE =>
  uS.by (fun j => ps_ret (pe_u j)) ((h.run H 𝓗 σ c hE).mono fun v 𝓗' ⟨H', M', r, c', s', q, n⟩ => ⟨r, M', H', c', q, n⟩)
theorem s_retN (h : D.rt (.dat .non) M) : S1 F ρ M (.Return none pos) D := .mk fun H 𝓗 σ c hE => uS.by (fun j => ps_retN) ⟨.dat .non, M, H, c, rfl, h⟩
theorem s_setW (i : Nat) {x : Str} {pos' : Pos} (h : EW F ρ M e fun r M' => D.nx (ρ.set i r) M') (hi : N[i]? = some x := by decide +kernel) (hx : ∀ j, Loc (F.X j).env.scope x := by intro _; first | exact Or.inl rfl | exact Or.inr rfl)
    (hs : ∀ j, swapsWith e (some (.Name x pos')) pos.line (F.X j).env = pure false := by intro _; rfl) (hf : ∀ j, (F.X j).fn x = true ∨ (F.X j).env.scope.names.lookup x = some .local := by intro _; first | exact .inl rfl | exact .inr rfl) :
    S1 F ρ M (.Assign [.Name x pos'] e pos) D := .mk fun H 𝓗 σ c hE =>
  uS.by (fun j => ps_set (by rw [F.eN j]; exact F.nd) (by rw [F.eN j]; exact hi) (hx j) (pe_u j) (hs j) (hf j)) ((h.run H 𝓗 σ c hE).mono fun v 𝓗' ⟨H', M', r, c', s', q, n⟩ => ⟨ρ.set i r, M', H', c', s', (hE.mono s').set i q, n⟩)
theorem s_set (i : Nat) {x : Str} {pos' : Pos} (h : ED F ρ M e r) (k : D.nx (ρ.set i r) M) (hi : N[i]? = some x := by decide +kernel) (hx : ∀ j, Loc (F.X j).env.scope x := by intro _; first | exact Or.inl rfl | exact Or.inr rfl)
    (hs : ∀ j, swapsWith e (some (.Name x pos')) pos.line (F.X j).env = pure false := by intro _; rfl) (hf : ∀ j, (F.X j).fn x = true ∨ (F.X j).env.scope.names.lookup x = some .local := by intro _; first | exact .inl rfl | exact .inr rfl) :
    S1 F ρ M (.Assign [.Name x pos'] e pos) D := s_setW i (h.ew k) hi hx hs hf
theorem s_augI {i : Nat} {x : Str} {pos' : Pos} {op : Operator} {f : Int → Int → Int} {m n : Int} (ho : ∀ j, PIp (F.X j) op (ipI f)) (hr : ρ[i]? = some (.dat (.int m))) (h : ED F ρ M e (.dat (.int n))) (k : D.nx (ρ.set i (.dat (.int (f m n)))) M)
    (hi : N[i]? = some x := by decide +kernel) (hx : ∀ j, Loc (F.X j).env.scope x := by intro _; first | exact Or.inl rfl | exact Or.inr rfl)
    (hf : ∀ j, (F.X j).fn x = true ∨ (F.X j).env.scope.names.lookup x = some .local := by intro _; first | exact .inl rfl | exact .inr rfl) : S1 F ρ M (.AugAssign (.Name x pos') op e pos) D := .mk fun H 𝓗 σ c hE => by
  obtain ⟨v, e1, e2⟩ := hE.get hr trivial
  refine uS.by (fun j => ps_aug (by rw [F.eN j]; exact F.nd) (by rw [F.eN j]; exact hi) (hx j) (pe_u j) (ho j) (hf j)) ⟨v, e1, (h.run H 𝓗 σ c hE).mono fun v' 𝓗' ⟨H', M', r, c', s', q, n1, n2⟩ => ?_⟩
  subst n1 n2
  exact ⟨m, n, e2, q, ρ.set i (.dat (.int (f m n))), M', H', c', s', (hE.mono s').set i (show DA K H' (.int (f m n)) (.int (f m n)) by unfold DA; rfl), k⟩
theorem s_augAdd (i : Nat) {x : Str} {pos' : Pos} {m n : Int} (hr : ρ[i]? = some (.dat (.int m))) (h : ED F ρ M e (.dat (.int n))) (k : D.nx (ρ.set i (.dat (.int (m + n)))) M)
    (hi : N[i]? = some x := by decide +kernel) (hx : ∀ j, Loc (F.X j).env.scope x := by intro _; first | exact Or.inl rfl | exact Or.inr rfl)
    (hf : ∀ j, (F.X j).fn x = true ∨ (F.X j).env.scope.names.lookup x = some .local := by intro _; first | exact .inl rfl | exact .inr rfl) : S1 F ρ M (.AugAssign (.Name x pos') .Add e pos) D := s_augI (fun _ => ip_add) hr h k hi hx hf
theorem s_augSub (i : Nat) {x : Str} {pos' : Pos} {m n : Int} (hr : ρ[i]? = some (.dat (.int m))) (h : ED F ρ M e (.dat (.int n))) (k : D.nx (ρ.set i (.dat (.int (m - n)))) M)
    (hi : N[i]? = some x := by decide +kernel) (hx : ∀ j, Loc (F.X j).env.scope x := by intro _; first | exact Or.inl rfl | exact Or.inr rfl)
    (hf : ∀ j, (F.X j).fn x = true ∨ (F.X j).env.scope.names.lookup x = some .local := by intro _; first | exact .inl rfl | exact .inr rfl) : S1 F ρ M (.AugAssign (.Name x pos') .Sub e pos) D := s_augI (fun _ => ip_sub) hr h k hi hx hf
theorem s_ifW {t u : List Stmt} (h : TW F ρ M c fun k M' => if k = true then SX F ρ M' t D else SX F ρ M' u D) : S1 F ρ M (.If c t u pos) D := .mk fun H 𝓗 σ c hE =>
  uS.by (fun j => ps_if (pt_u j) (pss_u j) (pss_u j)) ((h.run H 𝓗 σ c hE).mono fun k 𝓗' ⟨H', M', c', s', q⟩ => by
    cases k with
    | true => exact SX.at q c' (hE.mono s') s'
    | false => exact SX.at q c' (hE.mono s') s')
theorem s_if {t u : List Stmt} {k : Bool} (h : TD F ρ M c k) (h1 : k = true → SX F ρ M t D) (h2 : k = false → SX F ρ M u D) : S1 F ρ M (.If c t u pos) D := s_ifW (h.tw (by
  cases k with
  | true => exact h1 rfl
  | false => exact h2 rfl))
/-- while: W by a measure -/
theorem s_while {body : List Stmt} (W : Nat → Rho → OH → Prop) (m0 : Nat) (h0 : W m0 ρ M)
    (hs : ∀ m ρ M, W m ρ M → TW F ρ M c fun k M' => if k = true then SX F ρ M' body { D with nx := fun ρ2 M2 => ∃ m', m' < m ∧ W m' ρ2 M2, ct := fun ρ2 M2 => ∃ m', m' < m ∧ W m' ρ2 M2, bk := D.nx } else D.nx ρ M') : S1 F ρ M (.While c body [] pos) D := .mk fun H 𝓗 σ c hE => by
  refine uS.by (fun j => ps_while (F.po j) (pt_u j) (pss_u j)) ⟨fun m => QN F H (W m), ⟨m0, ρ, M, H, c, Same.refl H, hE, h0⟩, fun m σ1 𝓗1 ⟨ρ1, M1, H1, c1, s1, hE1, w1⟩ => ?_⟩
  refine ((hs m ρ1 M1 w1).run H1 𝓗1 σ1 c1 hE1).mono fun k 𝓗' ⟨H', M', c', s', q⟩ => ?_
  cases k with
  | true => exact ⟨_, fun σ2 𝓗2 ⟨ρ2, M2, H2, c2, s2, hE2, m', lt, w2⟩ => ⟨m', lt, ρ2, M2, H2, c2, s2, hE2, w2⟩, SX.at q c' (hE1.mono s') (s1.trans s')⟩
  | false => exact ⟨ρ1, M', H', c', s1.trans s', hE1.mono s', q⟩

/-! ### lists and tuples -/
inductive LsOf (M : OH) : Sl → List Sl → Prop
  | dat (ds : List Dt) : LsOf M (.dat (.lst ds)) (ds.map .dat)
  | scr (ds : List Dt) : LsOf M (.dat (.scr ds)) (ds.map .dat)
  | raw {p : Addr} {xs : List Sl} : M p = some xs → LsOf M (.raw (.ref p)) xs
inductive SqOf (M : OH) : Sl → List Sl → Prop
  | l {r : Sl} {xs : List Sl} : LsOf M r xs → SqOf M r xs
  | t (ds : List Dt) : SqOf M (.dat (.tup ds)) (ds.map .dat)
theorem LsOf.seq {s : Sl} {xs : List Sl} {H 𝓗 : Hp} {v : V} (h : LsOf M s xs) (c : St3 F M H 𝓗) (q : SlOk K H v s) : ∃ p vs, v = .ref p ∧ SqL K 𝓗 p vs ∧ SlsOk K H vs xs := by
  cases h with
  | dat ds =>
    have q' : DA K H (.lst ds) v := q
    unfold DA at q'
    obtain ⟨p, vs, e1, e2, e3⟩ := q'
    exact ⟨p, vs, e1, SqL.of (c.u _ _ e2), SlsOk.das.mpr e3⟩
  | scr ds =>
    have q' : DA K H (.scr ds) v := q
    unfold DA at q'
    obtain ⟨p, vs, e1, e2, e3⟩ := q'
    exact ⟨p, vs, e1, c.u.seq e2, SlsOk.das.mpr e3⟩
  | raw e =>
    obtain ⟨_, _, vs, e2, e3⟩ := c.o _ _ e
    exact ⟨_, vs, q, SqL.of e2, e3⟩
theorem tup_seq {ds : List Dt} {H 𝓗 : Hp} {v : V} (c : St3 F M H 𝓗) (q : SlOk K H v (.dat (.tup ds))) : ∃ p vs, v = .ref p ∧ SqT K 𝓗 p vs ∧ SlsOk K H vs (ds.map .dat) := by
  have q' : DA K H (.tup ds) v := q
  unfold DA at q'
  obtain ⟨p, vs, e1, e2, e3⟩ := q'
  refine ⟨p, vs, e1, ?_, SlsOk.das.mpr e3⟩
  rcases e2 with (e2 | ⟨o, e2⟩) | e2
  · exact .inl (.inl (c.u _ _ e2))
  · exact .inl (.inr ⟨o, c.u _ _ e2⟩)
  · exact .inr e2
theorem SqOf.seq {s : Sl} {xs : List Sl} {H 𝓗 : Hp} {v : V} (h : SqOf M s xs) (c : St3 F M H 𝓗) (q : SlOk K H v s) : ∃ p vs, v = .ref p ∧ (SqL K 𝓗 p vs ∨ SqT K 𝓗 p vs) ∧ SlsOk K H vs xs := by
  cases h with
  | l h => obtain ⟨p, vs, a, b, d⟩ := h.seq c q; exact ⟨p, vs, a, .inl b, d⟩
  | t ds => obtain ⟨p, vs, a, b, d⟩ := tup_seq c q; exact ⟨p, vs, a, .inr b, d⟩
/-- a new owned list -/
def EL (F : Fm P w K mg base N) (ρ : Rho) (M : OH) (e : Expr) (xs : List Sl) : Prop := EW F ρ M e fun r M' => ∃ p, M p = none ∧ r = .raw (.ref p) ∧ M' = oset M p xs
theorem EL.ew {xs : List Sl} (h : EL F ρ M e xs) (k : ∀ p, M p = none → Q (.raw (.ref p)) (oset M p xs)) : EW F ρ M e Q := EW.mono h fun r M' ⟨p, e1, e2, e3⟩ => by subst e2 e3; exact k p e1
/-- frozen at once -/
theorem EW.freeze {ds : List Dt} (h : EW F ρ M e fun r M' => ∃ p, r = .raw (.ref p) ∧ M' p = some (ds.map .dat) ∧ Q (.dat (.lst ds)) (odel M' p)) : EW F ρ M e Q := .mk fun H 𝓗 σ c hE =>
  (h.run H 𝓗 σ c hE).mono fun v 𝓗' ⟨H', M', r, c', s', q, p, e1, e2, e3⟩ => by
    subst e1
    obtain ⟨H2, c2, s2, d2⟩ := c'.frz e2
    have q' : v = .ref p := q
    subst q'
    exact ⟨H2, _, .dat (.lst ds), c2, s'.trans s2, d2, e3⟩
theorem EL.ed {ds : List Dt} (h : EL F ρ M e (ds.map .dat)) : ED F ρ M e (.dat (.lst ds)) := EW.freeze (h.ew fun p hp => ⟨p, rfl, oset_same, rfl, odel_oset hp⟩)
theorem EL.to {xs ys : List Sl} (h : EL F ρ M e xs) (q : xs = ys) : EL F ρ M e ys := by rw [← q]; exact h

theorem ad_nil : AD F ρ M [] [] := .mk fun H 𝓗 σ c hE => uA.by (fun _ => pa_nil) ⟨H, M, [], c, Same.refl H, .nil, rfl, rfl⟩
theorem aw_nil {Q : List Sl → OH → Prop} (h : Q [] M) : AW F ρ M [] Q := .mk fun H 𝓗 σ c hE => uA.by (fun _ => pa_nil) ⟨H, M, [], c, Same.refl H, .nil, h⟩
theorem aw_cons {es : List Expr} {Q : List Sl → OH → Prop} (h : EW F ρ M e fun r M1 => AW F ρ M1 es fun rs M2 => Q (r :: rs) M2) (hs : NS F e es := by intro _; rfl) : AW F ρ M (e :: es) Q := .mk fun H 𝓗 σ c hE => by
  refine uA.by (fun j => pa_cons (pe_u j) (pa_u j) (hs j)) ((h.run H 𝓗 σ c hE).mono fun v 𝓗1 ⟨H1, M1, r, c1, s1, q1, k⟩ => ?_)
  refine (k.run H1 𝓗1 σ c1 (hE.mono s1)).mono fun vs 𝓗2 ⟨H2, M2, rs, c2, s2, q2, k2⟩ => ?_
  exact ⟨H2, M2, r :: rs, c2, s1.trans s2, .cons (q1.mono s2) q2, k2⟩
theorem ad_cons {es : List Expr} {rs : List Sl} (h : ED F ρ M e r) (h2 : AD F ρ M es rs) (hs : NS F e es := by intro _; rfl) : AD F ρ M (e :: es) (r :: rs) :=
  aw_cons (h.ew (h2.aw ⟨rfl, rfl⟩)) hs
theorem sz5 {n : Nat} (h : n ≤ 100000) : n ≤ sizeLine := Nat.le_trans h (by decide)
theorem sz5l {n : Nat} (h : n ≤ 100000) : n < sizeLine := Nat.lt_of_le_of_lt h (by decide)
/-- [a, b, ..] -/
theorem el_lst {es : List Expr} {rs : List Sl} (h : AD F ρ M es rs) (hz : rs.length ≤ 100000) : EL F ρ M (.List es pos) rs := .mk fun H 𝓗 σ c hE =>
  uE.by (fun j => pe_lst (pa_u j)) ((h.run H 𝓗 σ c hE).mono fun vs 𝓗' ⟨H', M', rs', c', s', q, n1, n2⟩ => by
    subst n1 n2
    refine ⟨sz5 (by rw [q.length]; exact hz), fun p hp => ?_⟩
    exact ⟨H', _, .raw (.ref p), c'.newL hp q, s', rfl, p, (c'.none_of hp).2.2, rfl, rfl⟩)
theorem ed_lst {es : List Expr} {ds : List Dt} (h : AD F ρ M es (ds.map .dat)) (hz : ds.length ≤ 100000) : ED F ρ M (.List es pos) (.dat (.lst ds)) := (el_lst h (by rw [List.length_map]; exact hz)).ed
theorem ed_tup {es : List Expr} {ds : List Dt} {x1} (h : AD F ρ M es (ds.map .dat)) (hz : ds.length ≤ 100000) : ED F ρ M (.Tuple es x1 pos) (.dat (.tup ds)) := .mk fun H 𝓗 σ c hE =>
  uE.by (fun j => pe_tup (pa_u j)) ((h.run H 𝓗 σ c hE).mono fun vs 𝓗' ⟨H', M', rs', c', s', q, n1, n2⟩ => by
    subst n1 n2
    have hd := SlsOk.das.mp q
    refine ⟨sz5 (by rw [hd.len]; exact hz), fun p hp => ?_⟩
    obtain ⟨c2, s2⟩ := c'.newF (o := .tup vs) hp
    refine ⟨_, _, _, c2, s'.trans s2, ?_, rfl, rfl⟩
    show DA K _ (.tup ds) _
    unfold DA
    exact ⟨p, vs, rfl, SqT.of upd_same, hd.mono s2⟩)
/-- xs[i] -/
theorem slget {H : Hp} {vs : List V} {xs : List Sl} {k : Nat} (h : SlsOk K H vs xs) (e : xs[k]? = some r) : ∃ v, vs[k]? = some v ∧ SlOk K H v r := paired_get h e
theorem fIxL (i : F.ι) : IxR (F.X i) (rIxL K) := by have h := ix_list (X := F.X i); rw [F.eK i] at h; exact h
theorem fIxT (i : F.ι) : IxR (F.X i) (rIxT K) := by have h := ix_tup (X := F.X i); rw [F.eK i] at h; exact h
theorem ed_ixL {s : Sl} {xs : List Sl} {k : Nat} {i : Int} (ha : ED F ρ M a s) (hb : ED F ρ M b (.dat (.int i))) (hl : LsOf M s xs) (hi : i = (k : Int)) (hk : xs[k]? = some r) (hp : PlainIx b := by exact fun _ _ => rfl) : ED F ρ M (.Subscript a b pos) r := by
  subst hi
  refine ed_op2 (fun i => pe_ix (fIxL i) (pe_u _) (pe_u _) hp) ha hb fun H 𝓗 u v Q' c q1 q2 kk => ?_
  obtain ⟨p, vs, rfl, e2, e3⟩ := hl.seq c q1
  obtain ⟨z, e4, e5⟩ := slget e3 hk
  have q2' : v = .int (k : Int) := q2
  exact ⟨p, vs, k, z, rfl, q2', e2, atI_nat e4, here c kk e5⟩
theorem ed_ixT {ds : List Dt} {d : Dt} {k : Nat} {i : Int} (ha : ED F ρ M a (.dat (.tup ds))) (hb : ED F ρ M b (.dat (.int i))) (hi : i = (k : Int)) (hk : ds[k]? = some d) (hp : PlainIx b := by exact fun _ _ => rfl) : ED F ρ M (.Subscript a b pos) (.dat d) := by
  subst hi
  refine ed_op2 (fun i => pe_ix (fIxT i) (pe_u _) (pe_u _) hp) ha hb fun H 𝓗 u v Q' c q1 q2 kk => ?_
  obtain ⟨p, vs, rfl, e2, e3⟩ := tup_seq c q1
  obtain ⟨z, e4, e5⟩ := slget (r := .dat d) e3 (by rw [List.getElem?_map, hk]; rfl)
  have q2' : v = .int (k : Int) := q2
  exact ⟨p, vs, k, z, rfl, q2', e2, atI_nat e4, here c kk e5⟩
theorem ed_ixD {ds : List Dt} {d : Dt} {k : Nat} {i : Int} (ha : ED F ρ M a (.dat (.lst ds))) (hb : ED F ρ M b (.dat (.int i))) (hi : i = (k : Int)) (hk : ds[k]? = some d) (hp : PlainIx b := by exact fun _ _ => rfl) : ED F ρ M (.Subscript a b pos) (.dat d) :=
  ed_ixL ha hb (.dat ds) hi (by rw [List.getElem?_map, hk]; rfl) hp
/-! ### calls of built-ins -/
def CallD (F : Fm P w K mg base N) (t : List V → Hp → VK → Prop) (rs : List Sl) (M : OH) (Q : Sl → OH → Prop) : Prop := ∀ H 𝓗 vs (Q' : VK), St3 F M H 𝓗 → SlsOk K H vs rs → (∀ v' 𝓗', QV F H Q v' 𝓗' → Q' v' 𝓗') → t vs 𝓗 Q'
theorem ew_cb {es : List Expr} {t : List V → Hp → VK → Prop} (hp : ∀ i, PE (F.X i) e (tCB t (uA F es))) (ha : AW F ρ M es fun rs M1 => CallD F t rs M1 Q) : EW F ρ M e Q := .mk fun H 𝓗 σ c hE => by
  refine uE.by hp ((ha.run H 𝓗 σ c hE).mono fun vs 𝓗1 ⟨H1, M1, rs, c1, s1, q1, ht⟩ => ?_)
  exact ht H1 𝓗1 vs _ c1 q1 fun v' 𝓗' z => z.up s1
theorem sl1 {H : Hp} {vs : List V} {s : Sl} (h : SlsOk K H vs [s]) : ∃ v, vs = [v] ∧ SlOk K H v s := by
  cases h with
  | cons a b => cases b; exact ⟨_, rfl, a⟩
theorem sl2 {H : Hp} {vs : List V} {s t : Sl} (h : SlsOk K H vs [s, t]) : ∃ v u, vs = [v, u] ∧ SlOk K H v s ∧ SlOk K H u t := by
  cases h with
  | cons a b =>
    obtain ⟨u, rfl, q⟩ := sl1 b
    exact ⟨_, _, rfl, a, q⟩
theorem fLen (i : F.ι) : CallR (F.X i) (.builtin "len") (fun xs H Q => ∃ p ys, xs = [.ref p] ∧ (SqL K H p ys ∨ SqT K H p ys) ∧ Q (.int ys.length) H) := by have h := call_len_seq (X := F.X i); rw [F.eK i] at h; exact h
theorem hmg {x : Str} {o : Option Value} (h : mg x = o) (i : F.ι) : (F.X i).mg x = o := by rw [F.eg i]; exact h
theorem ed_len {s : Sl} {xs : List Sl} {p : Pos} (ml : mg "len" = none) (ha : ED F ρ M a s) (hl : SqOf M s xs) (hg : GL F "len" := by intro _; rfl)
    (hs : NS F a [] := by intro _; rfl) (hpl : NP F pos [] := by intro _; rfl) : ED F ρ M (.Call (.Name "len" p) [a] [] pos) (.dat (.int (xs.length : Int))) := by
  refine ew_cb (fun i => pe_callB (fLen i) (hg i) (hmg ml i) PySem.boot_len (pa_u i) (he := hs i) (hpl := hpl i)) ((ad_cons ha ad_nil hs).aw fun H 𝓗 vs Q' c q k => ?_)
  obtain ⟨v, rfl, qv⟩ := sl1 q
  obtain ⟨p, ws, rfl, e2, e3⟩ := hl.seq c qv
  refine ⟨p, ws, rfl, e2, here c k ?_⟩
  show DA K H _ _
  unfold DA
  rw [e3.length]
theorem ed_max2 {p : Pos} {i j : Int} (mm : mg "max" = none) (ha : ED F ρ M a (.dat (.int i))) (hb : ED F ρ M b (.dat (.int j))) (hg : GL F "max" := by intro _; rfl)
    (hs : NS F a [b] := by intro _; rfl) (hs2 : NS F b [] := by intro _; rfl) (hpl : NP F pos [b] := by intro _; rfl) :
    ED F ρ M (.Call (.Name "max" p) [a, b] [] pos) (.dat (.int (if j > i then j else i))) := by
  refine ew_cb (fun i => pe_callB (call_max2 (F.hc i)) (hg i) (hmg mm i) (by decide +kernel) (pa_u i) (he := hs i) (hpl := hpl i)) ((ad_cons ha (ad_cons hb ad_nil hs2) hs).aw fun H 𝓗 vs Q' c q k => ?_)
  obtain ⟨v, u, rfl, q1, q2⟩ := sl2 q
  have q1' : v = .int i := q1
  have q2' : u = .int j := q2
  subst q1' q2'
  exact ⟨i, j, rfl, here c k rfl⟩
theorem ed_intB {p : Pos} {k : Bool} (mm : mg "int" = none) (ha : ED F ρ M a (.dat (.bl k))) (hg : GL F "int" := by intro _; rfl)
    (hs : NS F a [] := by intro _; rfl) (hpl : NP F pos [] := by intro _; rfl) : ED F ρ M (.Call (.Name "int" p) [a] [] pos) (.dat (.int (if k then 1 else 0))) := by
  refine ew_cb (fun i => pe_callTy call_int1 (hg i) (hmg mm i) (by decide +kernel) (pa_u i) (he := hs i) (hpl := hpl i)) ((ad_cons ha ad_nil hs).aw fun H 𝓗 vs Q' c q kk => ?_)
  obtain ⟨v, rfl, qv⟩ := sl1 q
  have q' : v = .bl k := qv
  subst q'
  exact .inr ⟨k, rfl, here c kk rfl⟩
end
end DL
namespace DL
open PySem PySem.Spec PyProof.Rows L2
section
variable {P : Program} {w : World} {K : PySem.W.Frag} {mg : Str → Option Value} {base : Heap} {N : List Str} {F : Fm P w K mg base N}
variable {ρ : Rho} {M : OH} {e a b c : Expr} {pos : Pos} {r r1 r2 : Sl} {Q : Sl → OH → Prop} {D : DE}

/-! ### promises -/
/-- what a def promises: of the arguments and the owned lists that it is handed -/
structure Pr where
  pre : List Sl → OH → Prop
  post : List Sl → OH → Sl → OH → Prop
  err : List Sl → OH → Addr → OH → Prop := fun _ _ _ _ => False
def spM (K : PySem.W.Frag) (p : Pr) : Sp := fun vs 𝓗 Q E => ∃ H B M rs, Cxt K B H M H 𝓗 ∧ SlsOk K H vs rs ∧ p.pre rs M ∧ (∀ v r H' 𝓗' M', Cxt K B H M' H' 𝓗' → SlOk K H' v r → p.post rs M r M' → Q v 𝓗') ∧
  (∀ C H' 𝓗' M', Cxt K B H M' H' 𝓗' → p.err rs M C M' → E (.ref C) none 𝓗')
/-- the owned lists behind a call that was handed Mp of them -/
def omerge (M Mp M' : OH) : OH := fun a => match M' a with | some xs => some xs | none => if (Mp a).isSome = true then none else M a
theorem omerge0 {M M' : OH} {p : Addr} {xs : List Sl} (h : omerge M OH0 M' p = some xs) : M' p = some xs ∨ M p = some xs := by
  unfold omerge at h
  cases e : M' p with
  | some ys => rw [e] at h; exact .inl h
  | none => rw [e] at h; exact .inr h
theorem call_in {H 𝓗 : Hp} {B0 H0 : Hp} {Mp : OH} (c : Cxt K B0 H0 M H 𝓗) (hM : ∀ p xs, Mp p = some xs → M p = some xs) : Cxt K (fun a => if (Mp a).isSome = true then none else 𝓗 a) H Mp H 𝓗 := by
  refine ⟨Same.refl H, c.u, fun a o q => ?_, fun a q => .inl q, fun p xs q => ?_⟩
  · by_cases z : (Mp a).isSome = true
    · rw [if_pos z] at q; cases q
    · rw [if_neg z] at q; exact q
  · obtain ⟨h1, h2, h3⟩ := c.o p xs (hM p xs q)
    exact ⟨h1, by rw [q]; rfl, h3⟩
theorem call_out {H 𝓗 H' 𝓗' : Hp} {B0 H0 : Hp} {Mp M' : OH} (c : Cxt K B0 H0 M H 𝓗) (hM : ∀ p xs, Mp p = some xs → M p = some xs) (c' : Cxt K (fun a => if (Mp a).isSome = true then none else 𝓗 a) H M' H' 𝓗') : Cxt K B0 H0 (omerge M Mp M') H' 𝓗' := by
  have nb : ∀ a, (Mp a).isSome = true → B0 a = none := fun a z => by
    obtain ⟨xs, q⟩ := Option.isSome_iff_exists.mp z
    exact (c.o a xs (hM a xs q)).2.1
  have nbB : ∀ a, (if (Mp a).isSome = true then (none : Option HO) else 𝓗 a) = none → B0 a = none := fun a z => by
    by_cases y : (Mp a).isSome = true
    · exact nb a y
    · rw [if_neg y] at z; exact c.b.free z
  refine ⟨c.f.trans c'.f, c'.u, fun a o q => ?_, fun a q => ?_, fun p xs q => ?_⟩
  · refine c'.b a o ?_
    by_cases y : (Mp a).isSome = true
    · rw [nb a y] at q; cases q
    · rw [if_neg y]; exact c.b a o q
  · rcases c'.n a q with z | z
    · exact c.n a z
    · exact .inr (nbB a z)
  · unfold omerge at q
    cases e : M' p with
    | some ys =>
      rw [e] at q
      cases q
      obtain ⟨h1, h2, h3⟩ := c'.o p _ e
      exact ⟨h1, nbB p h2, h3⟩
    | none =>
      rw [e] at q
      have q : (if (Mp p).isSome = true then none else M p) = some xs := q
      by_cases y : (Mp p).isSome = true
      · rw [if_pos y] at q; cases q
      · rw [if_neg y] at q
        obtain ⟨h1, h2, vs, h3, h4⟩ := c.o p xs q
        have hp : H' p = none := by
          cases z : H' p with
          | none => rfl
          | some o =>
            rcases c'.n p (by rw [z]; simp) with z2 | z2
            · exact absurd h1 z2
            · rw [if_neg y, h3] at z2; cases z2
        exact ⟨hp, h2, vs, c'.b p _ (by rw [if_neg y]; exact h3), h4.mono c'.f⟩
/-- a def of the text, where it stands and what it promises -/
structure Def (P : Program) (w : World) (K : PySem.W.Frag) (mg : Str → Option Value) (base : Heap) (CX : CXT) (k : Nat) (x : Str) (ps : List Str) (p : Pr) : Prop where
  ex : ∃ f fd, FnOk P w K mg base CX k f fd ps (spM K p) ∧ mg x = some (.ref f) ∧ PySem.W.keepIn K (.ref f) = true ∧ Binds K fd ps []
theorem passes0 {X : Cx} {σ : L2.St} {E : XK} : PassesAt CX0 X σ E := fun _ _ _ _ _ _ h => h.elim
theorem passesX {i : F.ι} {σ : L2.St} : PassesAt (L2.CX (F.X i).prog (F.X i).w) (F.X i) σ (WE (mkW K F.B0 F.H0 F.ex) σ) := passAt (F.tk i) σ
theorem ew_callG {CX : CXT} {k : Nat} {x : Str} {ps : List Str} {p : Pr} {a : Expr} {es : List Expr} {p2 : Pos} (hx : ∀ i σ, PassesAt CX (F.X i) σ (WE (mkW K F.B0 F.H0 F.ex) σ)) (G : Def P w K mg base CX k x ps p)
    (h : AW F ρ M (a :: es) fun rs M1 => ∃ Mp : OH, (∀ q xs, Mp q = some xs → M1 q = some xs) ∧ p.pre rs Mp ∧ (∀ r M', p.post rs Mp r M' → Q r (omerge M1 Mp M')) ∧ (∀ C M', p.err rs Mp C M' → F.ex C ρ (omerge M1 Mp M')))
    (hg : GL F x := by intro _; rfl) (hs : NS F a es := by intro _; rfl) (hpl : NP F pos es := by intro _; rfl) (hdb : (x == ("__debug__" : Str)) = false := by decide) (hk : k ≤ F.lv := by exact Nat.le_of_ble_eq_true rfl) : EW F ρ M (.Call (.Name x p2) (a :: es) [] pos) Q := .mk fun H 𝓗 σ c hE => by
  obtain ⟨f, fd, G, gm, gk, gb⟩ := G.ex
  have G' : ∀ i, FnOk (F.X i).prog (F.X i).w (F.X i).K (F.X i).mg (F.X i).base CX k f fd ps (spM K p) := fun i => by rw [F.eP i, F.ew i, F.eK i, F.eg i, F.eb i]; exact G
  refine uE.by (fun i => pe_callS (G' i) ((F.hr i).mono hk) (hg i) (hmg gm i) (by rw [F.eK i]; exact gk) (by rw [F.eK i]; exact gb) (hx i) (pa_u i) hdb (hs i) (hpl i)) ?_
  refine (h.run H 𝓗 σ c hE).mono fun vs 𝓗1 ⟨H1, M1, rs, c1, s1, q1, Mp, hM, hpre, hpost, herr⟩ => ?_
  refine ⟨H1, _, Mp, rs, call_in c1 hM, q1, hpre, fun v r H' 𝓗' M' c' ok po => ?_, fun C H' 𝓗' M' c' er => ?_⟩
  · exact ⟨H', _, r, call_out c1 hM c', s1.trans c'.f, ok, hpost r M' po⟩
  · exact ⟨C, ρ, _, H', rfl, rfl, call_out c1 hM c', hE.mono (s1.trans c'.f), herr C M' er⟩
/-- a call of a def that raises nothing -/
theorem ew_call0 {k : Nat} {x : Str} {ps : List Str} {p : Pr} {a : Expr} {es : List Expr} {p2 : Pos} (G : Def P w K mg base CX0 k x ps p) (he : ∀ rs M C M', ¬ p.err rs M C M')
    (h : AW F ρ M (a :: es) fun rs M1 => ∃ Mp : OH, (∀ q xs, Mp q = some xs → M1 q = some xs) ∧ p.pre rs Mp ∧ (∀ r M', p.post rs Mp r M' → Q r (omerge M1 Mp M')))
    (hg : GL F x := by intro _; rfl) (hs : NS F a es := by intro _; rfl) (hpl : NP F pos es := by intro _; rfl) (hdb : (x == ("__debug__" : Str)) = false := by decide) (hk : k ≤ F.lv := by exact Nat.le_of_ble_eq_true rfl) : EW F ρ M (.Call (.Name x p2) (a :: es) [] pos) Q :=
  ew_callG (fun _ _ => passes0) G (h.mono fun rs M1 ⟨Mp, h1, h2, h3⟩ => ⟨Mp, h1, h2, h3, fun C M' z => (he _ _ _ _ z).elim⟩) hg hs hpl hdb hk
theorem ew_callX {k : Nat} {x : Str} {ps : List Str} {p : Pr} {a : Expr} {es : List Expr} {p2 : Pos} (G : Def P w K mg base (L2.CX P w) k x ps p)
    (h : AW F ρ M (a :: es) fun rs M1 => ∃ Mp : OH, (∀ q xs, Mp q = some xs → M1 q = some xs) ∧ p.pre rs Mp ∧ (∀ r M', p.post rs Mp r M' → Q r (omerge M1 Mp M')) ∧ (∀ C M', p.err rs Mp C M' → F.ex C ρ (omerge M1 Mp M')))
    (hg : GL F x := by intro _; rfl) (hs : NS F a es := by intro _; rfl) (hpl : NP F pos es := by intro _; rfl) (hdb : (x == ("__debug__" : Str)) = false := by decide) (hk : k ≤ F.lv := by exact Nat.le_of_ble_eq_true rfl) : EW F ρ M (.Call (.Name x p2) (a :: es) [] pos) Q :=
  ew_callG (fun i σ => by have z := passesX (F := F) (i := i) (σ := σ); rw [F.eP i, F.ew i] at z; exact z) G h hg hs hpl hdb hk
/-- plain data in, plain data out, nothing owned is touched -/
def prD (pre : List Dt → Prop) (post : List Dt → Dt → Prop) : Pr := { pre := fun rs M => M = OH0 ∧ ∃ ds, rs = ds.map .dat ∧ pre ds, post := fun rs _ r M' => M' = OH0 ∧ ∃ ds d, rs = ds.map .dat ∧ r = .dat d ∧ post ds d }
theorem map_dat_inj : ∀ {ds es : List Dt}, ds.map Sl.dat = es.map Sl.dat → ds = es
  | [], [], _ => rfl
  | [], _ :: _, h => by cases h
  | _ :: _, [], h => by cases h
  | d :: ds, e :: es, h => by
    rw [List.map_cons, List.map_cons] at h
    injection h with h1 h2
    injection h1 with h1
    rw [h1, map_dat_inj h2]
theorem omerge00 {M : OH} : omerge M OH0 OH0 = M := by funext a; rfl
theorem prD_out {pre : List Dt → Prop} {post : List Dt → Dt → Prop} {ds : List Dt} {M' : OH} (h : (prD pre post).post (ds.map .dat) OH0 r M') (q : ∀ d, post ds d → Q (.dat d) M) : Q r (omerge M OH0 M') := by
  obtain ⟨e1, ds', d, e2, e3, e4⟩ := h
  rw [e1, e3, omerge00]
  exact q d (map_dat_inj e2 ▸ e4)
theorem ew_callD {k : Nat} {x : Str} {ps : List Str} {pre : List Dt → Prop} {post : List Dt → Dt → Prop} {a : Expr} {es : List Expr} {p2 : Pos} {ds : List Dt} (G : Def P w K mg base CX0 k x ps (prD pre post))
    (ha : AD F ρ M (a :: es) (ds.map .dat)) (hp : pre ds) (q : ∀ d, post ds d → Q (.dat d) M) (hg : GL F x := by intro _; rfl) (hs : NS F a es := by intro _; rfl) (hpl : NP F pos es := by intro _; rfl) (hdb : (x == ("__debug__" : Str)) = false := by decide) (hk : k ≤ F.lv := by exact Nat.le_of_ble_eq_true rfl) :
    EW F ρ M (.Call (.Name x p2) (a :: es) [] pos) Q :=
  ew_call0 G (fun _ _ _ _ z => z) (ha.aw ⟨OH0, fun _ _ z => (by cases z), ⟨rfl, ds, rfl, hp⟩, fun r M' hh => prD_out hh q⟩) hg hs hpl hdb hk
theorem ed_F {pre : List Dt → Prop} {post : List Dt → Dt → Prop} {a : Expr} {es : List Expr} {k : Nat} {x : Str} {ps : List Str} {p2 pos : Pos} {ds : List Dt} (d0 : Dt) (G : Def P w K mg base CX0 k x ps (prD pre post))
    (ha : AD F ρ M (a :: es) (ds.map .dat)) (hp : pre ds) (q : ∀ d, post ds d → d = d0) (hg : GL F x := by intro _; rfl) (hs : NS F a es := by intro _; rfl) (hpl : NP F pos es := by intro _; rfl) (hdb : (x == ("__debug__" : Str)) = false := by decide) (hk : k ≤ F.lv := by exact Nat.le_of_ble_eq_true rfl) : ED F ρ M (.Call (.Name x p2) (a :: es) [] pos) (.dat d0) :=
  ew_callD G ha hp (fun d h => by rw [q d h]; exact ⟨rfl, rfl⟩) hg hs hpl hdb hk

/-! ### a def's body -/
def startR (N : List Str) (rs : List Sl) : Rho := rs ++ List.replicate (N.length - rs.length) .un
theorem startR_ok {H : Hp} {N : List Str} {vs : List V} {rs : List Sl} (h : SlsOk K H vs rs) : EnvOk K H (L2.start N vs) (startR N rs) := by
  show EnvOk K H (vs.map some ++ List.replicate (N.length - vs.length) none) (rs ++ List.replicate (N.length - rs.length) .un)
  rw [h.length]
  refine paired_append ?_ ?_
  · induction h with
    | nil => exact .nil
    | cons a b ih => exact .cons (PlOk.of a) ih
  · generalize N.length - rs.length = n
    induction n with
    | zero => exact .nil
    | succ n ih => exact .cons trivial ih
/-- the context of a body that raises nothing -/
def fm0 (P : Program) (w : World) (K : PySem.W.Frag) (mg : Str → Option Value) (base : Heap) {N ps : List Str} {sc : Scope} (S : FnScope N ps sc) (qual : Str) (f : Addr) (cd : Value) (A : Around) (outer : List Env) (s : Shared) (H : Hp) (E : XK) (k : Nat)
    (hr : Room k (A.deeper (envOfC qual sc s.heap.objs.size f cd))) (B0 H0 : Hp) : Fm P w K mg base N where
  ι := Unit
  X := fun _ => (cxOf CX0 P w K mg base N qual sc f cd A outer s H E).nox
  eP := fun _ => rfl
  ew := fun _ => rfl
  eK := fun _ => rfl
  eg := fun _ => rfl
  eb := fun _ => rfl
  eN := fun _ => rfl
  nd := S.nd
  lv := k
  hr := fun _ => hr
  hc := fun _ => rfl
  po := fun _ => PassesOwn.never
  B0 := B0
  H0 := H0
  ex := fun _ _ _ => False
  tk := fun _ u s' x => by
    obtain ⟨_, _, _, _, _, _, _, _, _, _, _, _, _, _, _, _, z⟩ := x
    obtain ⟨_, _, _, _, _, _, _, _, z⟩ := z
    exact z.elim
theorem fn0 {x qual : Str} {st : Stmt} {f : Addr} {fd : FuncData} {N ps : List Str} {k : Nat} {p : Pr} (Fd : Fun K x qual st f fd) (S : FnScope N ps (defScope st)) (len : ∀ rs M, p.pre rs M → rs.length = ps.length)
    (body : ∀ cd A outer s H E hr B0 H0 rs M, p.pre rs M → SX (fm0 P w K mg base S qual f cd A outer s H E k hr B0 H0) (startR N rs) M (defBody st) { nx := fun _ M' => p.post rs M (.dat .non) M', rt := fun r M' => p.post rs M r M' }) :
    FnOk P w K mg base CX0 (k + 1) f fd ps (spM K p) := by
  refine Fd.ok S (fun vs H Q E h => ?_) (fun cdv A outer s 𝓗 vs Q E hr h => ?_)
  · obtain ⟨H, B, M, rs, _, q, pre, _⟩ := h
    rw [q.length]; exact len rs M pre
  · obtain ⟨H, B, M, rs, c, q, pre, ret, _⟩ := h
    refine ⟨_, pss_u (F := fm0 P w K mg base S qual f cdv A outer s 𝓗 E k hr B H) (), ?_⟩
    refine ((body cdv A outer s 𝓗 E hr B H rs M pre).run H 𝓗 (L2.start N vs) c (startR_ok q)).mono ⟨fun σ 𝓗' ⟨ρ', M', H', c', s', hE', po⟩ => ?_, fun v 𝓗' ⟨r, M', H', c', ok, po⟩ => ?_, fun σ 𝓗' ⟨ρ', M', H', c', s', hE', po⟩ => ?_, fun σ 𝓗' ⟨ρ', M', H', c', s', hE', po⟩ => ?_⟩
    · exact ret .non (.dat .non) H' 𝓗' M' c' (by show DA K H' _ _; unfold DA; rfl) po
    · exact ret v r H' 𝓗' M' c' ok po
    · exact po.elim
    · exact po.elim
theorem def0 {x qual : Str} {st : Stmt} {f : Addr} {fd : FuncData} {N ps : List Str} {k : Nat} {p : Pr} (Fd : Fun K x qual st f fd) (hm : mg x = some (.ref f)) (hb : Binds K fd ps []) (S : FnScope N ps (defScope st)) (len : ∀ rs M, p.pre rs M → rs.length = ps.length)
    (body : ∀ cd A outer s H E hr B0 H0 rs M, p.pre rs M → SX (fm0 P w K mg base S qual f cd A outer s H E k hr B0 H0) (startR N rs) M (defBody st) { nx := fun _ M' => p.post rs M (.dat .non) M', rt := fun r M' => p.post rs M r M' }) :
    Def P w K mg base CX0 (k + 1) x ps p := ⟨f, fd, fn0 Fd S len body, hm, Fd.kp, hb⟩

/-! ### for -/
/-- for x in a list of data -/
inductive DLs : Dt → List Dt → Prop
  | lst (ds : List Dt) : DLs (.lst ds) ds
  | scr (ds : List Dt) : DLs (.scr ds) ds
theorem DLs.seq {H : Hp} {d : Dt} {ds : List Dt} {v : V} (h : DLs d ds) (q : DA K H d v) : ∃ p vs, v = .ref p ∧ SqL K H p vs ∧ SlsOk K H vs (ds.map .dat) := by
  cases h with
  | lst =>
    unfold DA at q
    obtain ⟨p, vs, e1, e2, e3⟩ := q
    exact ⟨p, vs, e1, SqL.of e2, SlsOk.das.mpr e3⟩
  | scr =>
    unfold DA at q
    obtain ⟨p, vs, e1, e2, e3⟩ := q
    exact ⟨p, vs, e1, e2, SlsOk.das.mpr e3⟩
theorem fList {tg it : Expr} (j : F.ι) : PI (F.X j) tg it (iList K (uE F it)) := by have z := pi_list (X := F.X j) (tg := tg) (pe_u (e := it) j); rw [F.eK j] at z; exact z
theorem dat_get {xs : List Dt} {k : Nat} {r : Sl} (h : (xs.map Sl.dat)[k]? = some r) : ∃ d, xs[k]? = some d ∧ r = .dat d := by
  rw [List.getElem?_map] at h
  cases e : xs[k]? with
  | none => rw [e] at h; cases h
  | some d => rw [e] at h; exact ⟨d, rfl, (Option.some.inj h).symm⟩
theorem s_forL (i : Nat) {it : Expr} {body : List Stmt} {x : Str} {px : Pos} {d : Dt} {xs : List Dt} (Pv : Nat → Rho → OH → Prop) (hi : ED F ρ M it (.dat d)) (hl : DLs d xs) (h0 : Pv 0 ρ M)
    (hs : ∀ k r ρ' M', xs[k]? = some r → Pv k ρ' M' → SX F (ρ'.set i (.dat r)) M' body { D with nx := Pv (k + 1), ct := Pv (k + 1), bk := D.nx }) (hd : ∀ ρ' M', Pv xs.length ρ' M' → D.nx ρ' M')
    (hN : N[i]? = some x := by decide +kernel) (hx : ∀ j, Loc (F.X j).env.scope x := by intro _; first | exact Or.inl rfl | exact Or.inr rfl) (hf : ∀ j, (F.X j).fn x = true ∨ (F.X j).env.scope.names.lookup x = some .local := by intro _; first | exact .inl rfl | exact .inr rfl)
    (hss : ∀ j y, foldedSetIterable it (F.X j).env y = pure y := by intro _ _; rfl) : S1 F ρ M (.For (.Name x px) it body [] pos) D := .mk fun H 𝓗 σ c hE => by
  refine uS.by (fun j => ps_for (F.po j) (F.hc j) (fList j) (pg_name (by rw [F.eN j]; exact F.nd) (by rw [F.eN j]; exact hN) (hx j) (hf j)) (pss_u j) (hss j)) ((hi.run H 𝓗 σ c hE).mono fun v 𝓗1 ⟨H1, M1, r1, c1, s1, q1, e1, e2⟩ => ?_)
  subst e1 e2
  obtain ⟨p, vs, rfl, q2, q3⟩ := hl.seq q1
  have len : vs.length = xs.length := by rw [q3.length, List.length_map]
  refine ⟨p, rfl, ⟨vs, c1.u.seq q2⟩, for_list (K := K) (a := p) (xs := vs) (fun k => QN F H1 (fun ρ' M' => Pv k ρ' M')) ⟨ρ, _, H1, c1, Same.refl _, hE.mono s1, h0⟩ ?_ ?_ ?_⟩
  · rintro k σ' 𝓗' _ ⟨ρ', M', H', c', s', hE', pv⟩
    exact c'.u.seq (s'.seq q2)
  · rintro k v σ' 𝓗' hv ⟨ρ', M', H', c', s', hE', pv⟩
    obtain ⟨r', e5, e6⟩ := paired_get' q3 hv
    obtain ⟨d', e7, rfl⟩ := dat_get e5
    exact ((hs k d' ρ' M' e7 pv).at c' (hE'.set i (e6.mono s')) s').mono ⟨fun _ _ q => q, fun _ _ q => q, QN.imp s1 fun _ _ q => q, fun _ _ q => q⟩
  · rintro σ' 𝓗' ⟨ρ', M', H', c', s', hE', pv⟩
    exact ⟨ρ', M', H', c', s1.trans s', hE', hd ρ' M' (by rw [← len]; exact pv)⟩
theorem s_forR (i : Nat) {a : Expr} {body : List Stmt} {x : Str} {px p2 p3 : Pos} {n : Int} (m : Nat) (Pv : Nat → Rho → OH → Prop) (mr : mg "range" = none) (ha : ED F ρ M a (.dat (.int n))) (hn : n = (m : Int)) (hz : m ≤ 100000) (h0 : Pv 0 ρ M)
    (hs : ∀ (k : Nat) ρ' M', k < m → Pv k ρ' M' → SX F (ρ'.set i (.dat (.int (k : Int)))) M' body { D with nx := Pv (k + 1), ct := Pv (k + 1), bk := D.nx }) (hd : ∀ ρ' M', Pv m ρ' M' → D.nx ρ' M')
    (hg : GL F "range" := by intro _; rfl) (hns : NS F a [] := by intro _; rfl)
    (hN : N[i]? = some x := by decide +kernel) (hx : ∀ j, Loc (F.X j).env.scope x := by intro _; first | exact Or.inl rfl | exact Or.inr rfl) (hf : ∀ j, (F.X j).fn x = true ∨ (F.X j).env.scope.names.lookup x = some .local := by intro _; first | exact .inl rfl | exact .inr rfl)
    (hss : ∀ j y, foldedSetIterable (.Call (.Name "range" p2) [a] [] p3) (F.X j).env y = pure y := by intro _ _; rfl) : S1 F ρ M (.For (.Name x px) (.Call (.Name "range" p2) [a] [] p3) body [] pos) D := .mk fun H 𝓗 σ c hE => by
  subst hn
  refine uS.by (fun j => ps_for (F.po j) (F.hc j) (pi_range1 (hg j) (hmg mr j) (pa_u j) (hns j)) (pg_name (by rw [F.eN j]; exact F.nd) (by rw [F.eN j]; exact hN) (hx j) (hf j)) (pss_u j) (hss j)) (((ad_cons ha ad_nil hns).run H 𝓗 σ c hE).mono fun vs 𝓗1 ⟨H1, M1, r1, c1, s1, q1, e1, e2⟩ => ?_)
  subst e1 e2
  obtain ⟨v, rfl, qv⟩ := sl1 q1
  have qv' : v = .int (m : Int) := qv
  subst qv'
  refine ⟨m, rfl, by omega, by omega, ?_⟩
  refine for_range (lo := 0) (n := ((m : Int)).toNat) (fun k => QN F H1 (fun ρ' M' => Pv k ρ' M')) ⟨ρ, _, H1, c1, Same.refl _, hE.mono s1, h0⟩ ?_ ?_
  · rintro k σ' 𝓗' hk ⟨ρ', M', H', c', s', hE', pv⟩
    have hk' : k < m := by omega
    have e0 : (0 : Int) + (k : Int) = (k : Int) := Int.zero_add _
    show uSs F body _ (σ'.set i (some (.int ((0 : Int) + (k : Int))))) 𝓗'
    rw [e0]
    exact ((hs k ρ' M' hk' pv).at c' (hE'.set i (s := .dat (.int (k : Int))) (by show DA K H' _ _; unfold DA; rfl)) s').mono ⟨fun _ _ q => q, fun _ _ q => q, QN.imp s1 fun _ _ q => q, fun _ _ q => q⟩
  · rintro σ' 𝓗' ⟨ρ', M', H', c', s', hE', pv⟩
    exact ⟨ρ', M', H', c', s1.trans s', hE', hd ρ' M' pv⟩
end
end DL
namespace DL
open PySem PySem.Spec PyProof.Rows L2
section
variable {P : Program} {w : World} {K : PySem.W.Frag} {mg : Str → Option Value} {base : Heap}
/-- a def of the top, where it stands -/
def At (K : PySem.W.Frag) (mg : Str → Option Value) (x : Str) (st : Stmt) (ps : List Str) : Prop := ∃ f fd, Fun K x x st f fd ∧ mg x = some (.ref f) ∧ Binds K fd ps []
theorem at_mk {h : Heap} {x : Str} {st : Stmt} {ps : List Str} {f : Addr} {od an : Option Addr} {sl : Array (Option Value)} {oc kV dc pm cd ct : Value} (X : K.In h) (G : h.Ns mainGlobals mg)
    (a : PySem.W.nsIn K mainGlobals x = some (some (.ref f))) (l : K.lookup f = some ⟨oc, od, .func (PySem.W.fnOf x x (defArgs st) (defBody st) (defScope st) .none kV dc pm an cd ct), sl⟩) (c : PySem.W.codeIn K cd x = true) (k : PySem.W.keepIn K (.ref f) = true)
    (hb : ∀ (kV doc pm : Value) (an : Option Addr) (cdv ct : Value) (us : List Value), us.length = ps.length → bindArgs (PySem.W.fnOf x x (defArgs st) (defBody st) (defScope st) .none kV doc pm an cdv ct) ⟨us, []⟩ = pure (ps.zip us)) : At K mg x st ps := by
  have F := fun_mk (x := x) (qual := x) (st := st) l c k
  exact ⟨f, _, F, PySem.W.mg_of X G a, F.binds hb⟩
theorem defA {x : Str} {st : Stmt} {N ps : List Str} (k : Nat) {p : Pr} (a : At K mg x st ps) (S : FnScope N ps (defScope st)) (len : ∀ rs M, p.pre rs M → rs.length = ps.length)
    (body : ∀ f cd A outer s H E hr B0 H0 rs M, p.pre rs M → SX (fm0 P w K mg base S x f cd A outer s H E k hr B0 H0) (startR N rs) M (defBody st) { nx := fun _ M' => p.post rs M (.dat .non) M', rt := fun r M' => p.post rs M r M' }) :
    Def P w K mg base CX0 (k + 1) x ps p := by
  obtain ⟨f, fd, F, hm, hb⟩ := a
  exact def0 F hm hb S len fun cd A outer s H E hr B0 H0 rs M => body f cd A outer s H E hr B0 H0 rs M
/-- what the law's own def promises -/
def prLaw : Pr := { pre := fun rs M => M = OH0 ∧ ∃ ns : List Int, rs = [.dat (.scr (ns.map .int))] ∧ ns.length ≤ 63, post := fun _ _ r _ => r = .dat (.bl true) }
def spLaw (K : PySem.W.Frag) : Sp := fun vs H Q _ => ∃ (a : Addr) (ns : List Int), vs = [.ref a] ∧ SqL K H a (ns.map V.int) ∧ ns.length ≤ 63 ∧ ∀ H', Q (.bl true) H'
theorem das_ints {H : Hp} : ∀ ns : List Int, DAs K H (ns.map .int) (ns.map V.int)
  | [] => by unfold DAs; rfl
  | n :: ns => by
    show DAs K H (.int n :: ns.map .int) _
    unfold DAs
    exact ⟨.int n, ns.map V.int, rfl, by unfold DA; rfl, das_ints ns⟩
theorem law_imp {CX : CXT} {k : Nat} {f : Addr} {fd : FuncData} {ps : List Str} (G : FnOk P w K mg base CX k f fd ps (spM K prLaw)) : FnOk P w K mg base CX k f fd ps (spLaw K) := G.imp fun vs H Q E ⟨a, ns, e1, hS, hl, q⟩ => by
  subst e1
  refine ⟨H, H, OH0, [.dat (.scr (ns.map .int))], ⟨Same.refl H, Same.refl H, Same.refl H, fun _ z => .inl z, fun _ _ z => by cases z⟩, .cons ?_ .nil, ⟨rfl, ns, rfl, hl⟩, fun v r H' 𝓗' M' _ ok e => ?_, fun _ _ _ _ _ z => z.elim⟩
  · show DA K H (.scr (ns.map .int)) _
    unfold DA
    exact ⟨a, _, rfl, hS, das_ints ns⟩
  · have e' : r = .dat (.bl true) := e
    subst e'
    have ok' : DA K H' (.bl true) v := ok
    unfold DA at ok'
    rw [ok']
    exact q 𝓗'
theorem law_def {CX : CXT} {k : Nat} {x : Str} (D : Def P w K mg base CX k x ["_law_script"] prLaw) {fa : Addr} (h : mg x = some (.ref fa)) : ∃ fd, FnOk P w K mg base CX k fa fd ["_law_script"] (spLaw K) := by
  obtain ⟨f, fd, G, hm, _, _⟩ := D.ex
  rw [hm] at h
  cases h
  exact ⟨fd, law_imp G⟩
end
end DL
namespace DL
open PySem PySem.Spec PyProof.Rows L2
section
variable {P : Program} {w : World} {K : PySem.W.Frag} {mg : Str → Option Value} {base : Heap} {N : List Str} {F : Fm P w K mg base N}
variable {ρ : Rho} {M : OH} {e a b c : Expr} {pos : Pos} {r r1 r2 : Sl} {Q : Sl → OH → Prop} {D : DE}
/-! ### == of scalars -/
/-- None, bools, ints, texts -/
def sV : Dt → Option V
  | .non => some .non
  | .bl b => some (.bl b)
  | .int i => some (.int i)
  | .str x => some (.str x)
  | _ => none
theorem sV_ok {H : Hp} {d : Dt} {v u : V} (h : DA K H d v) (e : sV d = some u) : v = u := by
  cases d with
  | non => cases e; unfold DA at h; exact h
  | bl b => cases e; unfold DA at h; exact h
  | int b => cases e; unfold DA at h; exact h
  | str b => cases e; unfold DA at h; exact h
  | lst _ => cases e
  | tup _ => cases e
  | scr _ => cases e
  | ins _ _ _ => cases e
theorem op2_eq {x y : Dt} {u v : V} (e1 : sV x = some u) (e2 : sV y = some v) (hs : scal u v = true) : Op2 F rEq (.dat x) (.dat y) M fun r' M' => r' = .dat (.bl (decide (u = v))) ∧ M' = M := fun H 𝓗 p q Q' c q1 q2 k => by
  rw [sV_ok q1 e1, sV_ok q2 e2]
  exact ⟨hs, here c k (by show DA K H _ _; unfold DA; rfl)⟩
theorem op2_ne {x y : Dt} {u v : V} (e1 : sV x = some u) (e2 : sV y = some v) (hs : scal u v = true) : Op2 F rNe (.dat x) (.dat y) M fun r' M' => r' = .dat (.bl (!decide (u = v))) ∧ M' = M := fun H 𝓗 p q Q' c q1 q2 k => by
  rw [sV_ok q1 e1, sV_ok q2 e2]
  exact ⟨hs, here c k (by show DA K H _ _; unfold DA; rfl)⟩
theorem dI {i j : Int} : decide (V.int i = V.int j) = decide (i = j) := by
  by_cases h : i = j
  · subst h; simp
  · rw [decide_eq_false h, decide_eq_false (fun z => h (V.int.inj z))]
theorem dS {i j : Str} : decide (V.str i = V.str j) = decide (i = j) := by
  by_cases h : i = j
  · subst h; simp
  · rw [decide_eq_false h, decide_eq_false (fun z => h (V.str.inj z))]
theorem dB {i j : Bool} : decide (V.bl i = V.bl j) = decide (i = j) := by
  by_cases h : i = j
  · subst h; simp
  · rw [decide_eq_false h, decide_eq_false (fun z => h (V.bl.inj z))]
section
variable {i j : Int} {s t : Str} {k l : Bool}
theorem ed_eqI (ha : ED F ρ M a (.dat (.int i))) (hb : ED F ρ M b (.dat (.int j))) : ED F ρ M (.Compare a [.Eq] [b] pos) (.dat (.bl (decide (i = j)))) := by rw [← dI]; exact ed_op2 (fun _ => pe_cmpR op_eq (pe_u _) (pe_u _) (nomark _)) ha hb (op2_eq rfl rfl rfl)
theorem ed_neI (ha : ED F ρ M a (.dat (.int i))) (hb : ED F ρ M b (.dat (.int j))) : ED F ρ M (.Compare a [.NotEq] [b] pos) (.dat (.bl (!decide (i = j)))) := by rw [← dI]; exact ed_op2 (fun _ => pe_cmpR op_ne (pe_u _) (pe_u _) (nomark _)) ha hb (op2_ne rfl rfl rfl)
theorem td_eqI (ha : ED F ρ M a (.dat (.int i))) (hb : ED F ρ M b (.dat (.int j))) : TD F ρ M (.Compare a [.Eq] [b] pos) (decide (i = j)) := by rw [← dI]; exact td_op2 (fun _ => pt_cmpR op_eq (pe_u _) (pe_u _) (nomark _)) ha hb (op2_eq rfl rfl rfl)
theorem td_neI (ha : ED F ρ M a (.dat (.int i))) (hb : ED F ρ M b (.dat (.int j))) : TD F ρ M (.Compare a [.NotEq] [b] pos) (!decide (i = j)) := by rw [← dI]; exact td_op2 (fun _ => pt_cmpR op_ne (pe_u _) (pe_u _) (nomark _)) ha hb (op2_ne rfl rfl rfl)
theorem ed_eqS (ha : ED F ρ M a (.dat (.str s))) (hb : ED F ρ M b (.dat (.str t))) : ED F ρ M (.Compare a [.Eq] [b] pos) (.dat (.bl (decide (s = t)))) := by rw [← dS]; exact ed_op2 (fun _ => pe_cmpR op_eq (pe_u _) (pe_u _) (nomark _)) ha hb (op2_eq rfl rfl rfl)
theorem ed_neS (ha : ED F ρ M a (.dat (.str s))) (hb : ED F ρ M b (.dat (.str t))) : ED F ρ M (.Compare a [.NotEq] [b] pos) (.dat (.bl (!decide (s = t)))) := by rw [← dS]; exact ed_op2 (fun _ => pe_cmpR op_ne (pe_u _) (pe_u _) (nomark _)) ha hb (op2_ne rfl rfl rfl)
theorem td_eqS (ha : ED F ρ M a (.dat (.str s))) (hb : ED F ρ M b (.dat (.str t))) : TD F ρ M (.Compare a [.Eq] [b] pos) (decide (s = t)) := by rw [← dS]; exact td_op2 (fun _ => pt_cmpR op_eq (pe_u _) (pe_u _) (nomark _)) ha hb (op2_eq rfl rfl rfl)
theorem td_neS (ha : ED F ρ M a (.dat (.str s))) (hb : ED F ρ M b (.dat (.str t))) : TD F ρ M (.Compare a [.NotEq] [b] pos) (!decide (s = t)) := by rw [← dS]; exact td_op2 (fun _ => pt_cmpR op_ne (pe_u _) (pe_u _) (nomark _)) ha hb (op2_ne rfl rfl rfl)
theorem ed_eqB (ha : ED F ρ M a (.dat (.bl k))) (hb : ED F ρ M b (.dat (.bl l))) : ED F ρ M (.Compare a [.Eq] [b] pos) (.dat (.bl (decide (k = l)))) := by rw [← dB]; exact ed_op2 (fun _ => pe_cmpR op_eq (pe_u _) (pe_u _) (nomark _)) ha hb (op2_eq rfl rfl rfl)
theorem td_eqB (ha : ED F ρ M a (.dat (.bl k))) (hb : ED F ρ M b (.dat (.bl l))) : TD F ρ M (.Compare a [.Eq] [b] pos) (decide (k = l)) := by rw [← dB]; exact td_op2 (fun _ => pt_cmpR op_eq (pe_u _) (pe_u _) (nomark _)) ha hb (op2_eq rfl rfl rfl)
theorem td_neB (ha : ED F ρ M a (.dat (.bl k))) (hb : ED F ρ M b (.dat (.bl l))) : TD F ρ M (.Compare a [.NotEq] [b] pos) (!decide (k = l)) := by rw [← dB]; exact td_op2 (fun _ => pt_cmpR op_ne (pe_u _) (pe_u _) (nomark _)) ha hb (op2_ne rfl rfl rfl)
end
/-! ### and, or, not -/
section
variable {rest : List Expr} {k l : Bool}
theorem ew_and {Q : Sl → OH → Prop} (ha : EW F ρ M a fun x M1 => ∃ k, x = .dat (.bl k) ∧ if k = true then EW F ρ M1 (.BoolOp .And (b :: rest) pos) Q else Q (.dat (.bl false)) M1) : EW F ρ M (.BoolOp .And (a :: b :: rest) pos) Q := .mk fun H 𝓗 σ c hE => by
  refine uE.by (fun j => pe_and (pe_u j) (pe_u j)) ((ha.run H 𝓗 σ c hE).mono fun v 𝓗1 ⟨H1, M1, r1, c1, s1, q1, k, e1, q⟩ => ?_)
  subst e1
  refine ⟨k, q1, ?_⟩
  cases k with
  | true => exact (q.run H1 𝓗1 σ c1 (hE.mono s1)).mono fun _ _ z => z.up s1
  | false => exact ⟨H1, M1, _, c1, s1, (by show DA K H1 _ _; unfold DA; rfl), q⟩
theorem ew_or {Q : Sl → OH → Prop} (ha : EW F ρ M a fun x M1 => ∃ k, x = .dat (.bl k) ∧ if k = true then Q (.dat (.bl true)) M1 else EW F ρ M1 (.BoolOp .Or (b :: rest) pos) Q) : EW F ρ M (.BoolOp .Or (a :: b :: rest) pos) Q := .mk fun H 𝓗 σ c hE => by
  refine uE.by (fun j => pe_or (pe_u j) (pe_u j)) ((ha.run H 𝓗 σ c hE).mono fun v 𝓗1 ⟨H1, M1, r1, c1, s1, q1, k, e1, q⟩ => ?_)
  subst e1
  refine ⟨k, q1, ?_⟩
  cases k with
  | false => exact (q.run H1 𝓗1 σ c1 (hE.mono s1)).mono fun _ _ z => z.up s1
  | true => exact ⟨H1, M1, _, c1, s1, (by show DA K H1 _ _; unfold DA; rfl), q⟩
theorem ew_one {op} {Q : Sl → OH → Prop} (h : EW F ρ M a Q) : EW F ρ M (.BoolOp op [a] pos) Q := .mk fun H 𝓗 σ c hE => uE.by (fun j => pe_one (pe_u j)) (h.run H 𝓗 σ c hE)
theorem ed_one {op} (h : ED F ρ M a r) : ED F ρ M (.BoolOp op [a] pos) r := ew_one h
theorem ed_and (ha : ED F ρ M a (.dat (.bl k))) (hb : k = true → ED F ρ M (.BoolOp .And (b :: rest) pos) (.dat (.bl l))) : ED F ρ M (.BoolOp .And (a :: b :: rest) pos) (.dat (.bl (k && l))) := ew_and (ha.ew ⟨k, rfl, by
  cases k with
  | true => exact hb rfl
  | false => exact ⟨rfl, rfl⟩⟩)
theorem ed_or (ha : ED F ρ M a (.dat (.bl k))) (hb : k = false → ED F ρ M (.BoolOp .Or (b :: rest) pos) (.dat (.bl l))) : ED F ρ M (.BoolOp .Or (a :: b :: rest) pos) (.dat (.bl (k || l))) := ew_or (ha.ew ⟨k, rfl, by
  cases k with
  | false => exact hb rfl
  | true => exact ⟨rfl, rfl⟩⟩)
theorem ew_not {Q : Sl → OH → Prop} (ha : EW F ρ M a fun x M1 => ∃ k, x = .dat (.bl k) ∧ Q (.dat (.bl (!k))) M1) : EW F ρ M (.UnaryOp .Not a pos) Q := .mk fun H 𝓗 σ c hE => by
  refine uE.by (fun j => pe_not (pe_u j)) ((ha.run H 𝓗 σ c hE).mono fun v 𝓗1 ⟨H1, M1, r1, c1, s1, q1, k, e1, q⟩ => ?_)
  subst e1
  exact ⟨k, q1, H1, M1, _, c1, s1, (by show DA K H1 _ _; unfold DA; rfl), q⟩
theorem ed_not (ha : ED F ρ M a (.dat (.bl k))) : ED F ρ M (.UnaryOp .Not a pos) (.dat (.bl (!k))) := ew_not (ha.ew ⟨k, rfl, rfl, rfl⟩)
/-- .. as tests -/
theorem WW.tw {Q : Bool → OH → Prop} (h : WW F ρ M e Q) : TW F ρ M e Q := .mk fun H 𝓗 σ c hE => uT.by (fun j => (pw_u j).pt) (h.run H 𝓗 σ c hE)
theorem ww_and {Q : Bool → OH → Prop} (ha : TW F ρ M a fun k M1 => if k = true then WW F ρ M1 (.BoolOp .And (b :: rest) pos) Q else Q false M1) : WW F ρ M (.BoolOp .And (a :: b :: rest) pos) Q := .mk fun H 𝓗 σ c hE => by
  refine uW.by (fun j => pw_and (pt_u j) (pw_u j)) ((ha.run H 𝓗 σ c hE).mono fun k 𝓗1 ⟨H1, M1, c1, s1, q⟩ => ?_)
  cases k with
  | true => exact (q.run H1 𝓗1 σ c1 (hE.mono s1)).mono fun _ _ ⟨H2, M2, c2, s2, q2⟩ => ⟨H2, M2, c2, s1.trans s2, q2⟩
  | false => exact ⟨H1, M1, c1, s1, q⟩
theorem ww_or {Q : Bool → OH → Prop} (ha : TW F ρ M a fun k M1 => if k = true then Q true M1 else WW F ρ M1 (.BoolOp .Or (b :: rest) pos) Q) : WW F ρ M (.BoolOp .Or (a :: b :: rest) pos) Q := .mk fun H 𝓗 σ c hE => by
  refine uW.by (fun j => pw_or (pt_u j) (pw_u j)) ((ha.run H 𝓗 σ c hE).mono fun k 𝓗1 ⟨H1, M1, c1, s1, q⟩ => ?_)
  cases k with
  | false => exact (q.run H1 𝓗1 σ c1 (hE.mono s1)).mono fun _ _ ⟨H2, M2, c2, s2, q2⟩ => ⟨H2, M2, c2, s1.trans s2, q2⟩
  | true => exact ⟨H1, M1, c1, s1, q⟩
theorem ww_and1 {Q : Bool → OH → Prop} (ha : TW F ρ M a Q) : WW F ρ M (.BoolOp .And [a] pos) Q := .mk fun H 𝓗 σ c hE => uW.by (fun j => pw_and1 (pt_u j)) (ha.run H 𝓗 σ c hE)
theorem ww_or1 {Q : Bool → OH → Prop} (ha : TW F ρ M a Q) : WW F ρ M (.BoolOp .Or [a] pos) Q := .mk fun H 𝓗 σ c hE => uW.by (fun j => pw_or1 (pt_u j)) (ha.run H 𝓗 σ c hE)
theorem tw_not {Q : Bool → OH → Prop} (ha : TW F ρ M a fun k M1 => Q (!k) M1) : TW F ρ M (.UnaryOp .Not a pos) Q := .mk fun H 𝓗 σ c hE => uT.by (fun j => pt_not (pt_u j)) ((ha.run H 𝓗 σ c hE).mono fun _ _ q => q)
def WD (F : Fm P w K mg base N) (ρ : Rho) (M : OH) (e : Expr) (k : Bool) : Prop := WW F ρ M e fun k' M' => k' = k ∧ M' = M
theorem WD.td (h : WD F ρ M e k) : TD F ρ M e k := WW.tw h
theorem wd_and (ha : TD F ρ M a k) (hb : k = true → WD F ρ M (.BoolOp .And (b :: rest) pos) l) : WD F ρ M (.BoolOp .And (a :: b :: rest) pos) (k && l) := ww_and (ha.tw (by
  cases k with
  | true => exact hb rfl
  | false => exact ⟨rfl, rfl⟩))
theorem wd_or (ha : TD F ρ M a k) (hb : k = false → WD F ρ M (.BoolOp .Or (b :: rest) pos) l) : WD F ρ M (.BoolOp .Or (a :: b :: rest) pos) (k || l) := ww_or (ha.tw (by
  cases k with
  | false => exact hb rfl
  | true => exact ⟨rfl, rfl⟩))
theorem wd_and1 (ha : TD F ρ M a k) : WD F ρ M (.BoolOp .And [a] pos) k := ww_and1 ha
theorem wd_or1 (ha : TD F ρ M a k) : WD F ρ M (.BoolOp .Or [a] pos) k := ww_or1 ha
theorem td_not (ha : TD F ρ M a k) : TD F ρ M (.UnaryOp .Not a pos) (!k) := tw_not (ha.tw ⟨rfl, rfl⟩)
theorem td_and (ha : TD F ρ M a k) (hb : k = true → WD F ρ M (.BoolOp .And (b :: rest) pos) l) : TD F ρ M (.BoolOp .And (a :: b :: rest) pos) (k && l) := (wd_and ha hb).td
theorem td_or (ha : TD F ρ M a k) (hb : k = false → WD F ρ M (.BoolOp .Or (b :: rest) pos) l) : TD F ρ M (.BoolOp .Or (a :: b :: rest) pos) (k || l) := (wd_or ha hb).td
theorem ew_ifE (h : TW F ρ M c fun k M1 => if k = true then EW F ρ M1 a Q else EW F ρ M1 b Q) : EW F ρ M (.IfExp c a b pos) Q := .mk fun H 𝓗 σ cc hE => by
  refine uE.by (fun j => pe_ifExp (pt_u j) (pe_u j) (pe_u j)) ((h.run H 𝓗 σ cc hE).mono fun k 𝓗1 ⟨H1, M1, c1, s1, q⟩ => ?_)
  cases k with
  | true => exact (q.run H1 𝓗1 σ c1 (hE.mono s1)).mono fun _ _ z => z.up s1
  | false => exact (q.run H1 𝓗1 σ c1 (hE.mono s1)).mono fun _ _ z => z.up s1
theorem ed_neg {i : Int} (ha : ED F ρ M a (.dat (.int i))) : ED F ρ M (.UnaryOp .USub a pos) (.dat (.int (-i))) := .mk fun H 𝓗 σ c hE => by
  refine uE.by (fun j => pe_un un_neg (pe_u j)) ((ha.run H 𝓗 σ c hE).mono fun v 𝓗1 ⟨H1, M1, r1, c1, s1, q1, e1, e2⟩ => ?_)
  subst e1 e2
  exact ⟨i, q1, H1, _, _, c1, s1, (by show DA K H1 _ _; unfold DA; rfl), rfl, rfl⟩
/-! ### is None -/
def isNon : Sl → Bool
  | .dat .non => true
  | _ => false
theorem isNon_ok {H : Hp} {v : V} {s : Sl} (hk : known s) (hr : ∀ u, s = .raw u → u ≠ .non) (h : SlOk K H v s) : decide (v = V.non) = isNon s := by
  cases s with
  | un => exact hk.elim
  | raw u => have h' : v = u := h; rw [h']; exact decide_eq_false (hr u rfl)
  | dat d =>
    have h' : DA K H d v := h
    cases d with
    | non => unfold DA at h'; rw [h']; rfl
    | bl _ => unfold DA at h'; rw [h']; rfl
    | int _ => unfold DA at h'; rw [h']; rfl
    | str _ => unfold DA at h'; rw [h']; rfl
    | lst _ => unfold DA at h'; obtain ⟨_, _, z, _⟩ := h'; rw [z]; rfl
    | tup _ => unfold DA at h'; obtain ⟨_, _, z, _⟩ := h'; rw [z]; rfl
    | scr _ => unfold DA at h'; obtain ⟨_, _, z, _⟩ := h'; rw [z]; rfl
    | ins _ _ _ => unfold DA at h'; obtain ⟨_, _, _, z, _⟩ := h'; rw [z]; rfl
theorem ed_isN {j p2} (ha : ED F ρ M a r) (hk : known r := by trivial) (hr : ∀ u, r = .raw u → u ≠ .non := by intro u z; cases z <;> (intro z2; cases z2)) : ED F ρ M (.Compare a [.Is] [.Constant .none j p2] pos) (.dat (.bl (isNon r))) := .mk fun H 𝓗 σ c hE => by
  refine uE.by (fun j => pe_cmp (pc_isN (pe_u j)) rfl) ((ha.run H 𝓗 σ c hE).mono fun v 𝓗1 ⟨H1, M1, r1, c1, s1, q1, e1, e2⟩ => ?_)
  subst e1 e2
  exact ⟨H1, _, _, c1, s1, (by show DA K H1 _ _; unfold DA; rw [isNon_ok hk hr q1]), rfl, rfl⟩
theorem ed_notN {j p2} (ha : ED F ρ M a r) (hk : known r := by trivial) (hr : ∀ u, r = .raw u → u ≠ .non := by intro u z; cases z <;> (intro z2; cases z2)) : ED F ρ M (.Compare a [.IsNot] [.Constant .none j p2] pos) (.dat (.bl (!isNon r))) := .mk fun H 𝓗 σ c hE => by
  refine uE.by (fun j => pe_cmp (pc_notN (pe_u j)) rfl) ((ha.run H 𝓗 σ c hE).mono fun v 𝓗1 ⟨H1, M1, r1, c1, s1, q1, e1, e2⟩ => ?_)
  subst e1 e2
  exact ⟨H1, _, _, c1, s1, (by show DA K H1 _ _; unfold DA; rw [isNon_ok hk hr q1]), rfl, rfl⟩
theorem td_isN {j p2} (ha : ED F ρ M a r) (hk : known r := by trivial) (hr : ∀ u, r = .raw u → u ≠ .non := by intro u z; cases z <;> (intro z2; cases z2)) : TD F ρ M (.Compare a [.Is] [.Constant .none j p2] pos) (isNon r) := .mk fun H 𝓗 σ c hE => by
  refine uT.by (fun j => pt_cmp (pc_isN (pe_u j)) rfl) ((ha.run H 𝓗 σ c hE).mono fun v 𝓗1 ⟨H1, M1, r1, c1, s1, q1, e1, e2⟩ => ?_)
  subst e1 e2
  exact ⟨isNon r1, (by rw [isNon_ok hk hr q1]), H1, _, c1, s1, rfl, rfl⟩
theorem td_notN {j p2} (ha : ED F ρ M a r) (hk : known r := by trivial) (hr : ∀ u, r = .raw u → u ≠ .non := by intro u z; cases z <;> (intro z2; cases z2)) : TD F ρ M (.Compare a [.IsNot] [.Constant .none j p2] pos) (!isNon r) := .mk fun H 𝓗 σ c hE => by
  refine uT.by (fun j => pt_cmp (pc_notN (pe_u j)) rfl) ((ha.run H 𝓗 σ c hE).mono fun v 𝓗1 ⟨H1, M1, r1, c1, s1, q1, e1, e2⟩ => ?_)
  subst e1 e2
  exact ⟨!isNon r1, (by rw [isNon_ok hk hr q1]), H1, _, c1, s1, rfl, rfl⟩
end
/-! ### isinstance -/
def tyS (M : OH) : Sl → Option String
  | .dat .non => some "NoneType"
  | .dat (.bl _) => some "bool"
  | .dat (.int _) => some "int"
  | .dat (.str _) => some "str"
  | .dat (.lst _) => some "list"
  | .dat (.scr _) => some "list"
  | .dat (.tup _) => some "tuple"
  | .raw (.ref p) => if (M p).isSome = true then some "list" else none
  | _ => none
theorem tyS_ok {H 𝓗 : Hp} {v : V} {s : Sl} {T : String} (c : St3 F M H 𝓗) (h : SlOk K H v s) (e : tyS M s = some T) : TyX K 𝓗 v (.type T) := by
  cases s with
  | un => cases e
  | raw u =>
    have h' : v = u := h
    subst h'
    cases v with
    | ref p =>
      have e : (if (M p).isSome = true then some "list" else none) = some T := e
      cases q : M p with
      | none => rw [q] at e; cases e
      | some xs =>
        rw [q] at e; cases e
        obtain ⟨_, _, vs, e3, _⟩ := c.o p xs q
        exact .base (.lst e3)
    | non => cases e
    | bl _ => cases e
    | int _ => cases e
    | str _ => cases e
    | byt _ => cases e
    | flt _ => cases e
    | ty _ => cases e
  | dat d =>
    have h' : DA K H d v := h
    cases d with
    | non => cases e; unfold DA at h'; rw [h']; exact .base .non
    | bl _ => cases e; unfold DA at h'; rw [h']; exact .base (.bl _)
    | int _ => cases e; unfold DA at h'; rw [h']; exact .base (.int _)
    | str _ => cases e; unfold DA at h'; rw [h']; exact .base (.str _)
    | lst _ => cases e; unfold DA at h'; obtain ⟨_, _, z, z2, _⟩ := h'; rw [z]; exact .base (.lst (c.u _ _ z2))
    | tup _ =>
      cases e; unfold DA at h'; obtain ⟨_, _, z, z2, _⟩ := h'; rw [z]
      rcases z2 with (z2 | ⟨o, z2⟩) | ⟨o, _, _, z2, z3, _⟩
      · exact .base (.tup (c.u _ _ z2))
      · exact .fTuple (c.u _ _ z2)
      · exact .kTuple z2 z3
    | scr _ =>
      cases e; unfold DA at h'; obtain ⟨_, _, z, z2, _⟩ := h'; rw [z]
      rcases z2 with (z2 | ⟨o, z2⟩) | ⟨o, _, _, z2, z3, _⟩
      · exact .base (.lst (c.u _ _ z2))
      · exact .base (.frz (c.u _ _ z2))
      · exact .kList z2 z3
    | ins _ _ _ => cases e
theorem fIsi (i : F.ι) : CallR (F.X i) (.builtin "isinstance") (rIsi K) := by have h := call_isi (X := F.X i); rw [F.eK i] at h; exact h
theorem ed_isi {p p2 : Pos} {B T : String} {x : Str} {k : Bool} (mi : mg "isinstance" = none) (ha : ED F ρ M a r) (ht : tyS M r = some T) (mb : mg x = none) (hk : kitB T B = some k) (hv : bootBuiltins x = some (.type B) := by decide +kernel)
    (hg : GL F "isinstance" := by intro _; rfl) (hg2 : GL F x := by intro _; rfl) (hn : x ≠ "__name__" := by decide) (hd : (x == ("__debug__" : Str)) = false := by decide) (hs : NS F a [.Name x p2] := by intro _; rfl) (hs2 : NS F (.Name x p2) [] := by intro _; rfl) (hpl : NP F pos [.Name x p2] := by intro _; rfl) :
    ED F ρ M (.Call (.Name "isinstance" p) [a, .Name x p2] [] pos) (.dat (.bl k)) := by
  have hb : ED F ρ M (.Name x p2) (.raw (.ty B)) := ed_c (fun i => pe_bltn (v := .ty B) (hg2 i) (hmg mb i) hv rfl hn hd) fun _ => rfl
  refine ew_cb (fun i => pe_callB (fIsi i) (hg i) (hmg mi i) (by decide +kernel) (pa_u i) (he := hs i) (hpl := hpl i)) ((ad_cons ha (ad_cons hb ad_nil hs2) hs).aw fun H 𝓗 vs Q' c q kk => ?_)
  obtain ⟨v, u, rfl, q1, q2⟩ := sl2 q
  have q2' : u = .ty B := q2
  subst q2'
  exact ⟨v, .ty B, .type T, .type B, k, rfl, .ty B, tyS_ok c q1 ht, kit_ty hk, here c kk (by show DA K H _ _; unfold DA; rfl)⟩
end
end DL
namespace K01
open PySem PySem.Spec PyProof.Rows L2 DL
def topS (i : Nat) : Stmt := PySem.Challenge.pw_barrierrow_k01_rounds.main.body.getD i (.Pass ⟨0, 0, 0, 0⟩)
abbrev s_rounds : Stmt := topS 1
theorem sc_rounds : FnScope ["many", "turn"] ["many"] (defScope s_rounds) := ⟨rfl, rfl, rfl, by decide +kernel, rfl, by decide +kernel, by decide +kernel⟩
abbrev s_l_cell_at : Stmt := topS 3
theorem sc_l_cell_at : FnScope ["_law_script", "_law_k"] ["_law_script", "_law_k"] (defScope s_l_cell_at) := ⟨rfl, rfl, rfl, by decide +kernel, rfl, by decide +kernel, by decide +kernel⟩
abbrev s_l_whole : Stmt := topS 4
theorem sc_l_whole : FnScope ["_law_found"] ["_law_found"] (defScope s_l_whole) := ⟨rfl, rfl, rfl, by decide +kernel, rfl, by decide +kernel, by decide +kernel⟩
abbrev s_l_due : Stmt := topS 5
theorem sc_l_due : FnScope ["_law_many_here", "_law_found", "_law_power"] ["_law_many_here"] (defScope s_l_due) := ⟨rfl, rfl, rfl, by decide +kernel, rfl, by decide +kernel, by decide +kernel⟩
abbrev s_l_many : Stmt := topS 6
theorem sc_l_many : FnScope ["_law_script", "_law_cell", "_law_power", "_law_k"] ["_law_script"] (defScope s_l_many) := ⟨rfl, rfl, rfl, by decide +kernel, rfl, by decide +kernel, by decide +kernel⟩
abbrev s_law : Stmt := topS 7
theorem sc_law : FnScope ["_law_script", "_law_many_here", "_law_found"] ["_law_script"] (defScope s_law) := ⟨rfl, rfl, rfl, by decide +kernel, rfl, by decide +kernel, by decide +kernel⟩

local macro_rules | `(tactic| walk_at "ev") => `(tactic| first
  | exact ed_var (i := 0) rfl
  | exact ed_var (i := 1) rfl
  | exact ed_var (i := 2) rfl
  | exact ed_var (i := 3) rfl
  | exact ed_var (i := 4) rfl
  | exact ed_var (i := 5) rfl
  | exact ed_var (i := 6) rfl
  | exact ed_var (i := 7) rfl
  | exact ed_var (i := 8) rfl
  | exact ed_var (i := 9) rfl
  | exact ed_var (i := 10) rfl
  | exact ed_var (i := 11) rfl
  | exact ed_var (i := 12) rfl
  | exact ed_var (i := 13) rfl
  | exact ed_var (i := 14) rfl
  | exact ed_var (i := 15) rfl
  | exact ed_var (i := 16) rfl
  | exact ed_var (i := 17) rfl)
local macro_rules | `(tactic| walk_at "ed") => `(tactic| first
  | exact ed_int | exact ed_str | exact ed_bl | exact ed_non
  | ((with_reducible show ED _ _ _ (Expr.Name _ _) _); walk_at "ev")
  | ((with_reducible show ED _ _ _ (Expr.BinOp _ Operator.Add _ _) _); exact ed_add (by walk_at "ed") (by walk_at "ed"))
  | ((with_reducible show ED _ _ _ (Expr.BinOp _ Operator.Sub _ _) _); exact ed_sub (by walk_at "ed") (by walk_at "ed"))
  | ((with_reducible show ED _ _ _ (Expr.BinOp _ Operator.Mult _ _) _); exact ed_mul (by walk_at "ed") (by walk_at "ed") (by first | exact .inr (by decide) | exact .inl (by omega) | exact .inr (by omega)))
  | ((with_reducible show ED _ _ _ (Expr.BinOp _ Operator.Mod _ _) _); exact ed_mod (by walk_at "ed") (by walk_at "ed") (by first | decide | omega))
  | ((with_reducible show ED _ _ _ (Expr.BinOp _ Operator.FloorDiv _ _) _); exact ed_div (by walk_at "ed") (by walk_at "ed") (by exact ⟨(by first | decide | omega), (by first | decide | omega)⟩))
  | ((with_reducible show ED _ _ _ (Expr.BinOp _ Operator.Pow _ _) _); exact ed_pow (by walk_at "ed") (by walk_at "ed") (by exact ⟨(by decide), (by decide), (by decide)⟩))
  | ((with_reducible show ED _ _ _ (Expr.UnaryOp UnaryOp.USub _ _) _); exact ed_neg (by walk_at "ed"))
  | ((with_reducible show ED _ _ _ (Expr.UnaryOp UnaryOp.Not _ _) _); exact ed_not (by walk_at "ed"))
  | ((with_reducible show ED _ _ _ (Expr.Compare _ [CmpOp.Lt] _ _) _); exact ed_lt (by walk_at "ed") (by walk_at "ed"))
  | ((with_reducible show ED _ _ _ (Expr.Compare _ [CmpOp.LtE] _ _) _); exact ed_le (by walk_at "ed") (by walk_at "ed"))
  | ((with_reducible show ED _ _ _ (Expr.Compare _ [CmpOp.Gt] _ _) _); exact ed_gt (by walk_at "ed") (by walk_at "ed"))
  | ((with_reducible show ED _ _ _ (Expr.Compare _ [CmpOp.GtE] _ _) _); exact ed_ge (by walk_at "ed") (by walk_at "ed"))
  | ((with_reducible show ED _ _ _ (Expr.Compare _ [CmpOp.Eq] _ _) _); exact ed_eqI (by walk_at "ed") (by walk_at "ed"))
  | ((with_reducible show ED _ _ _ (Expr.Compare _ [CmpOp.Eq] _ _) _); exact ed_eqS (by walk_at "ed") (by walk_at "ed"))
  | ((with_reducible show ED _ _ _ (Expr.Compare _ [CmpOp.NotEq] _ _) _); exact ed_neI (by walk_at "ed") (by walk_at "ed"))
  | ((with_reducible show ED _ _ _ (Expr.Compare _ [CmpOp.NotEq] _ _) _); exact ed_neS (by walk_at "ed") (by walk_at "ed")))
local macro_rules | `(tactic| walk_at "td") => `(tactic| first
  | ((with_reducible show TD _ _ _ (Expr.Compare _ [CmpOp.Lt] _ _) _); exact td_lt (by walk_at "ed") (by walk_at "ed"))
  | ((with_reducible show TD _ _ _ (Expr.Compare _ [CmpOp.LtE] _ _) _); exact td_le (by walk_at "ed") (by walk_at "ed"))
  | ((with_reducible show TD _ _ _ (Expr.Compare _ [CmpOp.Gt] _ _) _); exact td_gt (by walk_at "ed") (by walk_at "ed"))
  | ((with_reducible show TD _ _ _ (Expr.Compare _ [CmpOp.GtE] _ _) _); exact td_ge (by walk_at "ed") (by walk_at "ed"))
  | ((with_reducible show TD _ _ _ (Expr.Compare _ [CmpOp.Eq] _ _) _); exact td_eqI (by walk_at "ed") (by walk_at "ed"))
  | ((with_reducible show TD _ _ _ (Expr.Compare _ [CmpOp.Eq] _ _) _); exact td_eqS (by walk_at "ed") (by walk_at "ed"))
  | ((with_reducible show TD _ _ _ (Expr.Compare _ [CmpOp.NotEq] _ _) _); exact td_neI (by walk_at "ed") (by walk_at "ed"))
  | ((with_reducible show TD _ _ _ (Expr.Compare _ [CmpOp.NotEq] _ _) _); exact td_neS (by walk_at "ed") (by walk_at "ed"))
  | ((with_reducible show TD _ _ _ (Expr.UnaryOp UnaryOp.Not _ _) _); exact td_not (by walk_at "td"))
  | ((with_reducible show TD _ _ _ (Expr.BoolOp BoolOp.And _ _) _); exact td_and (by walk_at "td") (fun _ => by walk_at "wd"))
  | ((with_reducible show TD _ _ _ (Expr.BoolOp BoolOp.Or _ _) _); exact td_or (by walk_at "td") (fun _ => by walk_at "wd"))
  | ((with_reducible show TD _ _ _ (Expr.Call _ _ _ _) _); exact TD.ofB (by walk_at "ed"))
  | ((with_reducible show TD _ _ _ (Expr.Name _ _) _); exact TD.ofB (by walk_at "ed")))
local macro_rules | `(tactic| walk_at "wd") => `(tactic| first
  | exact wd_and1 (by walk_at "td")
  | exact wd_or1 (by walk_at "td")
  | ((with_reducible show WD _ _ _ (Expr.BoolOp BoolOp.And _ _) _); exact wd_and (by walk_at "td") (fun _ => by walk_at "wd"))
  | ((with_reducible show WD _ _ _ (Expr.BoolOp BoolOp.Or _ _) _); exact wd_or (by walk_at "td") (fun _ => by walk_at "wd")))
section
variable {P : Program} {w : World} {K : PySem.W.Frag} {mg : Str → Option Value} {base : Heap}
/-! ### the mathematics -/
/-- the least count of rounds -/
def lg (n : Nat) : Nat := if h : n ≤ 1 then 0 else lg ((n + 1) / 2) + 1
termination_by n
decreasing_by omega
theorem lg_spec (n : Nat) : n ≤ 2 ^ lg n ∧ (∀ k, n ≤ 2 ^ k → lg n ≤ k) := by
  induction n using Nat.strongRecOn with
  | ind n ih =>
    unfold lg
    split
    · rename_i h
      exact ⟨by simpa using h, fun k _ => Nat.zero_le k⟩
    · rename_i h
      obtain ⟨a, b⟩ := ih ((n + 1) / 2) (by omega)
      refine ⟨by rw [Nat.pow_succ]; omega, fun k hk => ?_⟩
      cases k with
      | zero => simp at hk; omega
      | succ k =>
        have := b k (by rw [Nat.pow_succ] at hk; omega)
        omega

def prRounds : Pr := prD (fun ds => ∃ n : Nat, ds = [.int (n : Int)] ∧ 1 ≤ n ∧ n ≤ 1000) (fun ds d => ∀ n : Nat, ds = [.int (n : Int)] → d = .int (lg n : Int))
theorem d_rounds (a : At K mg "rounds" s_rounds ["many"]) : Def P w K mg base CX0 1 "rounds" ["many"] prRounds := by
  refine defA 0 a sc_rounds (fun rs M ⟨_, ds, h, n, h2, _⟩ => by subst h h2; rfl) fun f cd A outer s H E hr B0 H0 rs M ⟨hM, ds, h, n, h2, hn1, hn2⟩ => ?_
  subst hM h h2
  refine sx_cons (s_set 1 (by walk_at "ed") ?_)
  refine sx_cons (s_while (fun m ρ M => ∃ t : Nat, ρ = [.dat (.int (n : Int)), .dat (.int (t : Int))] ∧ M = OH0 ∧ t ≤ lg n ∧ m = lg n - t) (lg n) ⟨0, rfl, rfl, Nat.zero_le _, rfl⟩ ?_)
  rintro m ρ M ⟨t, rfl, rfl, ht, rfl⟩
  have hlg : lg n ≤ 10 := (lg_spec n).2 10 (by omega)
  refine TD.tw (td_lt (ed_shl ed_int (ed_var (i := 1) rfl) ⟨by omega, by omega, by decide⟩) (ed_var (i := 0) rfl)) ?_
  refine ite2 (fun h => ?_) (fun h => ?_)
  · have h1 : 2 ^ t < n := by
      have := of_decide_eq_true h
      simp at this
      exact_mod_cast this
    have h2 : t < lg n := by
      refine Nat.lt_of_not_le fun z => ?_
      have a := (lg_spec n).1
      have b : 2 ^ lg n ≤ 2 ^ t := Nat.pow_le_pow_right (by decide) z
      omega
    refine sx_one (s_augAdd 1 rfl ed_int ?_)
    exact ⟨lg n - (t + 1), by omega, t + 1, rfl, rfl, h2, rfl⟩
  · have h1 : ¬ 2 ^ t < n := fun z => h (decide_eq_true (by simp; exact_mod_cast z))
    have h2 : lg n ≤ t := (lg_spec n).2 t (by omega)
    have h3 : t = lg n := by omega
    subst h3
    refine sx_one (s_ret ((ed_var (i := 1) rfl).ew ?_))
    refine ⟨rfl, [.int n], _, rfl, rfl, fun n' e => ?_⟩
    cases e
    rfl

def prCell : Pr := prD (fun ds => ∃ (ns : List Int) (k : Nat), ds = [.scr (ns.map .int), .int (k : Int)]) (fun ds d => ∀ (ns : List Int) (k : Nat), ds = [.scr (ns.map .int), .int (k : Int)] → d = .int (ns.getD k 0))
theorem map_int_inj : ∀ {a b : List Int}, a.map Dt.int = b.map Dt.int → a = b
  | [], [], _ => rfl
  | [], _ :: _, h => by cases h
  | _ :: _, [], h => by cases h
  | x :: xs, y :: ys, h => by
    rw [List.map_cons, List.map_cons] at h
    injection h with h1 h2
    injection h1 with h1
    rw [h1, map_int_inj h2]
theorem d_cell (a : At K mg "_law_cell_at" s_l_cell_at ["_law_script", "_law_k"]) (nl : mg "len" = none) : Def P w K mg base CX0 1 "_law_cell_at" ["_law_script", "_law_k"] prCell := by
  refine defA 0 a sc_l_cell_at (fun rs M ⟨_, ds, h, n, k, h2⟩ => by subst h h2; rfl) fun f cd A outer s H E hr B0 H0 rs M ⟨hM, ds, h, ns, k, h2⟩ => ?_
  subst hM h h2
  have fin : ∀ z, z = ns.getD k 0 → prCell.post ([Dt.scr (ns.map .int), Dt.int (k : Int)].map .dat) OH0 (.dat (.int z)) OH0 := fun z e => ⟨rfl, _, _, rfl, rfl, fun ns' k' e' => by
    injection e' with e1 e2
    injection e1 with e1
    injection e2 with e2
    injection e2 with e2
    have e2 : k = k' := by omega
    rw [← map_int_inj e1, ← e2, e]⟩
  refine sx_cons (s_if (td_lt (ed_var (i := 1) rfl) (ed_len nl (ed_var (i := 0) rfl) (.l (.scr _)))) (fun h => ?_) (fun h => ?_))
  · have h1 : k < ns.length := by
      have := of_decide_eq_true h
      simp at this
      exact this
    refine sx_one (s_ret ((ed_ixL (k := k) (r := .dat (.int (ns[k]))) (ed_var (i := 0) rfl) (ed_var (i := 1) rfl) (.scr _) rfl (by simp [h1])).ew ?_))
    exact fin _ (by simp [h1])
  · have h1 : ns.length ≤ k := by
      have := of_decide_eq_false h
      simp at this
      exact this
    refine sx_nil (sx_one (s_ret (ed_int.ew ?_)))
    exact fin _ (by simp [h1])
theorem ed_cell {N : List Str} {F : Fm P w K mg base N} {ρ : Rho} {M : OH} {a b : Expr} {pos p2 : Pos} {ns : List Int} {k : Int} (C : Def P w K mg base CX0 1 "_law_cell_at" ["_law_script", "_law_k"] prCell) (ha : ED F ρ M a (.dat (.scr (ns.map .int)))) (hb : ED F ρ M b (.dat (.int k))) (h0 : 0 ≤ k)
    (hg : GL F "_law_cell_at" := by intro _; rfl) (hs : NS F a [b] := by intro _; rfl) (hs2 : NS F b [] := by intro _; rfl) (hpl : NP F pos [b] := by intro _; rfl) (hk : 1 ≤ F.lv := by exact Nat.le_of_ble_eq_true rfl) : ED F ρ M (.Call (.Name "_law_cell_at" p2) [a, b] [] pos) (.dat (.int (ns.getD k.toNat 0))) := by
  have e : k = ((k.toNat : Nat) : Int) := by omega
  refine ew_callD (ds := [.scr (ns.map .int), .int k]) C (ad_cons ha (ad_cons hb ad_nil hs2) hs) ⟨ns, k.toNat, by rw [← e]⟩ (fun d hd => ?_) hg hs hpl (hk := hk)
  rw [hd ns k.toNat (by rw [← e])]
  exact ⟨rfl, rfl⟩
end
local macro_rules | `(tactic| walk_at "ev") => `(tactic| first
  | exact ed_var (i := 0) rfl
  | exact ed_var (i := 1) rfl
  | exact ed_var (i := 2) rfl
  | exact ed_var (i := 3) rfl
  | exact ed_var (i := 4) rfl
  | exact ed_var (i := 5) rfl
  | exact ed_var (i := 6) rfl
  | exact ed_var (i := 7) rfl
  | exact ed_var (i := 8) rfl
  | exact ed_var (i := 9) rfl
  | exact ed_var (i := 10) rfl
  | exact ed_var (i := 11) rfl
  | exact ed_var (i := 12) rfl
  | exact ed_var (i := 13) rfl
  | exact ed_var (i := 14) rfl
  | exact ed_var (i := 15) rfl
  | exact ed_var (i := 16) rfl
  | exact ed_var (i := 17) rfl)
local macro_rules | `(tactic| walk_at "ed") => `(tactic| first
  | exact ed_int | exact ed_str | exact ed_bl | exact ed_non
  | ((with_reducible show ED _ _ _ (Expr.Name _ _) _); walk_at "ev")
  | ((with_reducible show ED _ _ _ (Expr.Call (Expr.Name (Str.ofString "_law_cell_at") _) _ _ _) _); exact ed_cell (by assumption) (by walk_at "ev") (by walk_at "ed") (by first | decide | omega))
  | ((with_reducible show ED _ _ _ (Expr.BinOp _ Operator.Add _ _) _); exact ed_add (by walk_at "ed") (by walk_at "ed"))
  | ((with_reducible show ED _ _ _ (Expr.BinOp _ Operator.Sub _ _) _); exact ed_sub (by walk_at "ed") (by walk_at "ed"))
  | ((with_reducible show ED _ _ _ (Expr.BinOp _ Operator.Mult _ _) _); exact ed_mul (by walk_at "ed") (by walk_at "ed") (by first | exact .inr (by decide) | exact .inl (by omega) | exact .inr (by omega)))
  | ((with_reducible show ED _ _ _ (Expr.BinOp _ Operator.Mod _ _) _); exact ed_mod (by walk_at "ed") (by walk_at "ed") (by first | decide | omega))
  | ((with_reducible show ED _ _ _ (Expr.BinOp _ Operator.FloorDiv _ _) _); exact ed_div (by walk_at "ed") (by walk_at "ed") (by exact ⟨(by first | decide | omega), (by first | decide | omega)⟩))
  | ((with_reducible show ED _ _ _ (Expr.BinOp _ Operator.Pow _ _) _); exact ed_pow (by walk_at "ed") (by walk_at "ed") (by exact ⟨(by decide), (by decide), (by decide)⟩))
  | ((with_reducible show ED _ _ _ (Expr.UnaryOp UnaryOp.USub _ _) _); exact ed_neg (by walk_at "ed"))
  | ((with_reducible show ED _ _ _ (Expr.UnaryOp UnaryOp.Not _ _) _); exact ed_not (by walk_at "ed"))
  | ((with_reducible show ED _ _ _ (Expr.Compare _ [CmpOp.Lt] _ _) _); exact ed_lt (by walk_at "ed") (by walk_at "ed"))
  | ((with_reducible show ED _ _ _ (Expr.Compare _ [CmpOp.LtE] _ _) _); exact ed_le (by walk_at "ed") (by walk_at "ed"))
  | ((with_reducible show ED _ _ _ (Expr.Compare _ [CmpOp.Gt] _ _) _); exact ed_gt (by walk_at "ed") (by walk_at "ed"))
  | ((with_reducible show ED _ _ _ (Expr.Compare _ [CmpOp.GtE] _ _) _); exact ed_ge (by walk_at "ed") (by walk_at "ed"))
  | ((with_reducible show ED _ _ _ (Expr.Compare _ [CmpOp.Eq] _ _) _); exact ed_eqI (by walk_at "ed") (by walk_at "ed"))
  | ((with_reducible show ED _ _ _ (Expr.Compare _ [CmpOp.Eq] _ _) _); exact ed_eqS (by walk_at "ed") (by walk_at "ed"))
  | ((with_reducible show ED _ _ _ (Expr.Compare _ [CmpOp.NotEq] _ _) _); exact ed_neI (by walk_at "ed") (by walk_at "ed"))
  | ((with_reducible show ED _ _ _ (Expr.Compare _ [CmpOp.NotEq] _ _) _); exact ed_neS (by walk_at "ed") (by walk_at "ed")))
local macro_rules | `(tactic| walk_at "td") => `(tactic| first
  | ((with_reducible show TD _ _ _ (Expr.Compare _ [CmpOp.Lt] _ _) _); exact td_lt (by walk_at "ed") (by walk_at "ed"))
  | ((with_reducible show TD _ _ _ (Expr.Compare _ [CmpOp.LtE] _ _) _); exact td_le (by walk_at "ed") (by walk_at "ed"))
  | ((with_reducible show TD _ _ _ (Expr.Compare _ [CmpOp.Gt] _ _) _); exact td_gt (by walk_at "ed") (by walk_at "ed"))
  | ((with_reducible show TD _ _ _ (Expr.Compare _ [CmpOp.GtE] _ _) _); exact td_ge (by walk_at "ed") (by walk_at "ed"))
  | ((with_reducible show TD _ _ _ (Expr.Compare _ [CmpOp.Eq] _ _) _); exact td_eqI (by walk_at "ed") (by walk_at "ed"))
  | ((with_reducible show TD _ _ _ (Expr.Compare _ [CmpOp.Eq] _ _) _); exact td_eqS (by walk_at "ed") (by walk_at "ed"))
  | ((with_reducible show TD _ _ _ (Expr.Compare _ [CmpOp.NotEq] _ _) _); exact td_neI (by walk_at "ed") (by walk_at "ed"))
  | ((with_reducible show TD _ _ _ (Expr.Compare _ [CmpOp.NotEq] _ _) _); exact td_neS (by walk_at "ed") (by walk_at "ed"))
  | ((with_reducible show TD _ _ _ (Expr.UnaryOp UnaryOp.Not _ _) _); exact td_not (by walk_at "td"))
  | ((with_reducible show TD _ _ _ (Expr.BoolOp BoolOp.And _ _) _); exact td_and (by walk_at "td") (fun _ => by walk_at "wd"))
  | ((with_reducible show TD _ _ _ (Expr.BoolOp BoolOp.Or _ _) _); exact td_or (by walk_at "td") (fun _ => by walk_at "wd"))
  | ((with_reducible show TD _ _ _ (Expr.Call _ _ _ _) _); exact TD.ofB (by walk_at "ed"))
  | ((with_reducible show TD _ _ _ (Expr.Name _ _) _); exact TD.ofB (by walk_at "ed")))
local macro_rules | `(tactic| walk_at "wd") => `(tactic| first
  | exact wd_and1 (by walk_at "td")
  | exact wd_or1 (by walk_at "td")
  | ((with_reducible show WD _ _ _ (Expr.BoolOp BoolOp.And _ _) _); exact wd_and (by walk_at "td") (fun _ => by walk_at "wd"))
  | ((with_reducible show WD _ _ _ (Expr.BoolOp BoolOp.Or _ _) _); exact wd_or (by walk_at "td") (fun _ => by walk_at "wd")))
section
variable {P : Program} {w : World} {K : PySem.W.Frag} {mg : Str → Option Value} {base : Heap}
def isI : Dt → Bool
  | .int _ => true
  | _ => false
def tyD (d : Dt) : Prop := ∃ T, tyS OH0 (.dat d) = some T
def prWhole : Pr := prD (fun ds => ∃ d, ds = [d] ∧ tyD d) (fun ds d => ∀ x, ds = [x] → d = .bl (isI x))
theorem d_whole (a : At K mg "_law_whole" s_l_whole ["_law_found"]) (n1 : mg "isinstance" = none) (n2 : mg "int" = none) (n3 : mg "bool" = none) : Def P w K mg base CX0 1 "_law_whole" ["_law_found"] prWhole := by
  refine defA 0 a sc_l_whole (fun rs M ⟨_, ds, h, d, h2, _⟩ => by subst h h2; rfl) fun f cd A outer s H E hr B0 H0 rs M ⟨hM, ds, h, d, h2, T, hT⟩ => ?_
  subst hM h h2
  have fin : ∀ z, z = isI d → prWhole.post ([d].map .dat) OH0 (.dat (.bl z)) OH0 := fun z e => ⟨rfl, _, _, rfl, rfl, fun x e' => by
    injection e' with e1 _
    rw [← e1, e]⟩
  have go : ∀ k l, kitB T "int" = some k → kitB T "bool" = some l → (k && !l) = isI d → SX (fm0 P w K mg base sc_l_whole "_law_whole" f cd A outer s H E 0 hr B0 H0) (startR ["_law_found"] ([d].map .dat)) OH0 (defBody s_l_whole) { nx := fun _ M' => prWhole.post ([d].map .dat) OH0 (.dat .non) M', rt := fun r M' => prWhole.post ([d].map .dat) OH0 r M' } := fun k l hk hl e => by
    refine sx_one (s_ret ((ed_and (ed_isi n1 (ed_var (i := 0) rfl) hT n2 hk) fun _ => ed_one (ed_not (ed_isi n1 (ed_var (i := 0) rfl) hT n3 hl))).ew (fin _ e)))
  cases d <;> cases hT <;> first | exact go false false (by decide +kernel) (by decide +kernel) rfl | exact go true true (by decide +kernel) (by decide +kernel) rfl | exact go true false (by decide +kernel) (by decide +kernel) rfl

def prDue : Pr := prD (fun ds => ∃ n : Nat, ds = [.int (n : Int)] ∧ 1 ≤ n ∧ n ≤ 1000) (fun ds d => ∀ n : Nat, ds = [.int (n : Int)] → d = .int (lg n : Int))
theorem pow_cast (t : Nat) : ((2 : Int) ^ t) = ((2 ^ t : Nat) : Int) := by simp
theorem d_due (a : At K mg "_law_due" s_l_due ["_law_many_here"]) : Def P w K mg base CX0 1 "_law_due" ["_law_many_here"] prDue := by
  refine defA 0 a sc_l_due (fun rs M ⟨_, ds, h, n, h2, _⟩ => by subst h h2; rfl) fun f cd A outer s H E hr B0 H0 rs M ⟨hM, ds, h, n, h2, hn1, hn2⟩ => ?_
  subst hM h h2
  refine sx_cons (s_set 1 (by walk_at "ed") ?_)
  refine sx_cons (s_set 2 (by walk_at "ed") ?_)
  refine sx_cons (s_while (fun m ρ M => ∃ t : Nat, ρ = [.dat (.int (n : Int)), .dat (.int (t : Int)), .dat (.int ((2 ^ t : Nat) : Int))] ∧ M = OH0 ∧ t ≤ lg n ∧ m = lg n - t) (lg n) ⟨0, rfl, rfl, Nat.zero_le _, rfl⟩ ?_)
  rintro m ρ M ⟨t, rfl, rfl, ht, rfl⟩
  refine TD.tw (td_lt (ed_var (i := 2) rfl) (ed_var (i := 0) rfl)) ?_
  refine ite2 (fun h => ?_) (fun h => ?_)
  · have h1 : 2 ^ t < n := by
      have := of_decide_eq_true h
      exact_mod_cast this
    have h2 : t < lg n := by
      refine Nat.lt_of_not_le fun z => ?_
      have a := (lg_spec n).1
      have b : 2 ^ lg n ≤ 2 ^ t := Nat.pow_le_pow_right (by decide) z
      omega
    refine sx_cons (s_set 2 (ed_add (ed_var (i := 2) rfl) (ed_var (i := 2) rfl)) ?_)
    refine sx_one (s_set 1 (by walk_at "ed") ?_)
    refine ⟨lg n - (t + 1), by omega, t + 1, ?_, rfl, h2, rfl⟩
    show [_, _, _] = [_, _, _]
    rw [Nat.pow_succ]
    simp
    omega
  · have h1 : ¬ 2 ^ t < n := fun z => h (decide_eq_true (by exact_mod_cast z))
    have h2 : lg n ≤ t := (lg_spec n).2 t (by omega)
    have h3 : t = lg n := by omega
    subst h3
    refine sx_one (s_ret ((ed_var (i := 1) rfl).ew ?_))
    refine ⟨rfl, [.int n], _, rfl, rfl, fun n' e => ?_⟩
    cases e
    rfl
def prMany : Pr := prD (fun ds => ∃ ns : List Int, ds = [.scr (ns.map .int)]) (fun _ d => ∃ n : Nat, d = .int (n : Int) ∧ 1 ≤ n ∧ n ≤ 1000)
theorem d_many (a : At K mg "_law_many" s_l_many ["_law_script"]) (nr : mg "range" = none) (nm : mg "max" = none) (C : Def P w K mg base CX0 1 "_law_cell_at" ["_law_script", "_law_k"] prCell) : Def P w K mg base CX0 2 "_law_many" ["_law_script"] prMany := by
  refine defA 1 a sc_l_many (fun rs M ⟨_, ds, h, n, h2⟩ => by subst h h2; rfl) fun f cd A outer s H E hr B0 H0 rs M ⟨hM, ds, h, ns, h2⟩ => ?_
  subst hM h h2
  have fin : ∀ z : Int, 1 ≤ z → z ≤ 1000 → prMany.post ([Dt.scr (ns.map .int)].map .dat) OH0 (.dat (.int z)) OH0 := fun z h1 h2 => ⟨rfl, _, _, rfl, rfl, z.toNat, by rw [Int.toNat_of_nonneg (by omega)], by omega, by omega⟩
  refine sx_cons (s_set 1 (by walk_at "ed") ?_)
  generalize ns.getD (Int.toNat 1) 0 = c1
  refine sx_cons (s_if (by walk_at "td") (fun h => ?_) (fun h => ?_))
  · refine sx_one (s_ret (ED.ew (by walk_at "ed") (fin _ (by omega) (by omega))))
  refine sx_nil ?_
  refine sx_cons (s_if (by walk_at "td") (fun h => ?_) (fun h => ?_))
  · refine sx_cons (s_set 2 (by walk_at "ed") ?_)
    refine sx_cut (fun ρ' M' => ∃ (p : Int) (r : Sl), ρ' = [.dat (.scr (ns.map .int)), .dat (.int c1), .dat (.int p), r] ∧ M' = OH0 ∧ 1 ≤ p ∧ p ≤ 512) ?_ ?_
    · refine s_forR 3 (c1 % 10).toNat (fun k ρ' M' => ∃ r : Sl, ρ' = [.dat (.scr (ns.map .int)), .dat (.int c1), .dat (.int ((2 ^ k : Nat) : Int)), r] ∧ M' = OH0) nr (by walk_at "ed") (by omega) (by omega) ⟨_, rfl, rfl⟩ ?_ ?_
      · rintro k ρ' M' hk ⟨r', rfl, rfl⟩
        refine sx_one (s_set 2 (by walk_at "ed") ?_)
        refine ⟨.dat (.int (k : Int)), ?_, rfl⟩
        show [_, _, _, _] = [_, _, _, _]
        rw [Nat.pow_succ]
        simp
      · rintro ρ' M' ⟨r, rfl, rfl⟩
        refine ⟨_, r, rfl, rfl, ?_, ?_⟩
        · have : 0 < 2 ^ (c1 % 10).toNat := Nat.pow_pos (by decide)
          omega
        · have : 2 ^ (c1 % 10).toNat ≤ 2 ^ 9 := Nat.pow_le_pow_right (by decide) (by omega)
          omega
    · rintro ρ' M' ⟨p, r, rfl, rfl, h1, h2⟩
      refine sx_one (s_ret (ED.ew (ed_max2 nm ed_int (by walk_at "ed")) (fin _ ?_ ?_)))
      · split <;> omega
      · split <;> omega
  refine sx_nil ?_
  refine sx_one (s_ret (ED.ew (by walk_at "ed") (fin _ (by omega) (by omega))))

theorem ok_law {f : Addr} {fd : FuncData} (Fd : Fun K "law" "law" s_law f fd) (R : Def P w K mg base CX0 1 "rounds" ["many"] prRounds) (Wh : Def P w K mg base CX0 1 "_law_whole" ["_law_found"] prWhole) (Du : Def P w K mg base CX0 1 "_law_due" ["_law_many_here"] prDue) (Ma : Def P w K mg base CX0 2 "_law_many" ["_law_script"] prMany) :
    FnOk P w K mg base CX0 3 f fd ["_law_script"] (spM K prLaw) := by
  refine fn0 Fd sc_law (fun rs M ⟨_, ns, h, _⟩ => by subst h; rfl) fun cd A outer s H E hr B0 H0 rs M ⟨hM, ns, h, hl⟩ => ?_
  subst hM h
  refine sx_cons (s_setW 1 (ew_callD (ds := [.scr (ns.map .int)]) Ma (ad_cons (ed_var (i := 0) rfl) ad_nil) ⟨ns, rfl⟩ ?_))
  rintro d ⟨n, rfl, h1, h2⟩
  refine sx_cons (s_set 2 (ed_F (ds := [.int (n : Int)]) (.int (lg n : Int)) R (ad_cons (ed_var (i := 1) rfl) ad_nil) ⟨n, rfl, h1, h2⟩ fun d hd => hd n rfl) ?_)
  refine sx_one (s_ret (ED.ew (r := .dat (.bl (true && true))) (ed_and (k := true) (ed_F (ds := [.int (lg n : Int)]) (.bl true) Wh (ad_cons (ed_var (i := 2) rfl) ad_nil) ⟨_, rfl, "int", rfl⟩ fun d hd => hd _ rfl) fun _ => ed_one ?_) rfl))
  refine (ed_eqI (ed_var (i := 2) rfl) (ed_F (ds := [.int (n : Int)]) (.int (lg n : Int)) Du (ad_cons (ed_var (i := 1) rfl) ad_nil) ⟨n, rfl, h1, h2⟩ fun d hd => hd n rfl)).to ?_
  rw [decide_eq_true rfl]
end
theorem all_mk {l : PySem.W.OpenLaw} {w : World} {K : PySem.W.Frag} {h : Heap} {mg : Str → Option Value} {fa : Addr} (X : K.In h) (G : h.Ns mainGlobals mg) (hfa : mg "law" = some (.ref fa))
    {f1 f3 f4 f5 f6 f7 : Addr}
    {od1 an1 od3 an3 od4 an4 od5 an5 od6 an6 od7 an7 : Option Addr} {sl1 sl3 sl4 sl5 sl6 sl7 : Array (Option Value)} {oc1 kV1 dc1 pm1 cd1 ct1 oc3 kV3 dc3 pm3 cd3 ct3 oc4 kV4 dc4 pm4 cd4 ct4 oc5 kV5 dc5 pm5 cd5 ct5 oc6 kV6 dc6 pm6 cd6 ct6 oc7 kV7 dc7 pm7 cd7 ct7 : Value}
    (a1 : PySem.W.nsIn K mainGlobals "rounds" = some (some (.ref f1))) (l1 : K.lookup f1 = some ⟨oc1, od1, .func (PySem.W.fnOf "rounds" "rounds" (defArgs s_rounds) (defBody s_rounds) (defScope s_rounds) .none kV1 dc1 pm1 an1 cd1 ct1), sl1⟩) (c1 : PySem.W.codeIn K cd1 "rounds" = true) (k1 : PySem.W.keepIn K (.ref f1) = true)
    (a3 : PySem.W.nsIn K mainGlobals "_law_cell_at" = some (some (.ref f3))) (l3 : K.lookup f3 = some ⟨oc3, od3, .func (PySem.W.fnOf "_law_cell_at" "_law_cell_at" (defArgs s_l_cell_at) (defBody s_l_cell_at) (defScope s_l_cell_at) .none kV3 dc3 pm3 an3 cd3 ct3), sl3⟩) (c3 : PySem.W.codeIn K cd3 "_law_cell_at" = true) (k3 : PySem.W.keepIn K (.ref f3) = true)
    (a4 : PySem.W.nsIn K mainGlobals "_law_whole" = some (some (.ref f4))) (l4 : K.lookup f4 = some ⟨oc4, od4, .func (PySem.W.fnOf "_law_whole" "_law_whole" (defArgs s_l_whole) (defBody s_l_whole) (defScope s_l_whole) .none kV4 dc4 pm4 an4 cd4 ct4), sl4⟩) (c4 : PySem.W.codeIn K cd4 "_law_whole" = true) (k4 : PySem.W.keepIn K (.ref f4) = true)
    (a5 : PySem.W.nsIn K mainGlobals "_law_due" = some (some (.ref f5))) (l5 : K.lookup f5 = some ⟨oc5, od5, .func (PySem.W.fnOf "_law_due" "_law_due" (defArgs s_l_due) (defBody s_l_due) (defScope s_l_due) .none kV5 dc5 pm5 an5 cd5 ct5), sl5⟩) (c5 : PySem.W.codeIn K cd5 "_law_due" = true) (k5 : PySem.W.keepIn K (.ref f5) = true)
    (a6 : PySem.W.nsIn K mainGlobals "_law_many" = some (some (.ref f6))) (l6 : K.lookup f6 = some ⟨oc6, od6, .func (PySem.W.fnOf "_law_many" "_law_many" (defArgs s_l_many) (defBody s_l_many) (defScope s_l_many) .none kV6 dc6 pm6 an6 cd6 ct6), sl6⟩) (c6 : PySem.W.codeIn K cd6 "_law_many" = true) (k6 : PySem.W.keepIn K (.ref f6) = true)
    (a7 : PySem.W.nsIn K mainGlobals "law" = some (some (.ref f7))) (l7 : K.lookup f7 = some ⟨oc7, od7, .func (PySem.W.fnOf "law" "law" (defArgs s_law) (defBody s_law) (defScope s_law) .none kV7 dc7 pm7 an7 cd7 ct7), sl7⟩) (c7 : PySem.W.codeIn K cd7 "law" = true) (k7 : PySem.W.keepIn K (.ref f7) = true)
    (z_bool : PySem.W.nsIn K mainGlobals "bool" = some none)
    (z_int : PySem.W.nsIn K mainGlobals "int" = some none)
    (z_isinstance : PySem.W.nsIn K mainGlobals "isinstance" = some none)
    (z_len : PySem.W.nsIn K mainGlobals "len" = some none)
    (z_max : PySem.W.nsIn K mainGlobals "max" = some none)
    (z_range : PySem.W.nsIn K mainGlobals "range" = some none)
    :
    ∃ fd : FuncData, (∀ (s : Shared) (v : Value), BindsTo s fd ⟨[v], []⟩ [("_law_script", v)]) ∧ ∀ base : Heap, K.In base → base.Ns mainGlobals mg → FnOk l.prog w K mg base CX0 3 fa fd ["_law_script"] (spLaw K) := by
  have A_rounds : At K mg "rounds" s_rounds ["many"] := at_mk X G a1 l1 c1 k1 fun _ _ _ _ _ _ us hl => match us, hl with | [_], _ => rfl
  have A_l_cell_at : At K mg "_law_cell_at" s_l_cell_at ["_law_script", "_law_k"] := at_mk X G a3 l3 c3 k3 fun _ _ _ _ _ _ us hl => match us, hl with | [_, _], _ => rfl
  have A_l_whole : At K mg "_law_whole" s_l_whole ["_law_found"] := at_mk X G a4 l4 c4 k4 fun _ _ _ _ _ _ us hl => match us, hl with | [_], _ => rfl
  have A_l_due : At K mg "_law_due" s_l_due ["_law_many_here"] := at_mk X G a5 l5 c5 k5 fun _ _ _ _ _ _ us hl => match us, hl with | [_], _ => rfl
  have A_l_many : At K mg "_law_many" s_l_many ["_law_script"] := at_mk X G a6 l6 c6 k6 fun _ _ _ _ _ _ us hl => match us, hl with | [_], _ => rfl
  have A_law : At K mg "law" s_law ["_law_script"] := at_mk X G a7 l7 c7 k7 fun _ _ _ _ _ _ us hl => match us, hl with | [_], _ => rfl
  have n_bool : mg "bool" = none := PySem.W.mg_none_of X G z_bool
  have n_int : mg "int" = none := PySem.W.mg_none_of X G z_int
  have n_isinstance : mg "isinstance" = none := PySem.W.mg_none_of X G z_isinstance
  have n_len : mg "len" = none := PySem.W.mg_none_of X G z_len
  have n_max : mg "max" = none := PySem.W.mg_none_of X G z_max
  have n_range : mg "range" = none := PySem.W.mg_none_of X G z_range
  have e := hfa.symm.trans (PySem.W.mg_of X G a7)
  cases e
  refine ⟨PySem.W.fnOf "law" "law" (defArgs s_law) (defBody s_law) (defScope s_law) .none kV7 dc7 pm7 an7 cd7 ct7, fun s v => .of_eq rfl, fun base _ _ => ?_⟩
  have Fl := fun_mk (x := "law") (qual := "law") (st := s_law) l7 c7 k7
  have C := d_cell (P := l.prog) (w := w) (base := base) A_l_cell_at n_len
  exact law_imp (ok_law Fl (d_rounds A_rounds) (d_whole A_l_whole n_isinstance n_int n_bool) (d_due A_l_due) (d_many A_l_many n_range n_max C))
end K01

open PySem PySem.W PyProof.Rows in
set_option maxRecDepth 100000 in
set_option maxHeartbeats 0 in
theorem PySem.Challenge.cw_barrierrow_k01_rounds_holds : PySem.Challenge.rw_barrierrow_k01_rounds.Holds := by
  w_on; o_law; k_head; (case hw => w_witness2)
  k_fill
  refine L2.walk_of (l := PySem.Challenge.rw_barrierrow_k01_rounds) (n := 63) (k := 3) (x := "_law_script") (CX := fun _ => L2.CX0) (sp := fun w => DL.spLaw _) rfl (by decide) rfl ⟨rfl, by decide, by decide⟩ (fun w h Y => PySem.W.kIn_of Y) ?F (fun _ _ a ns hl _ hS => ⟨a, ns, rfl, hS, hl, fun _ => rfl⟩) (fun _ _ _ _ _ h => h)
  case F =>
    intro w mg fa h KX G hmg
    refine' K01.all_mk KX G hmg ?a1 ?l1 ?c1 ?k1 ?a3 ?l3 ?c3 ?k3 ?a4 ?l4 ?c4 ?k4 ?a5 ?l5 ?c5 ?k5 ?a6 ?l6 ?c6 ?k6 ?a7 ?l7 ?c7 ?k7 ?z_bool ?z_int ?z_isinstance ?z_len ?z_max ?z_range
    (case a1 => k_is)
    (case l1 => k_is)
    (case c1 => k_is)
    (case k1 => k_is)
    (case a3 => k_is)
    (case l3 => k_is)
    (case c3 => k_is)
    (case k3 => k_is)
    (case a4 => k_is)
    (case l4 => k_is)
    (case c4 => k_is)
    (case k4 => k_is)
    (case a5 => k_is)
    (case l5 => k_is)
    (case c5 => k_is)
    (case k5 => k_is)
    (case a6 => k_is)
    (case l6 => k_is)
    (case c6 => k_is)
    (case k6 => k_is)
    (case a7 => k_is)
    (case l7 => k_is)
    (case c7 => k_is)
    (case k7 => k_is)
    (case z_bool => k_is)
    (case z_int => k_is)
    (case z_isinstance => k_is)
    (case z_len => k_is)
    (case z_max => k_is)
    (case z_range => k_is)
