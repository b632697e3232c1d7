import PyProof.Rows.All
import Wide.All
import OpenK.AllK
import Wide.FinOn
import HandS.ForMost
import HandS.ForExc
import HandS.IsInst
import HandS.Wide
import HandS.WideBits
import HandS.TupMul
import HandS.TupAny
import HandS.Conv
import HandS.Zip
import HandS.EndBits
import HandS.ExcValue
import KE.KExcIs
import KE.KExcMore
import HandS.Style
import HandS.ExcField
import HandS.ForSpec
import PyProof.LongRange
import PyProof.ReprRoads
import PyProof.ReprLen
import HandS.Star
import HandS.Deep
import HandS.Rev
import PySem.Challenge.RW_everydepth_k01_cells_by_their_figures
set_option Elab.async false
set_option linter.all false
set_option maxRecDepth 100000
namespace Sy
open PySem PySem.Spec PyProof.Rows L2

/-- a symbolic value -/
inductive S where
  | non | bl (b : Bool) | int (i : Int) | str (x : Str) | ptr (a : Addr) | ty (n : String) | tup (xs : List S)
  /-- a list that nothing changes (the script) -/
  | rdl (xs : List S)
  /-- a list of one's own that nothing changes any more -/
  | fzl (xs : List S)
  /-- a dict that nothing changes, its content untold -/
  | dz
  /-- a caught exception: its class, its value -/
  | exn (cls : Value) (s : S)

/-- a caught exception at a: its class, its dict -/
def exH (cls : Value) (d : Option Addr) (a : Addr) : HO := .ext fun h => ∃ (o : Obj) (vs : Array Value), h.get? a = some o ∧ Zc cls d o ∧ o.data = .fields vs
/-- a list that nothing changes, at a -/
def FzL (K : PySem.W.Frag) (H : Hp) (a : Addr) (xs : List V) : Prop := (∃ o, H a = some (.frz o (.lst xs))) ∨ SqL K (fun _ => none) a xs
theorem FzL.sq {K : PySem.W.Frag} {H : Hp} {a : Addr} {xs : List V} (h : FzL K H a xs) : SqL K H a xs := by
  rcases h with ⟨o, h⟩ | (h | ⟨o, h⟩) | h
  · exact .inl (.inr ⟨o, h⟩)
  · cases h
  · cases h
  · exact .inr h

/-- a tuple, tracked or of the module -/
def TqT (K : PySem.W.Frag) (H : Hp) (a : Addr) (xs : List V) : Prop := H a = some (.tup xs) ∨ SqT K (fun _ => none) a xs
theorem TqT.sq {K : PySem.W.Frag} {H : Hp} {a : Addr} {xs : List V} (h : TqT K H a xs) : SqT K H a xs := by
  rcases h with h | (h | ⟨o, h⟩) | h
  · exact .inl (.inl h)
  · cases h
  · cases h
  · exact .inr h

mutual
inductive RV (K : PySem.W.Frag) (H : Hp) : S → V → Prop
  | non : RV K H .non .non
  | bl (b : Bool) : RV K H (.bl b) (.bl b)
  | int (i : Int) : RV K H (.int i) (.int i)
  | str (x : Str) : RV K H (.str x) (.str x)
  | ptr (a : Addr) : RV K H (.ptr a) (.ref a)
  | ty (n : String) : RV K H (.ty n) (.ty n)
  | tup {a : Addr} {xs : List V} {ss : List S} : TqT K H a xs → RVs K H ss xs → RV K H (.tup ss) (.ref a)
  | rdl {a : Addr} {xs : List V} {ss : List S} : FzL K H a xs → RVs K H ss xs → RV K H (.rdl ss) (.ref a)
  | fzl {a : Addr} {o : Obj} {xs : List V} {ss : List S} : H a = some (.frz o (.lst xs)) → RVs K H ss xs → RV K H (.fzl ss) (.ref a)
  | dz {a : Addr} {o : Obj} {ws : List (Key × V)} : H a = some (.frz o (.dK ws)) → RV K H .dz (.ref a)
  | exn {a d : Addr} {cls : Value} {s : S} {v : V} : H a = some (exH cls (some d) a) → H d = some (.xd [(("value" : Str), v)]) → RV K H s v → RV K H (.exn cls s) (.ref a)
inductive RVs (K : PySem.W.Frag) (H : Hp) : List S → List V → Prop
  | nil : RVs K H [] []
  | cons {s : S} {v : V} {ss : List S} {vs : List V} : RV K H s v → RVs K H ss vs → RVs K H (s :: ss) (v :: vs)
end

/-- tuples stay -/
structure Keep (K : PySem.W.Frag) (H H' : Hp) : Prop where
  tup : ∀ a xs, TqT K H a xs → TqT K H' a xs
  fzl : ∀ a xs, FzL K H a xs → FzL K H' a xs
  frz : ∀ a o u, H a = some (.frz o u) → H' a = some (.frz o u)
  ext : ∀ a φ, H a = some (.ext φ) → H' a = some (.ext φ)
  xdk : ∀ a fs, H a = some (.xd fs) → H' a = some (.xd fs)
theorem Keep.refl {K : PySem.W.Frag} {H : Hp} : Keep K H H := ⟨fun _ _ h => h, fun _ _ h => h, fun _ _ _ h => h, fun _ _ h => h, fun _ _ h => h⟩
theorem Keep.trans {K : PySem.W.Frag} {H H1 H2 : Hp} (a : Keep K H H1) (b : Keep K H1 H2) : Keep K H H2 := ⟨fun c xs h => b.tup c xs (a.tup c xs h), fun c xs h => b.fzl c xs (a.fzl c xs h), fun c o xs h => b.frz c o xs (a.frz c o xs h), fun c xs h => b.ext c xs (a.ext c xs h), fun c xs h => b.xdk c xs (a.xdk c xs h)⟩

section
variable {K : PySem.W.Frag} {H H' : Hp}
mutual
theorem RV.mono (k : Keep K H H') : ∀ (s : S) (v : V), RV K H s v → RV K H' s v
  | .non, _, h => by cases h; exact .non
  | .bl b, _, h => by cases h; exact .bl b
  | .int i, _, h => by cases h; exact .int i
  | .str x, _, h => by cases h; exact .str x
  | .ptr a, _, h => by cases h; exact .ptr a
  | .ty n, _, h => by cases h; exact .ty n
  | .tup ss, _, h => by
    cases h with
    | tup h1 h2 => exact .tup (k.tup _ _ h1) (RVs.mono k ss _ h2)
  | .rdl ss, _, h => by
    cases h with
    | rdl h1 h2 => exact .rdl (k.fzl _ _ h1) (RVs.mono k ss _ h2)
  | .fzl ss, _, h => by
    cases h with
    | fzl h1 h2 => exact .fzl (k.frz _ _ _ h1) (RVs.mono k ss _ h2)
  | .dz, _, h => by
    cases h with
    | dz h1 => exact .dz (k.frz _ _ _ h1)
  | .exn c s, _, h => by
    cases h with
    | exn h1 h2 h3 => exact .exn (k.ext _ _ h1) (k.xdk _ _ h2) (RV.mono k s _ h3)
theorem RVs.mono (k : Keep K H H') : ∀ (ss : List S) (vs : List V), RVs K H ss vs → RVs K H' ss vs
  | [], _, h => by cases h; exact .nil
  | s :: ss, _, h => by
    cases h with
    | cons h1 h2 => exact .cons (RV.mono k s _ h1) (RVs.mono k ss _ h2)
end
theorem RVs.length : ∀ {ss : List S} {vs : List V}, RVs K H ss vs → ss.length = vs.length
  | _, _, .nil => rfl
  | _, _, .cons _ t => by rw [List.length_cons, List.length_cons, RVs.length t]
theorem RVs.get : ∀ {ss : List S} {vs : List V} {i : Nat} {s : S}, RVs K H ss vs → ss[i]? = some s → ∃ v, vs[i]? = some v ∧ RV K H s v
  | _, _, _, _, .nil, e => by simp at e
  | _, _, 0, _, .cons r _, e => by simp at e; subst e; exact ⟨_, rfl, r⟩
  | _, _, i + 1, _, .cons _ t, e => by
    obtain ⟨v, h1, h2⟩ := RVs.get (i := i) t (by simpa using e)
    exact ⟨v, by simpa using h1, h2⟩
theorem RVs.getV : ∀ {ss : List S} {vs : List V} {i : Nat} {v : V}, RVs K H ss vs → vs[i]? = some v → ∃ s, ss[i]? = some s ∧ RV K H s v
  | _, _, _, _, .nil, e => by simp at e
  | _, _, 0, _, .cons r _, e => by simp at e; subst e; exact ⟨_, rfl, r⟩
  | _, _, i + 1, _, .cons _ t, e => by
    obtain ⟨v, h1, h2⟩ := RVs.getV (i := i) t (by simpa using e)
    exact ⟨v, by simpa using h1, h2⟩
theorem RVs.append : ∀ {ss ts : List S} {vs ws : List V}, RVs K H ss vs → RVs K H ts ws → RVs K H (ss ++ ts) (vs ++ ws)
  | _, _, _, _, .nil, s => s
  | _, _, _, _, .cons r t, s => .cons r (RVs.append t s)
theorem RVs.take : ∀ {ss : List S} {vs : List V} (n : Nat), RVs K H ss vs → RVs K H (ss.take n) (vs.take n)
  | _, _, 0, _ => .nil
  | _, _, _ + 1, .nil => .nil
  | _, _, n + 1, .cons r t => .cons r (RVs.take n t)
theorem RVs.drop : ∀ {ss : List S} {vs : List V} (n : Nat), RVs K H ss vs → RVs K H (ss.drop n) (vs.drop n)
  | _, _, 0, r => r
  | _, _, _ + 1, .nil => .nil
  | _, _, n + 1, .cons _ t => RVs.drop n t
theorem RVs.set {s : S} {v : V} (r : RV K H s v) : ∀ {ss : List S} {vs : List V} (i : Nat), RVs K H ss vs → RVs K H (ss.set i s) (vs.set i v)
  | _, _, _, .nil => .nil
  | _, _, 0, .cons _ t => .cons r t
  | _, _, i + 1, .cons q t => .cons q (RVs.set r i t)
theorem RVs.reverse : ∀ {ss : List S} {vs : List V}, RVs K H ss vs → RVs K H ss.reverse vs.reverse
  | _, _, .nil => .nil
  | _, _, .cons r t => by
    rw [List.reverse_cons, List.reverse_cons]
    exact (RVs.reverse t).append (.cons r .nil)
theorem RVs.dropLast {ss : List S} {vs : List V} (h : RVs K H ss vs) : RVs K H ss.dropLast vs.dropLast := by
  rw [List.dropLast_eq_take, List.dropLast_eq_take, h.length]
  exact h.take _
theorem RVs.eraseIdx : ∀ {ss : List S} {vs : List V} (i : Nat), RVs K H ss vs → RVs K H (ss.eraseIdx i) (vs.eraseIdx i)
  | _, _, _, .nil => .nil
  | _, _, 0, .cons _ t => t
  | _, _, i + 1, .cons q t => .cons q (RVs.eraseIdx i t)
theorem RVs.rep {ss : List S} {vs : List V} (h : RVs K H ss vs) : ∀ n : Nat, RVs K H (List.replicate n ss).flatten (List.replicate n vs).flatten
  | 0 => .nil
  | n + 1 => by
    rw [List.replicate_succ, List.replicate_succ, List.flatten_cons, List.flatten_cons]
    exact h.append (h.rep n)
theorem RVs.ints : ∀ (ns : List Int), RVs K H (ns.map S.int) (ns.map V.int)
  | [] => .nil
  | n :: ns => .cons (.int n) (RVs.ints ns)
end

/-- what stands in the store -/
inductive MO where
  | lst (xs : List S) | dK (kvs : List (Key × S))
  /-- a list that nothing changes any more -/
  | fz (xs : List S)
  /-- a dict whose keys are tuples -/
  | dT (kvs : List (List Key × S))
  /-- an instance of the class at C, its dict at dx -/
  | ins (C dx : Addr) (fs : List (Str × S))
abbrev Mem := Addr → Option MO
def updM (M : Mem) (a : Addr) (o : MO) : Mem := fun b => if b = a then some o else M b
theorem updM_same {M : Mem} {a : Addr} {o : MO} : updM M a o a = some o := by unfold updM; rw [if_pos rfl]
theorem updM_ne {M : Mem} {a b : Addr} {o : MO} (h : b ≠ a) : updM M a o b = M b := by unfold updM; rw [if_neg h]
theorem updM_updM {M : Mem} {a : Addr} {o u : MO} : updM (updM M a o) a u = updM M a u := by
  funext b; unfold updM; split <;> rfl
theorem neM {M : Mem} {a b : Addr} {o : MO} (h : M a = some o) (h' : M b = none) : a ≠ b := by
  intro e; rw [e, h'] at h; cases h

inductive KR {κ : Type} (K : PySem.W.Frag) (H : Hp) : List (κ × S) → List (κ × V) → Prop
  | nil : KR K H [] []
  | cons {k : κ} {s : S} {v : V} {ss : List (κ × S)} {vs : List (κ × V)} : RV K H s v → KR K H ss vs → KR K H ((k, s) :: ss) ((k, v) :: vs)
theorem KR.mono {κ : Type} {K : PySem.W.Frag} {H H' : Hp} (k : Keep K H H') : ∀ {ss : List (κ × S)} {vs : List (κ × V)}, KR K H ss vs → KR K H' ss vs
  | _, _, .nil => .nil
  | _, _, .cons r t => .cons (r.mono k) (KR.mono k t)

def MR (K : PySem.W.Frag) (H : Hp) (a : Addr) : MO → Prop
  | .lst ss => ∃ vs, H a = some (.lst vs) ∧ RVs K H ss vs
  | .dK kvs => ∃ ws, H a = some (.dK ws) ∧ KR K H kvs ws
  | .fz ss => ∃ o vs, H a = some (.frz o (.lst vs)) ∧ RVs K H ss vs
  | .dT kvs => ∃ ws, H a = some (.dT ws) ∧ KR K H kvs ws
  | .ins C dx fs => ∃ ws, H a = some (.ins C dx ws) ∧ KR K H fs ws
def MemR (K : PySem.W.Frag) (M : Mem) (H : Hp) : Prop := ∀ a o, M a = some o → MR K H a o
theorem RV.up {K : PySem.W.Frag} {H H' : Hp} {s : S} {v : V} (h : RV K H s v) (k : Keep K H H') : RV K H' s v := RV.mono k s v h
theorem RVs.up {K : PySem.W.Frag} {H H' : Hp} {s : List S} {v : List V} (h : RVs K H s v) (k : Keep K H H') : RVs K H' s v := RVs.mono k s v h
theorem MR.up {K : PySem.W.Frag} {H H' : Hp} {a : Addr} {o : MO} (k : Keep K H H') (e : H' a = H a) (h : MR K H a o) : MR K H' a o := by
  cases o with
  | lst ss => obtain ⟨vs, h1, h2⟩ := h; exact ⟨vs, e.trans h1, h2.up k⟩
  | dK kvs => obtain ⟨vs, h1, h2⟩ := h; exact ⟨vs, e.trans h1, h2.mono k⟩
  | fz ss => obtain ⟨o, vs, h1, h2⟩ := h; exact ⟨o, vs, e.trans h1, h2.up k⟩
  | dT kvs => obtain ⟨vs, h1, h2⟩ := h; exact ⟨vs, e.trans h1, h2.mono k⟩
  | ins C dx fs => obtain ⟨vs, h1, h2⟩ := h; exact ⟨vs, e.trans h1, h2.mono k⟩
theorem MR.there {K : PySem.W.Frag} {H : Hp} {a : Addr} {o : MO} (h : MR K H a o) : H a ≠ none := by
  cases o with
  | lst ss => obtain ⟨vs, h1, h2⟩ := h; rw [h1]; exact fun z => nomatch z
  | dK kvs => obtain ⟨vs, h1, h2⟩ := h; rw [h1]; exact fun z => nomatch z
  | fz ss => obtain ⟨o, vs, h1, h2⟩ := h; rw [h1]; exact fun z => nomatch z
  | dT kvs => obtain ⟨vs, h1, h2⟩ := h; rw [h1]; exact fun z => nomatch z
  | ins C dx fs => obtain ⟨vs, h1, h2⟩ := h; rw [h1]; exact fun z => nomatch z
theorem MemR.free {K : PySem.W.Frag} {M : Mem} {H : Hp} {a : Addr} (m : MemR K M H) (h : H a = none) : M a = none := by
  cases e : M a with
  | none => rfl
  | some o => exact absurd h (m a o e).there

/-- what stands at p may be changed: nothing, a list or a dict of ours -/
def Soft : Option HO → Prop
  | none => True
  | some (.lst _) => True
  | some (.dK _) => True
  | some (.dT _) => True
  | some (.ins _ _ _) => True
  | _ => False
theorem keep_put {K : PySem.W.Frag} {H : Hp} {p : Addr} {o : HO} (s : Soft (H p)) : Keep K H (upd H p o) := by
  have n1 : ∀ a xs, H a = some (.tup xs) → a ≠ p := fun a xs e z => by rw [← z, e] at s; exact s
  have n2 : ∀ a ob u, H a = some (.frz ob u) → a ≠ p := fun a ob u e z => by rw [← z, e] at s; exact s
  refine ⟨fun a xs q => ?_, fun a xs q => ?_, fun a ob xs q => (upd_ne (n2 _ _ _ q)).trans q, fun a φ q => (upd_ne fun z => by rw [← z, q] at s; exact s).trans q, fun a fs q => (upd_ne fun z => by rw [← z, q] at s; exact s).trans q⟩
  · rcases q with q | q
    · exact .inl ((upd_ne (n1 _ _ q)).trans q)
    · exact .inr q
  · rcases q with ⟨ob, q⟩ | q
    · exact .inl ⟨ob, (upd_ne (n2 _ _ _ q)).trans q⟩
    · exact .inr q
theorem keep_new {K : PySem.W.Frag} {H : Hp} {p : Addr} {o : HO} (h : H p = none) : Keep K H (upd H p o) := keep_put (by rw [h]; exact True.intro)
theorem keep_lst {K : PySem.W.Frag} {H : Hp} {p : Addr} {o : HO} {vs : List V} (h : H p = some (.lst vs)) : Keep K H (upd H p o) := keep_put (by rw [h]; exact True.intro)
theorem keep_dK {K : PySem.W.Frag} {H : Hp} {p : Addr} {o : HO} {vs : List (Key × V)} (h : H p = some (.dK vs)) : Keep K H (upd H p o) := keep_put (by rw [h]; exact True.intro)
theorem keep_dT {K : PySem.W.Frag} {H : Hp} {p : Addr} {o : HO} {vs : List (List Key × V)} (h : H p = some (.dT vs)) : Keep K H (upd H p o) := keep_put (by rw [h]; exact True.intro)
theorem keep_ins {K : PySem.W.Frag} {H : Hp} {p : Addr} {o : HO} {C dx : Addr} {vs : List (Str × V)} (h : H p = some (.ins C dx vs)) : Keep K H (upd H p o) := keep_put (by rw [h]; exact True.intro)
/-- the store behind a write at p, or a new object there -/
theorem MemR.put {K : PySem.W.Frag} {M : Mem} {H : Hp} {p : Addr} {o : HO} {u : MO} (k : Keep K H (upd H p o)) (m : MemR K M H) (n : MR K (upd H p o) p u) : MemR K (updM M p u) (upd H p o) := fun a x e => by
  by_cases h : a = p
  · subst h
    rw [updM_same] at e
    cases e
    exact n
  · rw [updM_ne h] at e
    exact (m a x e).up k (upd_ne h)
/-- a new object that the store does not tell -/
theorem MemR.skip {K : PySem.W.Frag} {M : Mem} {H : Hp} {p : Addr} {o : HO} (h : H p = none) (m : MemR K M H) : MemR K M (upd H p o) := fun a x e =>
  (m a x e).up (keep_new h) (upd_ne fun z => (m a x e).there (by rw [z]; exact h))

/-- the slots -/
inductive EnvR (K : PySem.W.Frag) (H : Hp) : List (Option S) → List (Option V) → Prop
  | nil : EnvR K H [] []
  | nah {o : Option V} {es : List (Option S)} {os : List (Option V)} : EnvR K H es os → EnvR K H (none :: es) (o :: os)
  | yea {s : S} {v : V} {es : List (Option S)} {os : List (Option V)} : RV K H s v → EnvR K H es os → EnvR K H (some s :: es) (some v :: os)
section
variable {K : PySem.W.Frag} {H H' : Hp}
theorem EnvR.up (k : Keep K H H') : ∀ {es : List (Option S)} {os : List (Option V)}, EnvR K H es os → EnvR K H' es os
  | _, _, .nil => .nil
  | _, _, .nah t => .nah (EnvR.up k t)
  | _, _, .yea r t => .yea (r.up k) (EnvR.up k t)
theorem EnvR.get : ∀ {es : List (Option S)} {os : List (Option V)} {i : Nat} {s : S}, EnvR K H es os → es[i]? = some (some s) → ∃ v, os[i]? = some (some v) ∧ RV K H s v
  | _, _, _, _, .nil, e => by simp at e
  | _, _, 0, _, .nah _, e => by simp at e
  | _, _, 0, _, .yea r _, e => by simp at e; subst e; exact ⟨_, rfl, r⟩
  | _, _, i + 1, _, .nah t, e => by
    obtain ⟨v, h1, h2⟩ := EnvR.get (i := i) t (by simpa using e)
    exact ⟨v, by simpa using h1, h2⟩
  | _, _, i + 1, _, .yea _ t, e => by
    obtain ⟨v, h1, h2⟩ := EnvR.get (i := i) t (by simpa using e)
    exact ⟨v, by simpa using h1, h2⟩
theorem EnvR.set {s : S} {v : V} (r : RV K H s v) : ∀ {es : List (Option S)} {os : List (Option V)} (i : Nat), EnvR K H es os → EnvR K H (es.set i (some s)) (os.set i (some v))
  | _, _, _, .nil => .nil
  | _, _, 0, .nah t => .yea r t
  | _, _, 0, .yea _ t => .yea r t
  | _, _, i + 1, .nah t => .nah (EnvR.set r i t)
  | _, _, i + 1, .yea q t => .yea q (EnvR.set r i t)
/-- a slot is forgotten -/
theorem EnvR.forget {o : Option V} : ∀ {es : List (Option S)} {os : List (Option V)} (i : Nat), EnvR K H es os → EnvR K H (es.set i none) (os.set i o)
  | _, _, _, .nil => .nil
  | _, _, 0, .nah t => .nah t
  | _, _, 0, .yea _ t => .nah t
  | _, _, i + 1, .nah t => .nah (EnvR.forget i t)
  | _, _, i + 1, .yea q t => .yea q (EnvR.forget i t)
theorem EnvR.of (ss : List S) : ∀ {vs : List V}, RVs K H ss vs → ∀ n, EnvR K H (ss.map some ++ List.replicate n none) (vs.map some ++ List.replicate n none) := by
  induction ss with
  | nil =>
    intro vs h n
    cases h
    induction n with
    | zero => exact .nil
    | succ n ih => exact .nah ih
  | cons s ss ih =>
    intro vs h n
    cases h with
    | cons r t => exact .yea r (ih t n)
end

abbrev Ev := List (Option S)
/-- the symbolic state of a def: G what stood at its entry -/
structure Rel (K : PySem.W.Frag) (G : Hp) (env : Ev) (M : Mem) (σ : L2.St) (H : Hp) : Prop where
  base : Keep K G H
  env : EnvR K H env σ
  mem : MemR K M H
theorem Rel.step {K : PySem.W.Frag} {G : Hp} {env : Ev} {M M' : Mem} {σ : L2.St} {H H' : Hp} (r : Rel K G env M σ H) (k : Keep K H H') (m : MemR K M' H') : Rel K G env M' σ H' := ⟨r.base.trans k, r.env.up k, m⟩
theorem Rel.set {K : PySem.W.Frag} {G : Hp} {env : Ev} {M : Mem} {σ : L2.St} {H : Hp} {s : S} {v : V} (r : Rel K G env M σ H) (q : RV K H s v) (i : Nat) : Rel K G (env.set i (some s)) M (σ.set i (some v)) H := ⟨r.base, r.env.set q i, r.mem⟩
end Sy

set_option Elab.async false
set_option linter.all false
set_option maxRecDepth 100000
namespace Sy
open PySem PySem.Spec PyProof.Rows L2
abbrev QS := S → Mem → Prop
section
variable (X : Cx) (G : Hp)
def PostE (H : Hp) (Q : QS) : VK := fun v H' => ∃ s M', Keep X.K H H' ∧ RV X.K H' s v ∧ MemR X.K M' H' ∧ Q s M'
def PostA (H : Hp) (Q : List S → Mem → Prop) : List V → Hp → Prop := fun v H' => ∃ s M', Keep X.K H H' ∧ RVs X.K H' s v ∧ MemR X.K M' H' ∧ Q s M'
def PostT (H : Hp) (Q : Bool → Mem → Prop) : Bool → Hp → Prop := fun b H' => ∃ M', Keep X.K H H' ∧ MemR X.K M' H' ∧ Q b M'
/-- the expression e, at the symbolic state, gives a value and a store of which Q holds -/
def SE (e : Expr) (env : Ev) (M : Mem) (Q : QS) : Prop := ∀ σ H, Rel X.K G env M σ H → ∃ t, PE X e t ∧ t σ H (PostE X H Q)
def SA (es : List Expr) (env : Ev) (M : Mem) (Q : List S → Mem → Prop) : Prop := ∀ σ H, Rel X.K G env M σ H → ∃ t, PA X es t ∧ t σ H (PostA X H Q)
def ST (e : Expr) (env : Ev) (M : Mem) (Q : Bool → Mem → Prop) : Prop := ∀ σ H, Rel X.K G env M σ H → ∃ t, PT X e t ∧ t σ H (PostT X H Q)
def SW (e : Expr) (env : Ev) (M : Mem) (Q : Bool → Mem → Prop) : Prop := ∀ σ H, Rel X.K G env M σ H → ∃ t, PW X e t ∧ t σ H (PostT X H Q)
/-- what is wanted behind a statement -/
structure SD where
  nx : Ev → Mem → Prop
  rt : QS
  bk : Ev → Mem → Prop := fun _ _ => False
  ct : Ev → Mem → Prop := fun _ _ => False
def Dn (n : Ev → Mem → Prop) : L2.St → Hp → Prop := fun σ H => ∃ env M, Rel X.K G env M σ H ∧ n env M
def Dr (D : SD) : Ends := { nx := Dn X G D.nx, rt := fun v H => ∃ s M, Keep X.K G H ∧ RV X.K H s v ∧ MemR X.K M H ∧ D.rt s M, bk := Dn X G D.bk, ct := Dn X G D.ct }
def SS (st : Stmt) (env : Ev) (M : Mem) (D : SD) : Prop := ∀ G1, Keep X.K G G1 → ∀ σ H, Rel X.K G1 env M σ H → ∃ t, PS X st t ∧ t (Dr X G1 D) σ H
def SSs (st : List Stmt) (env : Ev) (M : Mem) (D : SD) : Prop := ∀ G1, Keep X.K G G1 → ∀ σ H, Rel X.K G1 env M σ H → ∃ t, PSs X st t ∧ t (Dr X G1 D) σ H

def tS (e : Expr) : TE := fun σ H R => ∃ env M Q, Rel X.K G env M σ H ∧ SE X G e env M Q ∧ ∀ v H', PostE X H Q v H' → R v H'
def tSA (es : List Expr) : TA := fun σ H R => ∃ env M Q, Rel X.K G env M σ H ∧ SA X G es env M Q ∧ ∀ v H', PostA X H Q v H' → R v H'
def tST (e : Expr) : TT := fun σ H R => ∃ env M Q, Rel X.K G env M σ H ∧ ST X G e env M Q ∧ ∀ v H', PostT X H Q v H' → R v H'
def tSW (e : Expr) : TT := fun σ H R => ∃ env M Q, Rel X.K G env M σ H ∧ SW X G e env M Q ∧ ∀ v H', PostT X H Q v H' → R v H'
structure DLe (D D' : Ends) : Prop where
  nx : ∀ σ H, D.nx σ H → D'.nx σ H
  rt : ∀ v H, D.rt v H → D'.rt v H
  bk : ∀ σ H, D.bk σ H → D'.bk σ H
  ct : ∀ σ H, D.ct σ H → D'.ct σ H
def tSS (st : Stmt) : TS := fun D σ H => ∃ env M D' G1, Keep X.K G G1 ∧ Rel X.K G1 env M σ H ∧ SS X G st env M D' ∧ DLe (Dr X G1 D') D
def tSSs (st : List Stmt) : TS := fun D σ H => ∃ env M D' G1, Keep X.K G G1 ∧ Rel X.K G1 env M σ H ∧ SSs X G st env M D' ∧ DLe (Dr X G1 D') D
end
theorem DLe.refl {D : Ends} : DLe D D := ⟨fun _ _ h => h, fun _ _ h => h, fun _ _ h => h, fun _ _ h => h⟩
section
variable {X : Cx} {G : Hp}
theorem sp_le {D D' : Ends} (l : DLe D D') {pins : List (Addr × Obj)} {f : Flow} {s : Shared} (h : SP X pins D f s) : SP X pins D' f s := by
  cases f with
  | next => obtain ⟨a, b, c, d⟩ := h; exact ⟨a, b, c, l.nx _ _ d⟩
  | brk => obtain ⟨a, b, c, d⟩ := h; exact ⟨a, b, c, l.bk _ _ d⟩
  | cont => obtain ⟨a, b, c, d⟩ := h; exact ⟨a, b, c, l.ct _ _ d⟩
  | ret u => obtain ⟨a, b, c, d, e, g⟩ := h; exact ⟨a, b, c, d, e, l.rt _ _ g⟩
theorem pe_S {e : Expr} : PE X e (tS X G e) := ⟨fun pins s σ H R I h => by
  obtain ⟨env, M, Q, r, hs, k⟩ := h
  obtain ⟨t, p, ht⟩ := hs σ H r
  exact thn (p.run pins s σ H _ I ht) fun u s1 ⟨v, H', I', rv, q⟩ => ⟨v, H', I', rv, k v H' q⟩⟩
theorem pa_S {es : List Expr} : PA X es (tSA X G es) := ⟨fun pos pins s σ H R I h => by
  obtain ⟨env, M, Q, r, hs, k⟩ := h
  obtain ⟨t, p, ht⟩ := hs σ H r
  exact thn (p.run pos pins s σ H _ I ht) fun u s1 ⟨v, H', I', rv, q⟩ => ⟨v, H', I', rv, k v H' q⟩⟩
theorem pt_S {e : Expr} : PT X e (tST X G e) := ⟨fun pins s σ H R I h => by
  obtain ⟨env, M, Q, r, hs, k⟩ := h
  obtain ⟨t, p, ht⟩ := hs σ H r
  exact thn (p.run pins s σ H _ I ht) fun u s1 ⟨H', I', q⟩ => ⟨H', I', k u H' q⟩⟩
theorem pw_S {e : Expr} : PW X e (tSW X G e) := ⟨fun wh pins s σ H R I h => by
  obtain ⟨env, M, Q, r, hs, k⟩ := h
  obtain ⟨t, p, ht⟩ := hs σ H r
  exact thn (p.run wh pins s σ H _ I ht) fun u s1 ⟨H', I', q⟩ => ⟨H', I', k u H' q⟩⟩
theorem ps_S {st : Stmt} : PS X st (tSS X G st) := ⟨fun pins s σ H D I h => by
  obtain ⟨env, M, D', G1, kG, r, hs, k⟩ := h
  obtain ⟨t, p, ht⟩ := hs G1 kG σ H r
  exact thn (p.run pins s σ H _ I ht) fun u s1 q => sp_le k q⟩
theorem pss_S {st : List Stmt} : PSs X st (tSSs X G st) := ⟨fun pins s σ H D I h => by
  obtain ⟨env, M, D', G1, kG, r, hs, k⟩ := h
  obtain ⟨t, p, ht⟩ := hs G1 kG σ H r
  exact thn (p.run pins s σ H _ I ht) fun u s1 q => sp_le k q⟩

theorem PostE.mono {H : Hp} {Q Q' : QS} {v : V} {H' : Hp} (h : PostE X H Q v H') (k : ∀ s M, Q s M → Q' s M) : PostE X H Q' v H' := by
  obtain ⟨s, M, a, b, c, d⟩ := h; exact ⟨s, M, a, b, c, k _ _ d⟩
theorem PostE.back {H H1 : Hp} {Q : QS} {v : V} {H' : Hp} (k : Keep X.K H H1) (h : PostE X H1 Q v H') : PostE X H Q v H' := by
  obtain ⟨s, M, a, b, c, d⟩ := h; exact ⟨s, M, k.trans a, b, c, d⟩
theorem PostA.back {H H1 : Hp} {Q : List S → Mem → Prop} {v : List V} {H' : Hp} (k : Keep X.K H H1) (h : PostA X H1 Q v H') : PostA X H Q v H' := by
  obtain ⟨s, M, a, b, c, d⟩ := h; exact ⟨s, M, k.trans a, b, c, d⟩
theorem PostT.back {H H1 : Hp} {Q : Bool → Mem → Prop} {v : Bool} {H' : Hp} (k : Keep X.K H H1) (h : PostT X H1 Q v H') : PostT X H Q v H' := by
  obtain ⟨M, a, c, d⟩ := h; exact ⟨M, k.trans a, c, d⟩
theorem pack {H : Hp} {Q : QS} {s : S} {v : V} {M : Mem} (r : RV X.K H s v) (m : MemR X.K M H) (q : Q s M) : PostE X H Q v H := ⟨s, M, Keep.refl, r, m, q⟩

theorem tS_go {e : Expr} {env : Ev} {M : Mem} {Q : QS} {σ : L2.St} {H : Hp} {R : VK} (r : Rel X.K G env M σ H) (h : SE X G e env M Q) (k : ∀ s M' v H', Keep X.K H H' → RV X.K H' s v → Rel X.K G env M' σ H' → Q s M' → R v H') : tS X G e σ H R :=
  ⟨env, M, Q, r, h, fun v H' ⟨s, M', a, b, c, d⟩ => k s M' v H' a b (r.step a c) d⟩
theorem Rel.weak {K : PySem.W.Frag} {G G1 : Hp} {env : Ev} {M : Mem} {σ : L2.St} {H : Hp} (r : Rel K G1 env M σ H) (k : Keep K G G1) : Rel K G env M σ H := ⟨k.trans r.base, r.env, r.mem⟩
theorem tS_at {e : Expr} {env : Ev} {M : Mem} {Q : QS} {σ : L2.St} {H G1 : Hp} {R : VK} (kG : Keep X.K G G1) (r : Rel X.K G1 env M σ H) (h : SE X G e env M Q) (k : ∀ s M' v H', Keep X.K H H' → RV X.K H' s v → Rel X.K G1 env M' σ H' → Q s M' → R v H') : tS X G e σ H R :=
  ⟨env, M, Q, r.weak kG, h, fun v H' ⟨s, M', a, b, c, d⟩ => k s M' v H' a b (r.step a c) d⟩
theorem tSA_at {e : List Expr} {env : Ev} {M : Mem} {Q : List S → Mem → Prop} {σ : L2.St} {H G1 : Hp} {R : List V → Hp → Prop} (kG : Keep X.K G G1) (r : Rel X.K G1 env M σ H) (h : SA X G e env M Q) (k : ∀ s M' v H', Keep X.K H H' → RVs X.K H' s v → Rel X.K G1 env M' σ H' → Q s M' → R v H') : tSA X G e σ H R :=
  ⟨env, M, Q, r.weak kG, h, fun v H' ⟨s, M', a, b, c, d⟩ => k s M' v H' a b (r.step a c) d⟩
theorem tST_at {e : Expr} {env : Ev} {M : Mem} {Q : Bool → Mem → Prop} {σ : L2.St} {H G1 : Hp} {R : Bool → Hp → Prop} (kG : Keep X.K G G1) (r : Rel X.K G1 env M σ H) (h : ST X G e env M Q) (k : ∀ b M' H', Keep X.K H H' → Rel X.K G1 env M' σ H' → Q b M' → R b H') : tST X G e σ H R :=
  ⟨env, M, Q, r.weak kG, h, fun v H' ⟨M', a, c, d⟩ => k v M' H' a (r.step a c) d⟩
theorem tSA_go {e : List Expr} {env : Ev} {M : Mem} {Q : List S → Mem → Prop} {σ : L2.St} {H : Hp} {R : List V → Hp → Prop} (r : Rel X.K G env M σ H) (h : SA X G e env M Q) (k : ∀ s M' v H', Keep X.K H H' → RVs X.K H' s v → Rel X.K G env M' σ H' → Q s M' → R v H') : tSA X G e σ H R :=
  ⟨env, M, Q, r, h, fun v H' ⟨s, M', a, b, c, d⟩ => k s M' v H' a b (r.step a c) d⟩
theorem tST_go {e : Expr} {env : Ev} {M : Mem} {Q : Bool → Mem → Prop} {σ : L2.St} {H : Hp} {R : Bool → Hp → Prop} (r : Rel X.K G env M σ H) (h : ST X G e env M Q) (k : ∀ b M' H', Keep X.K H H' → Rel X.K G env M' σ H' → Q b M' → R b H') : tST X G e σ H R :=
  ⟨env, M, Q, r, h, fun v H' ⟨M', a, c, d⟩ => k v M' H' a (r.step a c) d⟩
theorem tSW_go {e : Expr} {env : Ev} {M : Mem} {Q : Bool → Mem → Prop} {σ : L2.St} {H : Hp} {R : Bool → Hp → Prop} (r : Rel X.K G env M σ H) (h : SW X G e env M Q) (k : ∀ b M' H', Keep X.K H H' → Rel X.K G env M' σ H' → Q b M' → R b H') : tSW X G e σ H R :=
  ⟨env, M, Q, r, h, fun v H' ⟨M', a, c, d⟩ => k v M' H' a (r.step a c) d⟩

variable {env : Ev} {M : Mem} {Q : QS} {a b c e : Expr} {es : List Expr} {pos : Pos}
theorem se_name {i : Nat} {x : Str} {s : S} (he : env[i]? = some (some s)) (hN : X.N[i]? = some x) (hv : Vis X.env.scope x) (q : Q s M) (hd : (x == ("__debug__" : Str)) = false := by decide) (hcd : (x == ("__classdict__" : Str)) = false := by decide) : SE X G (.Name x pos) env M Q := fun σ H r => by
  obtain ⟨v, e1, rv⟩ := r.env.get he
  exact ⟨_, pe_var hN hv hd hcd, v, e1, pack rv r.mem q⟩
theorem se_int {i : Int} {j} (q : Q (.int i) M) : SE X G (.Constant (.int i) j pos) env M Q := fun σ H r => ⟨_, pe_int, pack (.int i) r.mem q⟩
theorem se_bl {i : Bool} {j} (q : Q (.bl i) M) : SE X G (.Constant (.bool i) j pos) env M Q := fun σ H r => ⟨_, pe_bl, pack (.bl i) r.mem q⟩
theorem se_non {j} (q : Q .non M) : SE X G (.Constant .none j pos) env M Q := fun σ H r => ⟨_, pe_non, pack .non r.mem q⟩
theorem se_str {x : Str} {j} (q : Q (.str x) M) : SE X G (.Constant (.str x) j pos) env M Q := fun σ H r => ⟨_, pe_str, pack (.str x) r.mem q⟩
/-- a constant of the module -/
theorem se_glob {x : Str} {s : S} {v : V} {u : Value} (hg : Gl X x) (hm : X.mg x = some u) (hr : RelV v u) (hs : ∀ H, RV X.K H s v) (q : Q s M) (hd : (x == ("__debug__" : Str)) = false := by decide) : SE X G (.Name x pos) env M Q := fun σ H r =>
  ⟨_, pe_glob hg hm hr hd, pack (hs H) r.mem q⟩
theorem se_bltn {x : Str} {n : String} (hg : Gl X x) (hm : X.mg x = none) (hv : bootBuiltins x = some (.type n)) (q : Q (.ty n) M) (hn : x ≠ "__name__" := by decide) (hd : (x == ("__debug__" : Str)) = false := by decide) : SE X G (.Name x pos) env M Q := fun σ H r =>
  ⟨_, pe_bltn (v := .ty n) hg hm hv rfl hn hd, pack (.ty n) r.mem q⟩

def RO (X : Cx) (op : Operator) (x y : S) (M : Mem) (Q : QS) : Prop := ∀ v w H, MemR X.K M H → RV X.K H x v → RV X.K H y w → ∃ r, OpR X (binaryOp op) r ∧ r v w H (PostE X H Q)
def RC (X : Cx) (op : CmpOp) (x y : S) (M : Mem) (Q : QS) : Prop := ∀ v w H, MemR X.K M H → RV X.K H x v → RV X.K H y w → ∃ r, OpR X (compareOp op) r ∧ r v w H (PostE X H Q)
def RU (X : Cx) (op : UnaryOp) (x : S) (M : Mem) (Q : QS) : Prop := ∀ v H, MemR X.K M H → RV X.K H x v → ∃ r, UnR X (unaryOp op) r ∧ r v H (PostE X H Q)
def RX (X : Cx) (x y : S) (M : Mem) (Q : QS) : Prop := ∀ v w H, MemR X.K M H → RV X.K H x v → RV X.K H y w → ∃ r, IxR X r ∧ r v w H (PostE X H Q)
def RB (X : Cx) (f : Value) (xs : List S) (M : Mem) (Q : QS) : Prop := ∀ vs H, MemR X.K M H → RVs X.K H xs vs → ∃ r, CallR X f r ∧ r vs H (PostE X H Q)
/-- any operation by its rules, weakened -/
def anyO (X : Cx) (f : Value → Value → Sem Value) : R2 := fun x y H R => ∃ (Q : VK) (r : R2), OpR X f r ∧ r x y H Q ∧ ∀ z H', Q z H' → R z H'
def anyU (X : Cx) (f : Value → Sem Value) : V → Hp → VK → Prop := fun x H R => ∃ (Q : VK) (r : V → Hp → VK → Prop), UnR X f r ∧ r x H Q ∧ ∀ z H', Q z H' → R z H'
def anyX (X : Cx) : R2 := fun x y H R => ∃ (Q : VK) (r : R2), IxR X r ∧ r x y H Q ∧ ∀ z H', Q z H' → R z H'
def anyC (X : Cx) (f : Value) : List V → Hp → VK → Prop := fun x H R => ∃ (Q : VK) (r : List V → Hp → VK → Prop), CallR X f r ∧ r x H Q ∧ ∀ z H', Q z H' → R z H'
theorem ep_le {pins : List (Addr × Obj)} {σ : L2.St} {Q R : VK} (k : ∀ z H', Q z H' → R z H') {u : Value} {s : Shared} (h : EP X pins σ Q u s) : EP X pins σ R u s := by
  obtain ⟨v, H', I, r, q⟩ := h
  exact ⟨v, H', I, r, k _ _ q⟩
theorem opr_any {f : Value → Value → Sem Value} : OpR X f (anyO X f) := by
  intro pins s σ H x y v u R I rx ry ⟨Q, r, h, q, k⟩
  exact thn (h pins s σ H x y v u Q I rx ry q) fun _ _ z => ep_le k z
theorem unr_any {f : Value → Sem Value} : UnR X f (anyU X f) := by
  intro pins s σ H x v R I rx ⟨Q, r, h, q, k⟩
  exact thn (h pins s σ H x v Q I rx q) fun _ _ z => ep_le k z
theorem ixr_any : IxR X (anyX X) := by
  intro va sl pins s σ H x y v u R I rx ry ⟨Q, r, h, q, k⟩ hs
  exact thn (h va sl pins s σ H x y v u Q I rx ry q hs) fun _ _ z => ep_le k z
theorem clr_any {f : Value} : CallR X f (anyC X f) := by
  intro pins s σ H xs us R I rx ⟨Q, r, h, q, k⟩
  exact thn (h pins s σ H xs us Q I rx q) fun _ _ z => ep_le k z
theorem se_bin {op : Operator} (h : SE X G a env M fun x M1 => SE X G b env M1 fun y M2 => RO X op x y M2 Q) : SE X G (.BinOp a op b pos) env M Q := fun σ H R =>
  ⟨_, pe_op opr_any pe_S pe_S, tS_go R h fun x M1 v H1 k1 rv R1 q1 => tS_go R1 q1 fun y M2 w H2 k2 rw R2 q2 => by
    obtain ⟨r, hr, q⟩ := q2 v w H2 R2.mem (rv.up k2) rw
    exact ⟨_, r, hr, q, fun z H' p => p.back (k1.trans k2)⟩⟩
theorem se_cmp {op : CmpOp} (h : SE X G a env M fun x M1 => SE X G b env M1 fun y M2 => RC X op x y M2 Q) (hm : behindInMarks op b = false := by first | exact nomark _ | rfl) : SE X G (.Compare a [op] [b] pos) env M Q := fun σ H R =>
  ⟨_, pe_cmpR opr_any pe_S pe_S hm, tS_go R h fun x M1 v H1 k1 rv R1 q1 => tS_go R1 q1 fun y M2 w H2 k2 rw R2 q2 => by
    obtain ⟨r, hr, q⟩ := q2 v w H2 R2.mem (rv.up k2) rw
    exact ⟨_, r, hr, q, fun z H' p => p.back (k1.trans k2)⟩⟩
/-- what a test wants of a truth value -/
def QB (Q : Bool → Mem → Prop) : QS := fun s M => ∃ k, s = .bl k ∧ Q k M
theorem QB.mk {Q : Bool → Mem → Prop} {k : Bool} {M : Mem} (h : Q k M) : QB Q (.bl k) M := ⟨k, rfl, h⟩
theorem QB.post {H H0 : Hp} {Q : Bool → Mem → Prop} {v : V} {H' : Hp} (k0 : Keep X.K H0 H) (h : PostE X H (QB Q) v H') : ∃ k, v = .bl k ∧ PostT X H0 Q k H' := by
  obtain ⟨s, M, a, b, c, k, rfl, q⟩ := h
  cases b
  exact ⟨k, rfl, M, k0.trans a, c, q⟩
theorem st_cmp {op : CmpOp} {Q : Bool → Mem → Prop} (h : SE X G a env M fun x M1 => SE X G b env M1 fun y M2 => RC X op x y M2 (QB Q)) (hm : behindInMarks op b = false := by first | exact nomark _ | rfl) : ST X G (.Compare a [op] [b] pos) env M Q := fun σ H R =>
  ⟨_, pt_cmpR opr_any pe_S pe_S hm, tS_go R h fun x M1 v H1 k1 rv R1 q1 => tS_go R1 q1 fun y M2 w H2 k2 rw R2 q2 => by
    obtain ⟨r, hr, q⟩ := q2 v w H2 R2.mem (rv.up k2) rw
    exact ⟨_, r, hr, q, fun z H' p => QB.post (k1.trans k2) p⟩⟩
theorem st_val {Q : Bool → Mem → Prop} (h : SE X G e env M (QB Q)) (he : ∀ whole, isTrue e X.env whole = (do let v ← whole; standAt e.pos; holding [v] (truthy v)) := by intro _; rfl) : ST X G e env M Q := fun σ H R =>
  ⟨_, pt_val pe_S he, env, M, _, R, h, fun v H' p => QB.post Keep.refl p⟩
theorem se_un {op : UnaryOp} (h : SE X G a env M fun x M1 => RU X op x M1 Q) : SE X G (.UnaryOp op a pos) env M Q := fun σ H R =>
  ⟨_, pe_un unr_any pe_S, tS_go R h fun x M1 v H1 k1 rv R1 q1 => by
    obtain ⟨r, hr, q⟩ := q1 v H1 R1.mem rv
    exact ⟨_, r, hr, q, fun z H' p => p.back k1⟩⟩
theorem se_ix (h : SE X G a env M fun x M1 => SE X G b env M1 fun y M2 => RX X x y M2 Q) (hs : PlainIx b := by exact fun _ _ => rfl) : SE X G (.Subscript a b pos) env M Q := fun σ H R =>
  ⟨_, pe_ix ixr_any pe_S pe_S hs, tS_go R h fun x M1 v H1 k1 rv R1 q1 => tS_go R1 q1 fun y M2 w H2 k2 rw R2 q2 => by
    obtain ⟨r, hr, q⟩ := q2 v w H2 R2.mem (rv.up k2) rw
    exact ⟨_, r, hr, q, fun z H' p => p.back (k1.trans k2)⟩⟩
theorem sa_nil {Q : List S → Mem → Prop} (q : Q [] M) : SA X G [] env M Q := fun σ H R => ⟨_, pa_nil, [], M, Keep.refl, .nil, R.mem, q⟩
theorem sa_cons {Q : List S → Mem → Prop} (h : SE X G e env M fun x M1 => SA X G es env M1 fun xs M2 => Q (x :: xs) M2) (hs : starEach (e :: es) X.env = (false, eval e X.env) :: starEach es X.env := by rfl) : SA X G (e :: es) env M Q := fun σ H R =>
  ⟨_, pa_cons (te := tS X G e) pe_S pa_S hs, tS_go R h fun x M1 v H1 k1 rv R1 q1 => tSA_go R1 q1 fun xs M2 vs H2 k2 rvs R2 q2 => ⟨x :: xs, M2, k1.trans k2, .cons (rv.up k2) rvs, R2.mem, q2⟩⟩
theorem se_tup {x1} (h : SA X G es env M fun xs M1 => xs.length ≤ sizeLine ∧ Q (.tup xs) M1) : SE X G (.Tuple es x1 pos) env M Q := fun σ H R =>
  ⟨_, pe_tup pa_S, tSA_go R h fun xs M1 vs H1 k1 rvs R1 ⟨hl, q⟩ => ⟨by rw [← rvs.length]; exact hl, fun p hp =>
    ⟨.tup xs, M1, k1.trans (keep_new hp), .tup (.inl upd_same) (rvs.up (keep_new hp)), R1.mem.skip hp, q⟩⟩⟩
theorem put_lst {H : Hp} {p : Addr} {xs : List S} {vs : List V} (m : MemR X.K M H) (hp : H p = none) (rvs : RVs X.K H xs vs) : MemR X.K (updM M p (.lst xs)) (upd H p (.lst vs)) := m.put (keep_new hp) ⟨vs, upd_same, rvs.up (keep_new hp)⟩
theorem se_lst (h : SA X G es env M fun xs M1 => xs.length ≤ sizeLine ∧ ∀ p, M1 p = none → Q (.ptr p) (updM M1 p (.lst xs))) : SE X G (.List es pos) env M Q := fun σ H R =>
  ⟨_, pe_lst pa_S, tSA_go R h fun xs M1 vs H1 k1 rvs R1 ⟨hl, q⟩ => ⟨by rw [← rvs.length]; exact hl, fun p hp =>
    ⟨.ptr p, _, k1.trans (keep_new hp), .ptr p, put_lst R1.mem hp rvs, q p (R1.mem.free hp)⟩⟩⟩
theorem st_of {Q : Bool → Mem → Prop} (h : SW X G e env M Q) : ST X G e env M Q := fun σ H R => by
  obtain ⟨t, p, q⟩ := h σ H R
  exact ⟨t, p.pt, q⟩
theorem sw_and1 {Q : Bool → Mem → Prop} (h : ST X G a env M Q) : SW X G (.BoolOp .And [a] pos) env M Q := fun σ H R => by
  obtain ⟨t, p, q⟩ := h σ H R
  exact ⟨t, pw_and1 p, q⟩
theorem sw_or1 {Q : Bool → Mem → Prop} (h : ST X G a env M Q) : SW X G (.BoolOp .Or [a] pos) env M Q := fun σ H R => by
  obtain ⟨t, p, q⟩ := h σ H R
  exact ⟨t, pw_or1 p, q⟩
theorem sw_and {Q : Bool → Mem → Prop} (h : ST X G a env M fun k M1 => (k = true → SW X G (.BoolOp .And (b :: es) pos) env M1 Q) ∧ (k = false → Q false M1)) : SW X G (.BoolOp .And (a :: b :: es) pos) env M Q := fun σ H R =>
  ⟨_, pw_and (tA := tST X G a) pt_S pw_S, tST_go R h fun k M1 H1 k1 R1 q => by
    cases k with
    | true => exact iteT (tSW_go R1 (q.1 rfl) fun k2 M2 H2 k2' R2 q2 => ⟨M2, k1.trans k2', R2.mem, q2⟩)
    | false => exact iteF ⟨M1, k1, R1.mem, q.2 rfl⟩⟩
theorem sw_or {Q : Bool → Mem → Prop} (h : ST X G a env M fun k M1 => (k = true → Q true M1) ∧ (k = false → SW X G (.BoolOp .Or (b :: es) pos) env M1 Q)) : SW X G (.BoolOp .Or (a :: b :: es) pos) env M Q := fun σ H R =>
  ⟨_, pw_or (tA := tST X G a) pt_S pw_S, tST_go R h fun k M1 H1 k1 R1 q => by
    cases k with
    | true => exact iteT ⟨M1, k1, R1.mem, q.1 rfl⟩
    | false => exact iteF (tSW_go R1 (q.2 rfl) fun k2 M2 H2 k2' R2 q2 => ⟨M2, k1.trans k2', R2.mem, q2⟩)⟩
theorem st_not {Q : Bool → Mem → Prop} (h : ST X G a env M fun k M1 => Q (!k) M1) : ST X G (.UnaryOp .Not a pos) env M Q := fun σ H R =>
  ⟨_, pt_not pt_S, tST_go R h fun k M1 H1 k1 R1 q => ⟨M1, k1, R1.mem, q⟩⟩
theorem se_one {op} (h : SE X G a env M Q) : SE X G (.BoolOp op [a] pos) env M Q := fun σ H R => by
  obtain ⟨t, p, q⟩ := h σ H R
  exact ⟨t, pe_one p, q⟩
theorem se_and (h : SE X G a env M fun x M1 => ∃ k, x = .bl k ∧ (k = true → SE X G (.BoolOp .And (b :: es) pos) env M1 Q) ∧ (k = false → Q (.bl false) M1)) : SE X G (.BoolOp .And (a :: b :: es) pos) env M Q := fun σ H R =>
  ⟨_, pe_and (ta := tS X G a) pe_S pe_S, tS_go R h fun x M1 v H1 k1 rv R1 ⟨k, e, q⟩ => by
    subst e
    cases rv
    refine ⟨k, rfl, ?_⟩
    cases k with
    | true => exact iteT (tS_go R1 (q.1 rfl) fun x2 M2 v2 H2 k2 rv2 R2 q2 => ⟨x2, M2, k1.trans k2, rv2, R2.mem, q2⟩)
    | false => exact iteF ⟨.bl false, M1, k1, .bl _, R1.mem, q.2 rfl⟩⟩
theorem se_or (h : SE X G a env M fun x M1 => ∃ k, x = .bl k ∧ (k = true → Q (.bl true) M1) ∧ (k = false → SE X G (.BoolOp .Or (b :: es) pos) env M1 Q)) : SE X G (.BoolOp .Or (a :: b :: es) pos) env M Q := fun σ H R =>
  ⟨_, pe_or (ta := tS X G a) pe_S pe_S, tS_go R h fun x M1 v H1 k1 rv R1 ⟨k, e, q⟩ => by
    subst e
    cases rv
    refine ⟨k, rfl, ?_⟩
    cases k with
    | true => exact iteT ⟨.bl true, M1, k1, .bl _, R1.mem, q.1 rfl⟩
    | false => exact iteF (tS_go R1 (q.2 rfl) fun x2 M2 v2 H2 k2 rv2 R2 q2 => ⟨x2, M2, k1.trans k2, rv2, R2.mem, q2⟩)⟩
theorem se_not (h : SE X G a env M fun x M1 => ∃ k, x = .bl k ∧ Q (.bl (!k)) M1) : SE X G (.UnaryOp .Not a pos) env M Q := fun σ H R =>
  ⟨_, pe_not (ta := tS X G a) pe_S, tS_go R h fun x M1 v H1 k1 rv R1 ⟨k, e, q⟩ => by
    subst e
    cases rv
    exact ⟨k, rfl, .bl (!k), M1, k1, .bl _, R1.mem, q⟩⟩
theorem se_if (h : ST X G c env M fun k M1 => (k = true → SE X G a env M1 Q) ∧ (k = false → SE X G b env M1 Q)) : SE X G (.IfExp c a b pos) env M Q := fun σ H R =>
  ⟨_, pe_ifExp (tA := tST X G c) pt_S pe_S pe_S, tST_go R h fun k M1 H1 k1 R1 q => by
    cases k with
    | true => exact iteT (tS_go R1 (q.1 rfl) fun x2 M2 v2 H2 k2 rv2 R2 q2 => ⟨x2, M2, k1.trans k2, rv2, R2.mem, q2⟩)
    | false => exact iteF (tS_go R1 (q.2 rfl) fun x2 M2 v2 H2 k2 rv2 R2 q2 => ⟨x2, M2, k1.trans k2, rv2, R2.mem, q2⟩)⟩
theorem se_callB {x : Str} {id : String} {p : Pos} (hg : Gl X x) (hm : X.mg x = none) (hv : bootBuiltins x = some (.builtin id)) (h : SA X G (e :: es) env M fun xs M1 => RB X (.builtin id) xs M1 Q) (hn : x ≠ "__name__" := by decide) (hdb : (x == ("__debug__" : Str)) = false := by decide)
    (he : starEach (e :: es) X.env = (false, eval e X.env) :: starEach es X.env := by rfl) (hpl : (backTo pos (starEach es X.env)).any (·.1) = false := by rfl) : SE X G (.Call (.Name x p) (e :: es) [] pos) env M Q := fun σ H R =>
  ⟨_, pe_callB clr_any hg hm hv pa_S hn hdb he hpl, tSA_go R h fun xs M1 vs H1 k1 rvs R1 q => by
    obtain ⟨r, hr, q⟩ := q vs H1 R1.mem rvs
    exact ⟨_, r, hr, q, fun z H' p => p.back k1⟩⟩
theorem se_callT {x : Str} {T : String} {p : Pos} (hg : Gl X x) (hm : X.mg x = none) (hv : bootBuiltins x = some (.type T)) (h : SA X G (e :: es) env M fun xs M1 => RB X (.type T) xs M1 Q) (hn : x ≠ "__name__" := by decide) (hdb : (x == ("__debug__" : Str)) = false := by decide)
    (he : starEach (e :: es) X.env = (false, eval e X.env) :: starEach es X.env := by rfl) (hpl : (backTo pos (starEach es X.env)).any (·.1) = false := by rfl) : SE X G (.Call (.Name x p) (e :: es) [] pos) env M Q := fun σ H R =>
  ⟨_, pe_callTy clr_any hg hm hv pa_S hn hdb he hpl, tSA_go R h fun xs M1 vs H1 k1 rvs R1 q => by
    obtain ⟨r, hr, q⟩ := q vs H1 R1.mem rvs
    exact ⟨_, r, hr, q, fun z H' p => p.back k1⟩⟩
end
end Sy

set_option Elab.async false
set_option linter.all false
set_option maxRecDepth 100000
namespace Sy
open PySem PySem.Spec PyProof.Rows L2
section
variable {X : Cx} {G : Hp} {env : Ev} {M : Mem} {D : SD} {a b c e : Expr} {es : List Expr} {pos : Pos} {st : Stmt} {sts : List Stmt}
theorem DLe.dr {D D' : SD} (h1 : ∀ v M, D.nx v M → D'.nx v M) (h2 : ∀ v M, D.rt v M → D'.rt v M) (h3 : ∀ v M, D.bk v M → D'.bk v M) (h4 : ∀ v M, D.ct v M → D'.ct v M) : DLe (Dr X G D) (Dr X G D') :=
  ⟨fun σ H ⟨v, M, r, q⟩ => ⟨v, M, r, h1 _ _ q⟩, fun v H ⟨s, M, k, r, m, q⟩ => ⟨s, M, k, r, m, h2 _ _ q⟩, fun σ H ⟨v, M, r, q⟩ => ⟨v, M, r, h3 _ _ q⟩, fun σ H ⟨v, M, r, q⟩ => ⟨v, M, r, h4 _ _ q⟩⟩
theorem sb_nil (q : D.nx env M) : SSs X G [] env M D := fun G1 kG σ H R => ⟨_, pss_nil, env, M, R, q⟩
theorem sb_cons (h : SS X G st env M { D with nx := fun v M' => SSs X G sts v M' D }) : SSs X G (st :: sts) env M D := fun G1 kG σ H R =>
  ⟨_, pss_cons (t := tSS X G st) ps_S (u := tSSs X G sts) pss_S, env, M, _, G1, kG, R, h, ⟨fun σ' H' ⟨v, M', r, q⟩ => ⟨v, M', D, G1, kG, r, q, DLe.refl⟩, fun _ _ q => q, fun _ _ q => q, fun _ _ q => q⟩⟩
theorem sb_one (h : SS X G st env M D) : SSs X G [st] env M D := fun G1 kG σ H R => by
  obtain ⟨t, p, q⟩ := h G1 kG σ H R
  exact ⟨t, pss_one p, q⟩
/-- a statement by a stronger end -/
theorem ss_le {D' : SD} (h : SS X G st env M D') (h1 : ∀ v M, D'.nx v M → D.nx v M) (h2 : ∀ v M, D'.rt v M → D.rt v M) (h3 : ∀ v M, D'.bk v M → D.bk v M) (h4 : ∀ v M, D'.ct v M → D.ct v M) : SS X G st env M D := fun G1 kG σ H R =>
  ⟨_, ps_S, env, M, D', G1, kG, R, h, DLe.dr h1 h2 h3 h4⟩
theorem sb_le {D' : SD} (h : SSs X G sts env M D') (h1 : ∀ v M, D'.nx v M → D.nx v M) (h2 : ∀ v M, D'.rt v M → D.rt v M) (h3 : ∀ v M, D'.bk v M → D.bk v M) (h4 : ∀ v M, D'.ct v M → D.ct v M) : SSs X G sts env M D := fun G1 kG σ H R =>
  ⟨_, pss_S, env, M, D', G1, kG, R, h, DLe.dr h1 h2 h3 h4⟩
theorem ss_pass (q : D.nx env M) : SS X G (.Pass pos) env M D := fun G1 kG σ H R => ⟨_, ps_pass, env, M, R, q⟩
theorem ss_break (q : D.bk env M) : SS X G (.Break pos) env M D := fun G1 kG σ H R => ⟨_, ps_break, env, M, R, q⟩
theorem ss_cont (q : D.ct env M) : SS X G (.Continue pos) env M D := fun G1 kG σ H R => ⟨_, ps_continue, env, M, R, q⟩
theorem ss_expr (h : SE X G e env M fun _ M' => D.nx env M') (hs : swapsWith e none pos.line X.env = pure false := by rfl) : SS X G (.Expr e pos) env M D := fun G1 kG σ H R =>
  ⟨_, ps_expr pe_S hs, tS_at kG R h fun s M' v H' k rv R' q => ⟨env, M', R', q⟩⟩
theorem ss_ret (h : SE X G e env M D.rt) : SS X G (.Return (some e) pos) env M D := fun G1 kG σ H R =>
  ⟨_, ps_ret pe_S, tS_at kG R h fun s M' v H' k rv R' q => ⟨s, M', R'.base, rv, R'.mem, q⟩⟩
theorem ss_retN (h : D.rt .non M) : SS X G (.Return none pos) env M D := fun G1 kG σ H R => ⟨_, ps_retN, .non, M, R.base, .non, R.mem, h⟩
theorem ss_if {A B : List Stmt} (h : ST X G c env M fun k M1 => (k = true → SSs X G A env M1 D) ∧ (k = false → SSs X G B env M1 D)) : SS X G (.If c A B pos) env M D := fun G1 kG σ H R =>
  ⟨_, ps_if (tc := tST X G c) pt_S (t := tSSs X G A) pss_S (u := tSSs X G B) pss_S, tST_at kG R h fun k M1 H1 k1 R1 q => by
    cases k with
    | true => exact iteT ⟨env, M1, D, G1, kG, R1, q.1 rfl, DLe.refl⟩
    | false => exact iteF ⟨env, M1, D, G1, kG, R1, q.2 rfl, DLe.refl⟩⟩
def DnK (X : Cx) (G H : Hp) (n : Ev → Mem → Prop) : L2.St → Hp → Prop := fun σ' H' => Keep X.K H H' ∧ Dn X G n σ' H'
def SG (X : Cx) (G : Hp) (tg : Expr) (s : S) (env : Ev) (M : Mem) (n : Ev → Mem → Prop) : Prop := ∀ G1, Keep X.K G G1 → ∀ v σ H, Rel X.K G1 env M σ H → RV X.K H s v → ∃ g, PG X tg g ∧ g v σ H (DnK X G1 H n)
def SGs (X : Cx) (G : Hp) (tg : List Expr) (s : List S) (env : Ev) (M : Mem) (n : Ev → Mem → Prop) : Prop := ∀ G1, Keep X.K G G1 → ∀ v σ H, Rel X.K G1 env M σ H → RVs X.K H s v → ∃ g, PGs X tg g ∧ g v σ H (DnK X G1 H n)
def tSG (X : Cx) (G : Hp) (tg : Expr) : TG := fun v σ H R => ∃ s env M n G1, Keep X.K G G1 ∧ Rel X.K G1 env M σ H ∧ RV X.K H s v ∧ SG X G tg s env M n ∧ ∀ σ' H', DnK X G1 H n σ' H' → R σ' H'
def tSGs (X : Cx) (G : Hp) (tg : List Expr) : TGs := fun v σ H R => ∃ s env M n G1, Keep X.K G G1 ∧ Rel X.K G1 env M σ H ∧ RVs X.K H s v ∧ SGs X G tg s env M n ∧ ∀ σ' H', DnK X G1 H n σ' H' → R σ' H'
theorem pg_S {tg : Expr} : PG X tg (tSG X G tg) := ⟨fun pins s σ H v u R I rv h => by
  obtain ⟨s, env, M, n, G1, kG, r, hv, hs, k⟩ := h
  obtain ⟨g, p, hg⟩ := hs G1 kG v σ H r hv
  exact thn (p.run pins _ σ H v u _ I rv hg) fun _ s1 ⟨σ', H', I', q⟩ => ⟨σ', H', I', k _ _ q⟩⟩
theorem pgs_S {tg : List Expr} : PGs X tg (tSGs X G tg) := ⟨fun pins s σ H v u R I rv h => by
  obtain ⟨s, env, M, n, G1, kG, r, hv, hs, k⟩ := h
  obtain ⟨g, p, hg⟩ := hs G1 kG v σ H r hv
  exact thn (p.run pins _ σ H v u _ I rv hg) fun _ s1 ⟨σ', H', I', q⟩ => ⟨σ', H', I', k _ _ q⟩⟩
variable {n : Ev → Mem → Prop} {s : S} {ss : List S}
theorem sg_name {i : Nat} {x : Str} (q : n (env.set i (some s)) M) (hN : X.N.Nodup) (hi : X.N[i]? = some x) (hx : Loc X.env.scope x) (hf : X.fn x = true ∨ X.env.scope.names.lookup x = some .local := by first | exact .inl rfl | exact .inr rfl | assumption) : SG X G (.Name x pos) s env M n := fun G1 kG v σ H R hv =>
  ⟨_, pg_name hN hi hx hf, Keep.refl, env.set i (some s), M, R.set hv i, q⟩
theorem sgs_nil (q : n env M) : SGs X G [] [] env M n := fun G1 kG v σ H R hv => by
  cases hv
  exact ⟨_, pgs_nil, rfl, Keep.refl, env, M, R, q⟩
theorem sgs_cons (h : SG X G e s env M fun env' M' => SGs X G es ss env' M' n) (hs : (assignEach (e :: es) X.env).map (·.2) = assign e X.env :: (assignEach es X.env).map (·.2) := by rfl) : SGs X G (e :: es) (s :: ss) env M n := fun G1 kG v σ H R hv => by
  cases hv with
  | cons h1 h2 =>
    exact ⟨_, pgs_cons (pg_S (G := G)) (pgs_S (G := G)) hs, _, _, rfl, s, env, M, _, G1, kG, R, h1, h, fun σ' H' ⟨k, env', M', R', q⟩ => ⟨ss, env', M', n, G1, kG, R', h2.up k, q, fun σ2 H2 ⟨k2, d⟩ => ⟨k.trans k2, d⟩⟩⟩
theorem sg_tup {kk : Nat} (h : SGs X G es ss env M n) (hc : X.calm = true := by rfl) (hn : (assignEach es X.env).length = ss.length := by rfl) (hst : (assignEach es X.env).findIdx? (·.1) = none := by rfl) : SG X G (.Tuple es kk pos) (.tup ss) env M n := fun G1 kG v σ H R hv => by
  cases hv with
  | tup h1 h2 =>
    obtain ⟨g, p, q⟩ := h G1 kG _ σ H R h2
    exact ⟨_, pg_tup hc p hn hst, _, _, rfl, h1.sq, h2.length.symm, q⟩
/-- target = e -/
theorem ss_asg {tg : Expr} (h : SE X G e env M fun s M' => SG X G tg s env M' D.nx) (hs : swapsWithSole [tg] e pos.line X.env = pure false := by rfl) (hw : swappedStores [tg] e X.env = pure none := by rfl)
    (h1 : (assignEach [tg] X.env).map (·.2) = [assign tg X.env] := by rfl) : SS X G (.Assign [tg] e pos) env M D := fun G1 kG σ H R =>
  ⟨_, ps_asg pe_S (pg_S (G := G)) hs hw h1, tS_at kG R h fun s M' v H' k rv R' q => ⟨s, env, M', _, G1, kG, R', rv, q, fun _ _ z => z.2⟩⟩
theorem ss_set {i : Nat} {x : Str} {pos' : Pos} (h : SE X G e env M fun s M' => D.nx (env.set i (some s)) M') (hN : X.N.Nodup) (hi : X.N[i]? = some x) (hx : Loc X.env.scope x) (hs : swapsWith e (some (.Name x pos')) pos.line X.env = pure false := by rfl)
    (hf : X.fn x = true ∨ X.env.scope.names.lookup x = some .local := by first | exact .inl rfl | exact .inr rfl | assumption) : SS X G (.Assign [.Name x pos'] e pos) env M D := fun G1 kG σ H R =>
  ⟨_, ps_set hN hi hx pe_S hs hf, tS_at kG R h fun s M' v H' k rv R' q => ⟨env.set i (some s), M', R'.set rv i, q⟩⟩
/-- a, b = e1, e2, local names -/
theorem ss_par {i j : Nat} {x y : Str} {px py pt : Pos} {kt k2 pt2} (h : SA X G [a, b] env M fun vs M' => ∃ v w, vs = [v, w] ∧ D.nx ((env.set i (some v)).set j (some w)) M') (hN : X.N.Nodup) (hi : X.N[i]? = some x) (hj : X.N[j]? = some y) (hij : i ≠ j)
    (hx : X.env.scope.names.lookup x = some .local) (hy : X.env.scope.names.lookup y = some .local) (hw : swappedStores [.Tuple [.Name x px, .Name y py] kt pt] (.Tuple [a, b] k2 pt2) X.env = pure (some [x, y])) (hc : X.calm = true := by rfl)
    (hs : swapsWithSole [.Tuple [.Name x px, .Name y py] kt pt] (.Tuple [a, b] k2 pt2) pos.line X.env = pure false := by rfl) : SS X G (.Assign [.Tuple [.Name x px, .Name y py] kt pt] (.Tuple [a, b] k2 pt2) pos) env M D := fun G1 kG σ H R =>
  ⟨_, ps_par hc hN hi hj hij hx hy pa_S hw hs, tSA_at kG R h fun ss M' vs H' k rvs R' ⟨v, w, e, q⟩ => by
    subst e
    cases rvs with
    | cons r1 t =>
      cases t with
      | cons r2 t => cases t; exact ⟨_, _, rfl, _, M', (R'.set r1 i).set r2 j, q⟩⟩
/-- an iterator J that hands out xs as long as Gd holds of the store -/
structure Gives (K : PySem.W.Frag) (J : It) (H1 : Hp) (xs : List S) (Gd : Mem → Prop) : Prop where
  go : ∀ i M' H', MemR K M' H' → Keep K H1 H' → Gd M' → i < xs.length → J.go i H'
  yld : ∀ i M' H' v H'', MemR K M' H' → Keep K H1 H' → Gd M' → i < xs.length → J.yld i H' v H'' → ∃ s, xs[i]? = some s ∧ RV K H'' s v ∧ Keep K H' H'' ∧ MemR K M' H''
  stop : ∀ M' H', MemR K M' H' → Keep K H1 H' → Gd M' → J.stop xs.length H'
def PostI (X : Cx) (H : Hp) (Q : List S → (Mem → Prop) → Mem → Prop) : It → Hp → Prop := fun J H1 => ∃ xs Gd M1, Keep X.K H H1 ∧ MemR X.K M1 H1 ∧ Gives X.K J H1 xs Gd ∧ Q xs Gd M1
def SI (X : Cx) (G : Hp) (tg iter : Expr) (env : Ev) (M : Mem) (Q : List S → (Mem → Prop) → Mem → Prop) : Prop := ∀ σ H, Rel X.K G env M σ H → ∃ wi, PI X tg iter wi ∧ wi σ H (PostI X H Q)
def tSI (X : Cx) (G : Hp) (tg iter : Expr) : TI := fun σ H R => ∃ env M Q, Rel X.K G env M σ H ∧ SI X G tg iter env M Q ∧ ∀ J H', PostI X H Q J H' → R J H'
theorem pi_S {tg iter : Expr} : PI X tg iter (tSI X G tg iter) := ⟨fun pins s σ H R I h => by
  obtain ⟨env, M, Q, r, hs, k⟩ := h
  obtain ⟨t, p, ht⟩ := hs σ H r
  exact thn (p.run pins s σ H _ I ht) fun v s1 h1 => thn h1 fun itv s2 ⟨it, fp, tn, J, H', e, I', T, st, f, q⟩ => ⟨it, fp, tn, J, H', e, I', T, st, f, k _ _ q⟩⟩
theorem si_tup {tg : Expr} {Q : List S → (Mem → Prop) → Mem → Prop} (h : SE X G e env M fun s M1 => ∃ xs, s = .tup xs ∧ Q xs (fun _ => True) M1) : SI X G tg e env M Q := fun σ H R =>
  ⟨_, pi_tup pe_S, tS_go R h fun s M1 v H1 k rv R1 ⟨xs, e, q⟩ => by
    subst e
    cases rv with
    | @tup a vs _ h1 h2 =>
      refine ⟨a, rfl, ⟨_, h1.sq⟩, xs, _, M1, k, R1.mem, ⟨fun i M' H' m k' _ hi => ?_, fun i M' H' v H'' m k' _ hi y => ?_, fun M' H' m k' _ => ?_⟩, q⟩
      · have hi' : i < vs.length := by rw [← h2.length]; exact hi
        exact ⟨vs, vs[i], (k'.tup _ _ h1).sq, by simp [hi']⟩
      · obtain ⟨rfl, y⟩ := y
        obtain ⟨s, e1, r1⟩ := h2.getV (y _ (k'.tup _ _ h1).sq)
        exact ⟨s, e1, r1.up k', Keep.refl, m⟩
      · exact ⟨vs, (k'.tup _ _ h1).sq, by rw [h2.length]; exact Nat.le_refl _⟩⟩
theorem si_lst {tg : Expr} {Q : List S → (Mem → Prop) → Mem → Prop} (h : SE X G e env M fun s M1 => ∃ p xs, s = .ptr p ∧ M1 p = some (.lst xs) ∧ Q xs (fun M' => M' p = some (.lst xs)) M1) : SI X G tg e env M Q := fun σ H R =>
  ⟨_, pi_list pe_S, tS_go R h fun s M1 v H1 k rv R1 ⟨p, xs, e, hp, q⟩ => by
    subst e
    cases rv
    obtain ⟨vs0, h10, _⟩ := R1.mem p _ hp
    refine ⟨p, rfl, ⟨_, SqL.of h10⟩, xs, _, M1, k, R1.mem, ⟨fun i M' H' m k' g hi => ?_, fun i M' H' v H'' m k' g hi y => ?_, fun M' H' m k' g => ?_⟩, q⟩
    · obtain ⟨vs, h1, h2⟩ := m p _ g
      have hi' : i < vs.length := by rw [← h2.length]; exact hi
      exact ⟨vs, vs[i], SqL.of h1, by simp [hi']⟩
    · obtain ⟨vs, h1, h2⟩ := m p _ g
      obtain ⟨rfl, y⟩ := y
      obtain ⟨s, e1, r1⟩ := h2.getV (y _ (SqL.of h1))
      exact ⟨s, e1, r1, Keep.refl, m⟩
    · obtain ⟨vs, h1, h2⟩ := m p _ g
      exact ⟨vs, SqL.of h1, by rw [h2.length]; exact Nat.le_refl _⟩⟩
theorem si_rdl {tg : Expr} {Q : List S → (Mem → Prop) → Mem → Prop} (h : SE X G e env M fun s M1 => ∃ xs, s = .rdl xs ∧ Q xs (fun _ => True) M1) : SI X G tg e env M Q := fun σ H R =>
  ⟨_, pi_list pe_S, tS_go R h fun s M1 v H1 k rv R1 ⟨xs, e, q⟩ => by
    subst e
    cases rv with
    | @rdl a vs _ h1 h2 =>
      refine ⟨a, rfl, ⟨_, h1.sq⟩, xs, _, M1, k, R1.mem, ⟨fun i M' H' m k' _ hi => ?_, fun i M' H' v H'' m k' _ hi y => ?_, fun M' H' m k' _ => ?_⟩, q⟩
      · have hi' : i < vs.length := by rw [← h2.length]; exact hi
        exact ⟨vs, vs[i], (k'.fzl _ _ h1).sq, by simp [hi']⟩
      · obtain ⟨rfl, y⟩ := y
        obtain ⟨s, e1, r1⟩ := h2.getV (y _ (k'.fzl _ _ h1).sq)
        exact ⟨s, e1, r1.up k', Keep.refl, m⟩
      · exact ⟨vs, (k'.fzl _ _ h1).sq, by rw [h2.length]; exact Nat.le_refl _⟩⟩
theorem si_fzl {tg : Expr} {Q : List S → (Mem → Prop) → Mem → Prop} (h : SE X G e env M fun s M1 => ∃ xs, s = .fzl xs ∧ Q xs (fun _ => True) M1) : SI X G tg e env M Q := fun σ H R =>
  ⟨_, pi_list pe_S, tS_go R h fun s M1 v H1 k rv R1 ⟨xs, e, q⟩ => by
    subst e
    cases rv with
    | @fzl a oo vs _ h1 h2 =>
      refine ⟨a, rfl, ⟨_, FzL.sq (.inl ⟨_, h1⟩)⟩, xs, _, M1, k, R1.mem, ⟨fun i M' H' m k' _ hi => ?_, fun i M' H' v H'' m k' _ hi y => ?_, fun M' H' m k' _ => ?_⟩, q⟩
      · have hi' : i < vs.length := by rw [← h2.length]; exact hi
        exact ⟨vs, vs[i], (FzL.sq (.inl ⟨_, k'.frz _ _ _ h1⟩)), by simp [hi']⟩
      · obtain ⟨rfl, y⟩ := y
        obtain ⟨s, e1, r1⟩ := h2.getV (y _ (FzL.sq (.inl ⟨_, k'.frz _ _ _ h1⟩)))
        exact ⟨s, e1, r1.up k', Keep.refl, m⟩
      · exact ⟨vs, (FzL.sq (.inl ⟨_, k'.frz _ _ _ h1⟩)), by rw [h2.length]; exact Nat.le_refl _⟩⟩

/-- lo, lo + 1, .. -/
def rgS (lo : Int) (n : Nat) : List S := (List.range n).map fun (k : Nat) => S.int (lo + (k : Int))
theorem rgS_len {lo : Int} {n : Nat} : (rgS lo n).length = n := by unfold rgS; simp
theorem rgS_get {lo : Int} {n i : Nat} {s : S} (h : (rgS lo n)[i]? = some s) : i < n ∧ s = .int (lo + i) := by
  unfold rgS at h
  rw [List.getElem?_map] at h
  by_cases hi : i < n
  · rw [List.getElem?_range hi] at h
    exact ⟨hi, (Option.some.inj h).symm⟩
  · rw [List.getElem?_eq_none (by simpa using hi)] at h
    cases h
theorem rgS_at {lo : Int} {n i : Nat} (h : i < n) : (rgS lo n)[i]? = some (.int (lo + i)) := by
  unfold rgS
  rw [List.getElem?_map, List.getElem?_range h]
  rfl
theorem gives_rg {K : PySem.W.Frag} {H1 : Hp} {lo : Int} {n : Nat} : Gives K (Itr lo n) H1 (rgS lo n) (fun _ => True) :=
  ⟨fun i M' H' m k' _ hi => (by rw [rgS_len] at hi; exact hi), fun i M' H' v H'' m k' _ hi ⟨e1, e2⟩ => by
    rw [rgS_len] at hi
    subst e1 e2
    exact ⟨_, rgS_at hi, .int _, Keep.refl, m⟩, fun M' H' m k' _ => by rw [rgS_len]; exact Nat.le_refl _⟩
theorem si_range1 {tg : Expr} {p : Pos} {Q : List S → (Mem → Prop) → Mem → Prop} (hg : Gl X "range") (hm : X.mg "range" = none) (h : SE X G a env M fun s M1 => ∃ j : Int, s = .int j ∧ j < 2 ^ 62 ∧ -(2 ^ 62) ≤ j ∧ Q (rgS 0 j.toNat) (fun _ => True) M1)
    (hs : starEach [a] X.env = [(false, eval a X.env)] := by rfl) : SI X G tg (.Call (.Name "range" p) [a] [] pos) env M Q := fun σ H R =>
  ⟨_, pi_range1 hg hm (pa_cons (te := tS X G a) pe_S pa_nil hs) hs, tS_go R h fun s M1 v H1 k rv R1 ⟨j, e, b1, b2, q⟩ => by
    subst e
    cases rv
    exact ⟨j, rfl, b2, b1, _, _, M1, k, R1.mem, gives_rg, q⟩⟩
theorem si_range2 {tg : Expr} {p : Pos} {Q : List S → (Mem → Prop) → Mem → Prop} (hg : Gl X "range") (hm : X.mg "range" = none) (h : SE X G a env M fun s M1 => SE X G b env M1 fun s2 M2 => ∃ i j : Int, s = .int i ∧ s2 = .int j ∧ (-(2 ^ 62) ≤ i ∧ i < 2 ^ 62 ∧ -(2 ^ 62) ≤ j ∧ j < 2 ^ 62) ∧ Q (rgS i (j - i).toNat) (fun _ => True) M2)
    (hs : starEach [a, b] X.env = [(false, eval a X.env), (false, eval b X.env)] := by rfl) (hs2 : starEach [b] X.env = [(false, eval b X.env)] := by rfl) : SI X G tg (.Call (.Name "range" p) [a, b] [] pos) env M Q := fun σ H R =>
  ⟨_, pi_range2 hg hm (pa_cons (te := tS X G a) pe_S (pa_cons (te := tS X G b) pe_S pa_nil hs2) (by rw [hs, hs2])) hs hs2, tS_go R h fun s M1 v H1 k rv R1 q1 => tS_go R1 q1 fun s2 M2 v2 H2 k2 rv2 R2 ⟨i, j, e1, e2, b1, q⟩ => by
    subst e1 e2
    cases rv
    cases rv2
    exact ⟨i, j, rfl, b1, _, _, M2, k.trans k2, R2.mem, gives_rg, q⟩⟩
/-- for -/
theorem ss_for {tg iter : Expr} {body : List Stmt} (h : SI X G tg iter env M fun xs Gd M1 => ∃ I : Nat → Ev → Mem → Prop, I 0 env M1 ∧ (∀ i v M', I i v M' → Gd M') ∧
      (∀ i x v M', xs[i]? = some x → I i v M' → SG X G tg x v M' fun v2 M2 => SSs X G body v2 M2 { nx := I (i + 1), ct := I (i + 1), bk := D.nx, rt := D.rt }) ∧ ∀ v M', I xs.length v M' → D.nx v M')
    (hp : PassesOwn (model X.prog X.w) X.A X.env X.xe) (hc : X.calm = true := by rfl) (hs : ∀ x, foldedSetIterable iter X.env x = pure x := by intro _; rfl) : SS X G (.For tg iter body [] pos) env M D := fun G1 kG σ H R => by
  refine ⟨_, ps_for hp hc (pi_S (G := G)) (pg_S (G := G)) (pss_S (G := G)) hs, env, M, _, R.weak kG, h, fun J H1 ⟨xs, Gd, M1, k1, m1, gv, I, i0, ig, turn, fin⟩ => ?_⟩
  have kG1 : Keep X.K G1 H1 := R.base.trans k1
  refine ⟨fun i m σ' H' => m = xs.length - i ∧ i ≤ xs.length ∧ ∃ v M', Rel X.K H1 v M' σ' H' ∧ I i v M', ⟨xs.length, rfl, Nat.zero_le _, env, M1, ⟨Keep.refl, R.env.up k1, m1⟩, i0⟩, ?_⟩
  rintro i m σ' H' ⟨rfl, hi, v, M', R', hI⟩
  by_cases hlt : i < xs.length
  · refine .inr ⟨gv.go i M' H' R'.mem R'.base (ig _ _ _ hI) hlt, fun σ2 H2 => ∃ v M', Rel X.K H1 v M' σ2 H2 ∧ I (i + 1) v M', fun σ2 H2 ⟨v2, M2, r2, q2⟩ => ⟨xs.length - (i + 1), by omega, rfl, hlt, v2, M2, r2, q2⟩, fun x H'' y => ?_⟩
    obtain ⟨s, e, rs, k2, m2⟩ := gv.yld i M' H' x H'' R'.mem R'.base (ig _ _ _ hI) hlt y
    refine ⟨s, v, M', _, H1, kG.trans kG1, R'.step k2 m2, rs, turn i s v M' e hI, fun σ2 H2 ⟨_, v2, M2, r2, q2⟩ => ?_⟩
    refine ⟨v2, M2, _, H1, kG.trans kG1, r2, q2, ⟨fun _ _ z => z, fun w H3 ⟨s, M3, k3, a, b, c⟩ => ⟨s, M3, kG1.trans k3, a, b, c⟩, fun σ3 H3 ⟨v3, M3, r3, q3⟩ => ⟨v3, M3, r3.weak kG1, q3⟩, fun _ _ z => z⟩⟩
  · have e : i = xs.length := by omega
    subst e
    exact .inl ⟨gv.stop M' H' R'.mem R'.base (ig _ _ _ hI), v, M', R'.weak kG1, fin v M' hI⟩
/-- while, with a measure -/
theorem ss_while {body : List Stmt} (I : Nat → Ev → Mem → Prop) (h0 : ∃ m, I m env M) (turn : ∀ m v M', I m v M' → ST X G c v M' fun k M1 => (k = true → SSs X G body v M1 { nx := fun v2 M2 => ∃ m', m' < m ∧ I m' v2 M2, ct := fun v2 M2 => ∃ m', m' < m ∧ I m' v2 M2, bk := D.nx, rt := D.rt }) ∧ (k = false → D.nx v M1))
    (hp : PassesOwn (model X.prog X.w) X.A X.env X.xe) : SS X G (.While c body [] pos) env M D := fun G1 kG σ H R => by
  refine ⟨_, ps_while hp (pt_S (G := G)) (pss_S (G := G)), fun m σ' H' => ∃ v M', Rel X.K G1 v M' σ' H' ∧ I m v M', ?_, fun m σ' H' ⟨v, M', R', hI⟩ => ?_⟩
  · obtain ⟨m, hm⟩ := h0
    exact ⟨m, env, M, R, hm⟩
  · refine tST_at kG R' (turn m v M' hI) fun k M1 H1 k1 R1 q => ?_
    cases k with
    | true =>
      refine iteT ⟨fun σ2 H2 => ∃ v M', Rel X.K G1 v M' σ2 H2 ∧ ∃ m', m' < m ∧ I m' v M', fun σ2 H2 ⟨v2, M2, r2, m', hm, q2⟩ => ⟨m', hm, v2, M2, r2, q2⟩, v, M1, _, G1, kG, R1, q.1 rfl, ⟨fun _ _ z => z, fun _ _ z => z, fun _ _ z => z, fun _ _ z => z⟩⟩
    | false => exact iteF ⟨v, M1, R1, q.2 rfl⟩
end
end Sy

set_option Elab.async false
set_option linter.all false
set_option maxRecDepth 100000
namespace Sy
open PySem PySem.Spec PyProof.Rows L2
section
variable {X : Cx} {G : Hp} {env : Ev} {M : Mem} {D : SD} {Q : QS} {a b c e : Expr} {es : List Expr} {pos : Pos}
def wipeE (env : Ev) : List Nat → Ev
  | [] => env
  | v :: vs => (wipeE env vs).set v none
theorem EnvR.wipe {K : PySem.W.Frag} {H : Hp} {es : Ev} {os : L2.St} (r : EnvR K H es os) : ∀ vs : List Nat, EnvR K H (wipeE es vs) (wipe os vs)
  | [] => r
  | v :: vs => (EnvR.wipe r vs).forget v
theorem Rel.wipe {K : PySem.W.Frag} {G : Hp} {env : Ev} {M : Mem} {σ : L2.St} {H : Hp} (r : Rel K G env M σ H) (vs : List Nat) : Rel K G (wipeE env vs) M (L2.wipe σ vs) H := ⟨r.base, r.env.wipe vs, r.mem⟩
theorem wipe_set {σ : L2.St} {v : V} : ∀ {vs : List Nat} {i : Nat}, i ∈ vs → wipe ((wipe σ vs).set i (some v)) vs = wipe σ vs := by
  have g : ∀ (vs : List Nat) (τ : L2.St) (i : Nat), i ∈ vs → wipe (τ.set i (some v)) vs = wipe τ vs := by
    intro vs
    induction vs with
    | nil => intro τ i h; cases h
    | cons j vs ih =>
      intro τ i h
      show (wipe (τ.set i (some v)) vs).set j none = (wipe τ vs).set j none
      by_cases hi : i ∈ vs
      · rw [ih τ i hi]
      · have e : i = j := by
          rcases List.mem_cons.mp h with h | h
          · exact h
          · exact absurd h hi
        subst e
        have q : ∀ (ws : List Nat) (τ : L2.St), i ∉ ws → wipe (τ.set i (some v)) ws = (wipe τ ws).set i (some v) := by
          intro ws
          induction ws with
          | nil => intro τ _; rfl
          | cons k ws ih2 =>
            intro τ h2
            have h3 := not_or.mp (fun z => h2 (List.mem_cons.mpr z))
            show (wipe (τ.set i (some v)) ws).set k none = ((wipe τ ws).set k none).set i (some v)
            rw [ih2 τ h3.2, List.set_comm _ _ h3.1]
        rw [q vs τ hi, List.set_set]
  have w2 : ∀ (vs : List Nat) (τ : L2.St), wipe (wipe τ vs) vs = wipe τ vs := by
    intro vs τ
    apply List.ext_getElem?
    intro k
    have key : ∀ (vs : List Nat) (τ : L2.St), (wipe τ vs)[k]? = if k ∈ vs ∧ k < τ.length then some none else τ[k]? := by
      intro vs
      induction vs with
      | nil => intro τ; show τ[k]? = _; simp
      | cons j vs ih =>
        intro τ
        show ((wipe τ vs).set j none)[k]? = _
        rw [List.getElem?_set]
        by_cases hj : j = k
        · subst hj
          rw [wipe_length]
          by_cases hl : j < τ.length <;> simp [hl]
        · rw [if_neg hj, ih]
          simp [Ne.symm hj]
    rw [key, key, wipe_length]
    split <;> rfl
  intro vs i h
  rw [g vs _ i h, w2]
def SEb (X : Cx) (G : Hp) (scope : Scope) (e : Expr) (env : Ev) (M : Mem) (Q : QS) : Prop := ∀ (s : Shared) (H : Hp) (C : Addr) (cl : List (Str × Addr)) (fp : List Addr), SE (X.blk s H scope (compEnvC scope cl C X.env) fp) G e env M Q
def STb (X : Cx) (G : Hp) (scope : Scope) (e : Expr) (env : Ev) (M : Mem) (Q : Bool → Mem → Prop) : Prop := ∀ (s : Shared) (H : Hp) (C : Addr) (cl : List (Str × Addr)) (fp : List Addr), ST (X.blk s H scope (compEnvC scope cl C X.env) fp) G e env M Q
def tSEb (X : Cx) (G : Hp) (scope : Scope) (e : Expr) : TE := fun σ H R => ∃ env M Q, Rel X.K G env M σ H ∧ SEb X G scope e env M Q ∧ ∀ v H', PostE X H Q v H' → R v H'
def tSTb (X : Cx) (G : Hp) (scope : Scope) (e : Expr) : TT := fun σ H R => ∃ env M Q, Rel X.K G env M σ H ∧ STb X G scope e env M Q ∧ ∀ v H', PostT X H Q v H' → R v H'
theorem pe_Sb {scope : Scope} {s : Shared} {H : Hp} {C : Addr} {cl : List (Str × Addr)} {fp : List Addr} : PE (X.blk s H scope (compEnvC scope cl C X.env) fp) e (tSEb X G scope e) := ⟨fun pins s1 σ H1 R I h => by
  obtain ⟨env, M, Q, r, hs, k⟩ := h
  exact (pe_S (X := X.blk s H scope (compEnvC scope cl C X.env) fp) (G := G)).run pins s1 σ H1 R I ⟨env, M, Q, r, hs s H C cl fp, k⟩⟩
theorem pt_Sb {scope : Scope} {s : Shared} {H : Hp} {C : Addr} {cl : List (Str × Addr)} {fp : List Addr} : PT (X.blk s H scope (compEnvC scope cl C X.env) fp) e (tSTb X G scope e) := ⟨fun pins s1 σ H1 R I h => by
  obtain ⟨env, M, Q, r, hs, k⟩ := h
  exact (pt_S (X := X.blk s H scope (compEnvC scope cl C X.env) fp) (G := G)).run pins s1 σ H1 R I ⟨env, M, Q, r, hs s H C cl fp, k⟩⟩
/-- what one turn of a comprehension keeps; I holds of the items so far and the store, the list at D within -/
structure LcI (D : Addr) (I : Nat → List S → Mem → Prop) (i : Nat) (M : Mem) : Prop where
  ex : ∃ acc, M D = some (.lst acc) ∧ I i acc M
def LcQ (D : Addr) (acc : List S) (n : List S → Mem → Prop) : QS := fun y M => M D = some (.lst acc) ∧ acc.length < sizeLine ∧ n (acc ++ [y]) (updM M D (.lst (acc ++ [y])))
theorem lcq_ok {H0 H : Hp} {D : Addr} {acc : List S} {n : List S → Mem → Prop} {v : V} {H' : Hp} (k0 : Keep X.K H0 H) (h : PostE X H (LcQ D acc n) v H') : ∃ vs, H' D = some (.lst vs) ∧ vs.length < sizeLine ∧ ∃ acc' M', MemR X.K M' (upd H' D (.lst (vs ++ [v]))) ∧ Keep X.K H0 (upd H' D (.lst (vs ++ [v]))) ∧ M' D = some (.lst acc') ∧ n acc' M' := by
  obtain ⟨s, M', k, rv, m, hD, hl, q⟩ := h
  obtain ⟨vs, h1, h2⟩ := m D _ hD
  have kk := keep_lst (K := X.K) (o := .lst (vs ++ [v])) h1
  exact ⟨vs, h1, by rw [← h2.length]; exact hl, _, _, m.put (u := .lst (acc ++ [s])) kk ⟨_, upd_same, (h2.append (.cons rv .nil)).up kk⟩, (k0.trans k).trans kk, updM_same, q⟩
/-- [elt for x in iter], x the name in slot i -/
theorem se_lc {elt iter : Expr} {scope : Scope} {own : List (Str × Nat)} {i : Nat} {x : Str} {px : Pos} (h : SI X G (.Name x px) iter env M fun xs Gd M1 => ∀ D, M1 D = none → ∃ I : Nat → List S → Mem → Prop, I 0 [] (updM M1 D (.lst [])) ∧ (∀ j acc M', M' D = some (.lst acc) → I j acc M' → Gd M') ∧
      (∀ j s acc M', xs[j]? = some s → M' D = some (.lst acc) → I j acc M' → SEb X G scope elt ((wipeE env (own.map (·.2))).set i (some s)) M' (LcQ D acc (I (j + 1)))) ∧ ∀ acc M', M' D = some (.lst acc) → I xs.length acc M' → Q (.ptr D) M')
    (hN : X.N.Nodup) (hi : X.N[i]? = some x) (hm : i ∈ own.map (·.2)) (ok : BlkOk X.N X.env.scope scope own) (hf : scope.names.lookup x = some .local) (hc : X.calm = true := by rfl) (hs : ∀ x, foldedSetIterable iter X.env x = pure x := by intro _; rfl) :
    SE X G (.ListComp elt [⟨.Name x px, iter, [], 0⟩] scope pos) env M Q := fun σ H R => by
  refine ⟨_, pe_lc (own := own) (tt := tYes) (te := tSEb X G scope elt) (g := gName i) hc hN (pi_S (G := G)) ok (fun s H C cl fp => pg_name (X := X.blk s H scope (compEnvC scope cl C X.env) fp) hN hi (.inl (PySem.lookup_relabel_local hf)) (.inr (PySem.lookup_relabel_local hf))) (fun _ _ _ _ _ => pts_nil) (fun _ _ _ _ _ => pe_Sb) hs, env, M, _, R, h, fun J H1 ⟨xs, Gd, M1, k1, m1, gv, q⟩ D hD => ?_⟩
  obtain ⟨I, i0, ig, turn, fin⟩ := q D (m1.free hD)
  refine ⟨fun j m H' => m = xs.length - j ∧ j ≤ xs.length ∧ ∃ acc M', MemR X.K M' H' ∧ Keep X.K H1 H' ∧ M' D = some (.lst acc) ∧ I j acc M', ⟨xs.length, rfl, Nat.zero_le _, [], _, put_lst m1 hD .nil, keep_new hD, updM_same, i0⟩, ?_⟩
  rintro j m H' ⟨rfl, hj, acc, M', m', k', hMD, hI⟩
  by_cases hlt : j < xs.length
  · refine .inr ⟨gv.go j M' H' m' k' (ig _ _ _ hMD hI) hlt, fun H2 => ∃ acc M', MemR X.K M' H2 ∧ Keep X.K H1 H2 ∧ M' D = some (.lst acc) ∧ I (j + 1) acc M', fun H2 z => ⟨xs.length - (j + 1), by omega, rfl, hlt, z⟩, fun v H'' y => ?_⟩
    obtain ⟨s, es, rs, k2, m2⟩ := gv.yld j M' H' v H'' m' k' (ig _ _ _ hMD hI) hlt y
    have kk := k1.trans (k'.trans k2)
    refine ⟨wipe_set hm, ?_⟩
    dsimp only [tYes]
    rw [if_pos rfl]
    refine ⟨_, M', _, ?_, turn j s acc M' es hMD hI, fun w H3 p => ?_⟩
    · exact (((R.step kk m2).wipe _).set rs i)
    · obtain ⟨vs, a1, a2, acc', M3, a3, a4, a5, a6⟩ := lcq_ok (k'.trans k2) p
      exact ⟨vs, a1, a2, acc', M3, a3, a4, a5, a6⟩
  · have e : j = xs.length := by omega
    subst e
    exact .inl ⟨gv.stop M' H' m' k' (ig _ _ _ hMD hI), .ptr D, M', k1.trans k', .ptr D, m', fin acc M' hMD hI⟩

theorem ro_addI {i j : Int} (q : Q (.int (i + j)) M) : RO X .Add (.int i) (.int j) M Q := fun v w H m r1 r2 => by
  cases r1; cases r2; exact ⟨_, op_add, i, j, rfl, rfl, pack (.int _) m q⟩
theorem ro_subI {i j : Int} (q : Q (.int (i - j)) M) : RO X .Sub (.int i) (.int j) M Q := fun v w H m r1 r2 => by
  cases r1; cases r2; exact ⟨_, op_sub, i, j, rfl, rfl, pack (.int _) m q⟩
theorem ro_mulI {i j : Int} (h : CMul i j) (q : Q (.int (i * j)) M) : RO X .Mult (.int i) (.int j) M Q := fun v w H m r1 r2 => by
  cases r1; cases r2; exact ⟨_, op_mul, i, j, rfl, rfl, h, pack (.int _) m q⟩
theorem ro_mulW {i j : Int} {a b : Nat} (ha : i.natAbs < 2 ^ a) (hb : j.natAbs < 2 ^ b) (h : a + b ≤ 134217728) (q : Q (.int (i * j)) M) : RO X .Mult (.int i) (.int j) M Q := fun v w H m r1 r2 => by
  cases r1; cases r2; exact ⟨_, op_mulX, i, j, rfl, rfl, mulx_ok ha hb h, pack (.int _) m q⟩
theorem ro_divI {i j : Int} {b : Nat} (h : 0 < j) (hb : j.natAbs < 2 ^ b) (h0 : 0 < b) (h9 : b ≤ 9000) (q : Q (.int (i / j)) M) : RO X .FloorDiv (.int i) (.int j) M Q := fun v w H m r1 r2 => by
  cases r1; cases r2; exact ⟨_, op_fdivW, i, j, rfl, rfl, wide_div h hb h0 h9, pack (.int _) m q⟩
theorem ro_modI {i j : Int} (h : 0 < j) (q : Q (.int (i % j)) M) : RO X .Mod (.int i) (.int j) M Q := fun v w H m r1 r2 => by
  cases r1; cases r2; exact ⟨_, op_mod, i, j, rfl, rfl, h, pack (.int _) m q⟩
/-- a power whose bits keep within the line -/
theorem op_powX : OpR X (binaryOp .Pow) (rI (fun i j => 0 ≤ j ∧ (Builtin.Int.intBits i : Int) * j ≤ 2 ^ 27) fun i j => .int (i ^ j.toNat)) := opI fun _ _ _ _ _ _ _ hc q => PyProof.Rows.pow_int hc.1 hc.2 q
theorem bits_of {i : Int} {a : Nat} (h : i.natAbs < 2 ^ a) (h0 : 0 < a) : Builtin.Int.intBits i ≤ a := by
  have x := PySem.Flt.log2_lt_of h0 h
  unfold Builtin.Int.intBits
  split <;> omega
theorem ro_powI {i : Int} {k a : Nat} (h : i.natAbs < 2 ^ a) (h0 : 0 < a) (hk : a * k ≤ 134217728) (q : Q (.int (i ^ k)) M) : RO X .Pow (.int i) (.int (k : Int)) M Q := fun v w H m r1 r2 => by
  cases r1; cases r2
  refine ⟨_, op_powX, i, k, rfl, rfl, ⟨by omega, ?_⟩, pack (.int _) m (by simpa using q)⟩
  have h1 := bits_of h h0
  have h2 : Builtin.Int.intBits i * k ≤ a * k := Nat.mul_le_mul_right k h1
  have h3 : ((Builtin.Int.intBits i * k : Nat) : Int) ≤ ((134217728 : Nat) : Int) := by omega
  rw [Int.natCast_mul] at h3
  exact h3
theorem ru_neg {i : Int} (q : Q (.int (-i)) M) : RU X .USub (.int i) M Q := fun v H m r1 => by
  cases r1; exact ⟨_, un_neg, i, rfl, pack (.int _) m q⟩
theorem ro_addS {x y : Str} (hl : x.length + y.length ≤ sizeLine) (q : Q (.str (x ++ y)) M) : RO X .Add (.str x) (.str y) M Q := fun v w H m r1 r2 => by
  cases r1; cases r2; exact ⟨_, op_add_str, x, y, rfl, rfl, hl, pack (.str _) m q⟩
/-- a list that is made anew at p -/
theorem new_lst {H : Hp} {p : Addr} {xs : List S} {vs : List V} (m : MemR X.K M H) (rvs : RVs X.K H xs vs) (hp : H p = none) (q : ∀ p, M p = none → Q (.ptr p) (updM M p (.lst xs))) : PostE X H Q (.ref p) (upd H p (.lst vs)) :=
  ⟨.ptr p, _, keep_new hp, .ptr p, put_lst m hp rvs, q p (m.free hp)⟩
theorem new_tup {H : Hp} {p : Addr} {xs : List S} {vs : List V} (m : MemR X.K M H) (rvs : RVs X.K H xs vs) (hp : H p = none) (q : Q (.tup xs) M) : PostE X H Q (.ref p) (upd H p (.tup vs)) :=
  ⟨.tup xs, M, keep_new hp, .tup (.inl upd_same) (rvs.up (keep_new hp)), m.skip hp, q⟩
theorem ro_catL {p r : Addr} {xs ys : List S} (hp : M p = some (.lst xs)) (hr : M r = some (.lst ys)) (hl : xs.length + ys.length ≤ sizeLine) (q : ∀ t, M t = none → Q (.ptr t) (updM M t (.lst (xs ++ ys)))) : RO X .Add (.ptr p) (.ptr r) M Q := fun v w H m r1 r2 => by
  cases r1; cases r2
  obtain ⟨vs, h1, h2⟩ := m p _ hp
  obtain ⟨ws, h3, h4⟩ := m r _ hr
  exact ⟨_, op_cat, p, r, vs, ws, rfl, rfl, h1, h3, by rw [← h2.length, ← h4.length]; exact hl, fun t ht => new_lst m (h2.append h4) ht q⟩
theorem ro_repL {p : Addr} {xs : List S} {k : Int} (hp : M p = some (.lst xs)) (h1 : -(2 ^ 63) ≤ k) (h2 : k < 2 ^ 63) (hl : xs.length * k.toNat ≤ sizeLine) (q : ∀ t, M t = none → Q (.ptr t) (updM M t (.lst (List.replicate k.toNat xs).flatten))) : RO X .Mult (.ptr p) (.int k) M Q := fun v w H m r1 r2 => by
  cases r1; cases r2
  obtain ⟨vs, h3, h4⟩ := m p _ hp
  exact ⟨_, op_rep, p, k, vs, rfl, rfl, h3, h1, h2, by rw [← h4.length]; exact hl, fun t ht => new_lst m (h4.rep _) ht q⟩
theorem ro_catT {xs ys : List S} (hl : xs.length + ys.length ≤ sizeLine) (q : Q (.tup (xs ++ ys)) M) : RO X .Add (.tup xs) (.tup ys) M Q := fun v w H m r1 r2 => by
  cases r1 with
  | @tup a1 v1 _ s1 q1 =>
    cases r2 with
    | @tup a2 v2 _ s2 q2 =>
      refine ⟨_, op_catA, _, _, _, _, rfl, rfl, s1.sq, s2.sq, by rw [← q1.length, ← q2.length]; exact hl, fun e => ?_, fun _ e => ?_, fun _ _ t ht => new_tup m (q1.append q2) ht q⟩
      · subst e
        cases q1
        exact ⟨.tup ys, M, Keep.refl, .tup s2 q2, m, q⟩
      · subst e
        cases q2
        rw [List.append_nil] at q
        exact ⟨.tup xs, M, Keep.refl, .tup s1 q1, m, q⟩
theorem ro_repT {xs : List S} {k : Int} (hne : xs ≠ []) (h1 : 2 ≤ k) (h2 : k ≤ 1000) (hl : xs.length ≤ 1000) (q : Q (.tup (List.replicate k.toNat xs).flatten) M) : RO X .Mult (.tup xs) (.int k) M Q := fun v w H m r1 r2 => by
  cases r2
  cases r1 with
  | @tup a1 v1 _ s1 q1 =>
    refine ⟨_, op_repT, _, k, _, rfl, rfl, s1.sq, fun z => ?_, h1, h2, by rw [← q1.length]; exact hl, fun t ht => new_tup m (q1.rep _) ht q⟩
    subst z
    cases q1
    exact hne rfl
theorem rc_ltI {i j : Int} (q : Q (.bl (decide (i < j))) M) : RC X .Lt (.int i) (.int j) M Q := fun v w H m r1 r2 => by
  cases r1; cases r2; exact ⟨_, op_lt, i, j, rfl, rfl, pack (.bl _) m q⟩
theorem rc_leI {i j : Int} (q : Q (.bl (decide (i ≤ j))) M) : RC X .LtE (.int i) (.int j) M Q := fun v w H m r1 r2 => by
  cases r1; cases r2; exact ⟨_, op_le, i, j, rfl, rfl, pack (.bl _) m q⟩
theorem rc_gtI {i j : Int} (q : Q (.bl (decide (j < i))) M) : RC X .Gt (.int i) (.int j) M Q := fun v w H m r1 r2 => by
  cases r1; cases r2; exact ⟨_, op_gt, i, j, rfl, rfl, pack (.bl _) m q⟩
theorem rc_geI {i j : Int} (q : Q (.bl (decide (j ≤ i))) M) : RC X .GtE (.int i) (.int j) M Q := fun v w H m r1 r2 => by
  cases r1; cases r2; exact ⟨_, op_ge, i, j, rfl, rfl, pack (.bl _) m q⟩
theorem rc_eqI {i j : Int} (q : Q (.bl (decide (i = j))) M) : RC X .Eq (.int i) (.int j) M Q := fun v w H m r1 r2 => by
  cases r1; cases r2
  refine ⟨_, op_eq, rfl, ?_⟩
  have e : decide (V.int i = V.int j) = decide (i = j) := by rw [dec_int]; rfl
  rw [e]
  exact pack (.bl _) m q
theorem rc_neI {i j : Int} (q : Q (.bl (!decide (i = j))) M) : RC X .NotEq (.int i) (.int j) M Q := fun v w H m r1 r2 => by
  cases r1; cases r2
  refine ⟨_, op_ne, rfl, ?_⟩
  have e : decide (V.int i = V.int j) = decide (i = j) := by rw [dec_int]; rfl
  rw [e]
  exact pack (.bl _) m q
theorem rc_eqB {i j : Bool} (q : Q (.bl (decide (i = j))) M) : RC X .Eq (.bl i) (.bl j) M Q := fun v w H m r1 r2 => by
  cases r1; cases r2
  refine ⟨_, op_eq, rfl, ?_⟩
  have e : decide (V.bl i = V.bl j) = decide (i = j) := by rw [dec_bl]; cases i <;> cases j <;> rfl
  rw [e]
  exact pack (.bl _) m q
theorem rc_neB {i j : Bool} (q : Q (.bl (!decide (i = j))) M) : RC X .NotEq (.bl i) (.bl j) M Q := fun v w H m r1 r2 => by
  cases r1; cases r2
  refine ⟨_, op_ne, rfl, ?_⟩
  have e : decide (V.bl i = V.bl j) = decide (i = j) := by rw [dec_bl]; cases i <;> cases j <;> rfl
  rw [e]
  exact pack (.bl _) m q
def isNone : S → Bool
  | .non => true
  | _ => false
theorem rv_none {K : PySem.W.Frag} {H : Hp} {s : S} {v : V} (r : RV K H s v) : decide (v = .non) = isNone s := by
  cases r <;> rfl
theorem rc_isN {s : S} (q : Q (.bl (isNone s)) M) : RC X .Is s .non M Q := fun v w H m r1 r2 => by
  cases r2
  refine ⟨_, op_isN, rfl, ?_⟩
  rw [rv_none r1]
  exact pack (.bl _) m q
theorem rc_notN {s : S} (q : Q (.bl (!isNone s)) M) : RC X .IsNot s .non M Q := fun v w H m r1 r2 => by
  cases r2
  refine ⟨_, op_notN, rfl, ?_⟩
  rw [rv_none r1]
  exact pack (.bl _) m q
theorem rx_tup {xs : List S} {i : Int} {s : S} (h : atI xs i = some s) (q : Q s M) : RX X (.tup xs) (.int i) M Q := fun v w H m r1 r2 => by
  cases r2
  cases r1 with
  | tup s1 q1 =>
    obtain ⟨j, e1, e2, e3, e4, e5⟩ := atI_get h
    obtain ⟨u, e6, e7⟩ := q1.get e2
    refine ⟨_, ix_tup, _, _, i, u, rfl, rfl, s1.sq, ?_, pack e7 m q⟩
    unfold atI at h ⊢
    rw [← q1.length]
    cases z : ixN xs.length i with
    | none => rw [z] at h; cases h
    | some k =>
      have z2 := (ixN_seq z).1
      rw [e1] at z2
      cases z2
      exact e6
theorem rx_lst {p : Addr} {xs : List S} {i : Int} {s : S} (hp : M p = some (.lst xs)) (h : atI xs i = some s) (q : Q s M) : RX X (.ptr p) (.int i) M Q := fun v w H m r1 r2 => by
  cases r2
  cases r1
  obtain ⟨vs, h1, q1⟩ := m p _ hp
  obtain ⟨j, e1, e2, e3, e4, e5⟩ := atI_get h
  obtain ⟨u, e6, e7⟩ := q1.get e2
  refine ⟨_, ix_list, _, _, i, u, rfl, rfl, SqL.of h1, ?_, pack e7 m q⟩
  unfold atI at h ⊢
  rw [← q1.length]
  cases z : ixN xs.length i with
  | none => rw [z] at h; cases h
  | some k =>
    have z2 := (ixN_seq z).1
    rw [e1] at z2
    cases z2
    exact e6
theorem rx_rdl {xs : List S} {i : Int} {s : S} (h : atI xs i = some s) (q : Q s M) : RX X (.rdl xs) (.int i) M Q := fun v w H m r1 r2 => by
  cases r2
  cases r1 with
  | rdl s1 q1 =>
    obtain ⟨j, e1, e2, e3, e4, e5⟩ := atI_get h
    obtain ⟨u, e6, e7⟩ := q1.get e2
    refine ⟨_, ix_list, _, _, i, u, rfl, rfl, s1.sq, ?_, pack e7 m q⟩
    unfold atI at h ⊢
    rw [← q1.length]
    cases z : ixN xs.length i with
    | none => rw [z] at h; cases h
    | some k =>
      have z2 := (ixN_seq z).1
      rw [e1] at z2
      cases z2
      exact e6
theorem rx_fzl {xs : List S} {i : Int} {s : S} (h : atI xs i = some s) (q : Q s M) : RX X (.fzl xs) (.int i) M Q := fun v w H m r1 r2 => by
  cases r2
  cases r1 with
  | fzl s1 q1 =>
    obtain ⟨j, e1, e2, e3, e4, e5⟩ := atI_get h
    obtain ⟨u, e6, e7⟩ := q1.get e2
    refine ⟨_, ix_list, _, _, i, u, rfl, rfl, (FzL.sq (.inl ⟨_, s1⟩)), ?_, pack e7 m q⟩
    unfold atI at h ⊢
    rw [← q1.length]
    cases z : ixN xs.length i with
    | none => rw [z] at h; cases h
    | some k =>
      have z2 := (ixN_seq z).1
      rw [e1] at z2
      cases z2
      exact e6
end
end Sy

set_option Elab.async false
set_option linter.all false
set_option maxRecDepth 100000
namespace Sy
open PySem PySem.Spec PyProof.Rows L2
section
variable {X : Cx} {G : Hp} {env : Ev} {M : Mem} {D : SD} {Q : QS} {a b c e o : Expr} {es : List Expr} {pos : Pos}
theorem rvs1 {K : PySem.W.Frag} {H : Hp} {x : S} {vs : List V} (h : RVs K H [x] vs) : ∃ v, vs = [v] ∧ RV K H x v := by
  cases h with
  | cons a b => cases b; exact ⟨_, rfl, a⟩
theorem rvs2 {K : PySem.W.Frag} {H : Hp} {x y : S} {vs : List V} (h : RVs K H [x, y] vs) : ∃ v w, vs = [v, w] ∧ RV K H x v ∧ RV K H y w := by
  cases h with
  | cons a b =>
    obtain ⟨w, rfl, c⟩ := rvs1 b
    exact ⟨_, w, rfl, a, c⟩
def ItS (M : Mem) (s : S) (xs : List S) : Prop := s = .tup xs ∨ s = .rdl xs ∨ (∃ p, s = .ptr p ∧ M p = some (.lst xs)) ∨ s = .fzl xs
theorem its_tup {xs : List S} : ItS M (.tup xs) xs := .inl rfl
theorem its_rdl {xs : List S} : ItS M (.rdl xs) xs := .inr (.inl rfl)
theorem its_lst {p : Addr} {xs : List S} (h : M p = some (.lst xs)) : ItS M (.ptr p) xs := .inr (.inr (.inl ⟨p, rfl, h⟩))
theorem its_fzl {xs : List S} : ItS M (.fzl xs) xs := .inr (.inr (.inr rfl))
theorem its_get {H : Hp} {s : S} {xs : List S} {v : V} (i : ItS M s xs) (m : MemR X.K M H) (r : RV X.K H s v) : ∃ a vs, v = .ref a ∧ (SqL X.K H a vs ∨ SqT X.K H a vs) ∧ RVs X.K H xs vs := by
  rcases i with rfl | rfl | ⟨p, rfl, h⟩ | rfl
  · cases r with
    | tup a b => exact ⟨_, _, rfl, .inr a.sq, b⟩
  · cases r with
    | rdl a b => exact ⟨_, _, rfl, .inl a.sq, b⟩
  · cases r
    obtain ⟨vs, h1, h2⟩ := m p _ h
    exact ⟨p, vs, rfl, .inl (SqL.of h1), h2⟩
  · cases r with
    | fzl a b => exact ⟨_, _, rfl, .inl (FzL.sq (.inl ⟨_, a⟩)), b⟩
theorem rb_len {s : S} {xs : List S} (i : ItS M s xs) (q : Q (.int xs.length) M) : RB X (.builtin "len") [s] M Q := fun vs H m r => by
  obtain ⟨v, rfl, r1⟩ := rvs1 r
  obtain ⟨a, us, rfl, h, ru⟩ := its_get i m r1
  refine ⟨_, call_len_seq, a, us, rfl, h, ?_⟩
  rw [← ru.length]
  exact pack (.int _) m q
theorem rb_lenS {x : Str} (hl : x.length ≤ sizeLine) (q : Q (.int x.length) M) : RB X (.builtin "len") [.str x] M Q := fun vs H m r => by
  obtain ⟨v, rfl, r1⟩ := rvs1 r
  cases r1
  exact ⟨_, call_len_str, x, rfl, hl, pack (.int _) m q⟩
theorem rb_abs {i : Int} (q : Q (.int (if i < 0 then -i else i)) M) : RB X (.builtin "abs") [.int i] M Q := fun vs H m r => by
  obtain ⟨v, rfl, r1⟩ := rvs1 r
  cases r1
  exact ⟨_, call_abs, i, rfl, pack (.int _) m q⟩
theorem rb_max {i j : Int} (q : Q (.int (if j > i then j else i)) M) (hc : X.calm = true := by rfl) : RB X (.builtin "max") [.int i, .int j] M Q := fun vs H m r => by
  obtain ⟨v, w, rfl, r1, r2⟩ := rvs2 r
  cases r1; cases r2
  exact ⟨_, call_max2 hc, i, j, rfl, pack (.int _) m q⟩
theorem rb_min {i j : Int} (q : Q (.int (if j < i then j else i)) M) (hc : X.calm = true := by rfl) : RB X (.builtin "min") [.int i, .int j] M Q := fun vs H m r => by
  obtain ⟨v, w, rfl, r1, r2⟩ := rvs2 r
  cases r1; cases r2
  exact ⟨_, call_min2 hc, i, j, rfl, pack (.int _) m q⟩
theorem rb_intI {i : Int} (q : Q (.int i) M) : RB X (.type "int") [.int i] M Q := fun vs H m r => by
  obtain ⟨v, rfl, r1⟩ := rvs1 r
  cases r1
  exact ⟨_, call_int1, .inl ⟨i, rfl, pack (.int _) m q⟩⟩
theorem rb_intB {k : Bool} (q : Q (.int (if k then 1 else 0)) M) : RB X (.type "int") [.bl k] M Q := fun vs H m r => by
  obtain ⟨v, rfl, r1⟩ := rvs1 r
  cases r1
  exact ⟨_, call_int1, .inr ⟨k, rfl, pack (.int _) m q⟩⟩
theorem rb_strI {i : Int} (h : i.natAbs.log2 < 1920) (q : Q (.str (toString i)) M) : RB X (.type "str") [.int i] M Q := fun vs H m r => by
  obtain ⟨v, rfl, r1⟩ := rvs1 r
  cases r1
  exact ⟨_, call_str_int, i, rfl, h, pack (.str _) m q⟩
theorem rb_list {s : S} {xs : List S} (i : ItS M s xs) (q : ∀ p, M p = none → Q (.ptr p) (updM M p (.lst xs))) : RB X (.type "list") [s] M Q := fun vs H m r => by
  obtain ⟨v, rfl, r1⟩ := rvs1 r
  obtain ⟨a, us, rfl, h, ru⟩ := its_get i m r1
  exact ⟨_, call_list_of, a, us, rfl, h, fun l hl => new_lst m ru hl q⟩
theorem rb_tupleL {p : Addr} {xs : List S} (i : M p = some (.lst xs)) (q : Q (.tup xs) M) : RB X (.type "tuple") [.ptr p] M Q := fun vs H m r => by
  obtain ⟨v, rfl, r1⟩ := rvs1 r
  cases r1
  obtain ⟨us, h1, h2⟩ := m p _ i
  exact ⟨_, call_tuple_of, p, us, rfl, .inl ⟨SqL.of h1, fun l hl => new_tup m h2 hl q⟩⟩
theorem rb_tupleT {xs : List S} (q : Q (.tup xs) M) : RB X (.type "tuple") [.tup xs] M Q := fun vs H m r => by
  obtain ⟨v, rfl, r1⟩ := rvs1 r
  cases r1 with
  | tup h1 h2 => exact ⟨_, call_tuple_of, _, _, rfl, .inr ⟨h1.sq, pack (.tup h1 h2) m q⟩⟩
theorem rvs_bls {K : PySem.W.Frag} {H : Hp} : ∀ {bs : List Bool} {vs : List V}, RVs K H (bs.map S.bl) vs → vs = bs.map V.bl
  | [], _, h => by cases h; rfl
  | b :: bs, _, h => by
    cases h with
    | cons r t => cases r; rw [rvs_bls t]; rfl
theorem rvs_ints {K : PySem.W.Frag} {H : Hp} : ∀ {bs : List Int} {vs : List V}, RVs K H (bs.map S.int) vs → vs = bs.map V.int
  | [], _, h => by cases h; rfl
  | b :: bs, _, h => by
    cases h with
    | cons r t => cases r; rw [rvs_ints t]; rfl
theorem rb_all {p : Addr} {bs : List Bool} (i : M p = some (.lst (bs.map S.bl))) (q : Q (.bl (bs.all id)) M) (hc : X.calm = true := by rfl) : RB X (.builtin "all") [.ptr p] M Q := fun vs H m r => by
  obtain ⟨v, rfl, r1⟩ := rvs1 r
  cases r1
  obtain ⟨us, h1, h2⟩ := m p _ i
  have e := rvs_bls h2
  subst e
  exact ⟨_, cr_all hc, p, bs, rfl, SqL.of h1, pack (.bl _) m q⟩
theorem rb_any {p : Addr} {bs : List Bool} (i : M p = some (.lst (bs.map S.bl))) (q : Q (.bl (bs.any id)) M) (hc : X.calm = true := by rfl) : RB X (.builtin "any") [.ptr p] M Q := fun vs H m r => by
  obtain ⟨v, rfl, r1⟩ := rvs1 r
  cases r1
  obtain ⟨us, h1, h2⟩ := m p _ i
  have e := rvs_bls h2
  subst e
  exact ⟨_, cr_any hc, p, bs, rfl, SqL.of h1, pack (.bl _) m q⟩
theorem rb_sum {p : Addr} {ns : List Int} (i : M p = some (.lst (ns.map S.int))) (q : Q (.int ns.sum) M) (hc : X.calm = true := by rfl) : RB X (.builtin "sum") [.ptr p] M Q := fun vs H m r => by
  obtain ⟨v, rfl, r1⟩ := rvs1 r
  cases r1
  obtain ⟨us, h1, h2⟩ := m p _ i
  have e := rvs_ints h2
  subst e
  exact ⟨_, cr_sum hc, p, ns, rfl, SqL.of h1, pack (.int _) m q⟩
def tyS (M : Mem) : S → Option String
  | .non => some "NoneType"
  | .bl _ => some "bool"
  | .int _ => some "int"
  | .str _ => some "str"
  | .tup _ => some "tuple"
  | .rdl _ => some "list"
  | .fzl _ => some "list"
  | .dz => some "dict"
  | .ptr p => match M p with
    | some (.lst _) => some "list"
    | some (.dK _) => some "dict"
    | some (.dT _) => some "dict"
    | some (.fz _) => some "list"
    | some (.ins _ _ _) => none
    | none => none
  | .ty _ => none
  | .exn _ _ => none
theorem tyS_ok {H : Hp} {s : S} {t : String} {v : V} (h : tyS M s = some t) (m : MemR X.K M H) (r : RV X.K H s v) : TyX X.K H v (.type t) := by
  cases r with
  | non => cases h; exact .base .non
  | bl b => cases h; exact .base (.bl b)
  | int i => cases h; exact .base (.int i)
  | str x => cases h; exact .base (.str x)
  | ty n => cases h
  | exn _ _ _ => cases h
  | ptr a =>
    unfold tyS at h
    dsimp only at h
    cases e : M a with
    | none => rw [e] at h; cases h
    | some o =>
      rw [e] at h
      cases o with
      | lst xs =>
        cases h
        obtain ⟨vs, h1, _⟩ := m a _ e
        exact .base (.lst h1)
      | dK kvs =>
        cases h
        obtain ⟨vs, h1, _⟩ := m a _ e
        exact .base (.dK h1)
      | fz xs =>
        cases h
        obtain ⟨o, vs, h1, _⟩ := m a _ e
        exact .base (.frz h1)
      | dT kvs =>
        cases h
        obtain ⟨vs, h1, _⟩ := m a _ e
        exact .base (.dT h1)
      | ins C dx fs => cases h
  | tup h1 h2 =>
    cases h
    rcases h1 with h1 | (h1 | ⟨o, h1⟩) | ⟨o, its, n, hk, hc, _⟩
    · exact .base (.tup h1)
    · cases h1
    · cases h1
    · exact .kTuple hk hc
  | fzl h1 h2 => cases h; exact .base (.frz h1)
  | dz h1 => cases h; exact .fDict h1
  | rdl h1 h2 =>
    cases h
    rcases h1 with ⟨o, h1⟩ | (h1 | ⟨o, h1⟩) | ⟨o, its, n, hk, hc, _⟩
    · exact .base (.frz h1)
    · cases h1
    · cases h1
    · exact .kList hk hc
theorem rb_isi {s : S} {n t : String} {k : Bool} (ht : tyS M s = some t) (hk : kitB t n = some k) (q : Q (.bl k) M) : RB X (.builtin "isinstance") [s, .ty n] M Q := fun vs H m r => by
  obtain ⟨v, w, rfl, r1, r2⟩ := rvs2 r
  cases r2
  exact ⟨_, call_isi, v, .ty n, .type t, .type n, k, rfl, .ty n, tyS_ok ht m r1, kit_ty hk, pack (.bl _) m q⟩
theorem rb_isiT {s : S} {ns : List String} {t : String} {k : Bool} (ht : tyS M s = some t) (hk : ∀ K : PySem.W.Frag, PySem.W.kitAny K (.type t) (ns.map Value.type) = some k) (q : Q (.bl k) M) : RB X (.builtin "isinstance") [s, .tup (ns.map S.ty)] M Q := fun vs H m r => by
  obtain ⟨v, w, rfl, r1, r2⟩ := rvs2 r
  have e : ∀ (ns : List String) (ws : List V), RVs X.K H (ns.map S.ty) ws → ws = ns.map V.ty := by
    intro ns
    induction ns with
    | nil => intro ws h; cases h; rfl
    | cons n ns ih =>
      intro ws h
      cases h with
      | cons a b => cases a; rw [ih _ b]; rfl
  cases r2 with
  | @tup a ws _ h1 h2 =>
    have e2 := e _ _ h2
    subst e2
    have pr : ∀ ns : List String, Paired ClsV (ns.map V.ty) (ns.map Value.type) := by
      intro ns
      induction ns with
      | nil => exact .nil
      | cons n ns ih => exact .cons (.ty n) ih
    rcases h1 with h1 | (h1 | ⟨o, h1⟩) | ⟨o, its, n, hk2, hc, hd, hz, hv⟩
    · exact ⟨_, call_isiT, v, a, ns.map V.ty, .type t, ns.map Value.type, k, rfl, h1, pr ns, tyS_ok ht m r1, hk _, pack (.bl _) m q⟩
    · cases h1
    · cases h1
    · have e3 : its.toList = ns.map Value.type := ClsV.all (pr ns) hv
      obtain ⟨oc, od, oda, osl⟩ := o
      simp only at hc hd
      subst hc hd
      refine ⟨_, call_isiK, v, a, od, ns.map Value.type, n, osl, .type t, k, rfl, ?_, tyS_ok ht m r1, hk _, pack (.bl _) m q⟩
      rw [← e3]
      exact hk2
theorem put_at {H : Hp} {p : Addr} {vs : List V} {ss' : List S} {vs' : List V} (m : MemR X.K M H) (hp : H p = some (.lst vs)) (r : RVs X.K H ss' vs') : MemR X.K (updM M p (.lst ss')) (upd H p (.lst vs')) := m.put (u := .lst ss') (keep_lst hp) ⟨vs', upd_same, r.up (keep_lst hp)⟩
theorem se_append {apos : Pos} (h : SE X G o env M fun s M1 => ∃ p, s = .ptr p ∧ (∃ xs, M1 p = some (.lst xs)) ∧ SE X G e env M1 fun y M2 => ∃ xs, M2 p = some (.lst xs) ∧ xs.length < sizeLine ∧ Q .non (updM M2 p (.lst (xs ++ [y]))))
    (hbase : attributeBase o "append" X.env (eval o X.env) = eval o X.env := by rfl) (hfew : ((backTo pos (starEach [e] X.env)).all (fun x => !x.1) && (backToKw pos (keywordEach [] X.env)).all (fun x => x.1.isSome) && decide (([e] : List Expr).length + ([] : List Keyword).length + (if ([] : List Keyword).isEmpty then 0 else 1) < 30)) = true := by rfl)
    (hline : (apos.endLine == pos.line) = true := by rfl) (hs : starEach [e] X.env = (false, eval e X.env) :: starEach [] X.env := by rfl) (hpl : (backTo pos (starEach [] X.env)).any (·.1) = false := by rfl) : SE X G (.Call (.Attribute o "append" apos) [e] [] pos) env M Q := fun σ H R =>
  ⟨_, pe_bm PySem.F.plainAttrs_list PySem.F.slot_list_append PySem.F.type_list_append mt_append pe_S (pa_cons (te := tS X G e) pe_S pa_nil hs) hbase hfew hline hs hpl,
    tS_go R h fun s M1 v H1 k1 rv R1 ⟨p, e1, ⟨xs0, hp0⟩, q1⟩ => by
      subst e1
      cases rv
      obtain ⟨vs0, h10, _⟩ := R1.mem p _ hp0
      refine ⟨.inl ⟨rfl, _, SqL.of h10⟩, tS_go R1 q1 fun y M2 w H2 k2 rw R2 ⟨xs, hp, hl, q2⟩ => ?_⟩
      obtain ⟨vs, h1, h2⟩ := R2.mem p _ hp
      exact ⟨p, vs, w, rfl, rfl, h1, by rw [← h2.length]; exact hl, .non, _, (k1.trans k2).trans (keep_lst h1), .non, put_at R2.mem h1 (h2.append (.cons rw .nil)), q2⟩⟩
theorem se_pop0 {apos : Pos} (h : SE X G o env M fun s M1 => ∃ p xs y, s = .ptr p ∧ M1 p = some (.lst xs) ∧ xs[xs.length - 1]? = some y ∧ Q y (updM M1 p (.lst xs.dropLast)))
    (hbase : attributeBase o "pop" X.env (eval o X.env) = eval o X.env := by rfl) (hline : (apos.endLine == pos.line) = true := by rfl) : SE X G (.Call (.Attribute o "pop" apos) [] [] pos) env M Q := fun σ H R =>
  ⟨_, pe_bm0 PySem.F.plainAttrs_list PySem.F.slot_list_pop PySem.F.type_list_pop mt_pop pe_S hbase hline, tS_go R h fun s M1 v H1 k1 rv R1 ⟨p, xs, y, e1, hp, hy, q1⟩ => by
      subst e1
      cases rv
      obtain ⟨vs, h1, h2⟩ := R1.mem p _ hp
      obtain ⟨u, e2, e3⟩ := h2.get hy
      exact ⟨.inl ⟨rfl, _, SqL.of h1⟩, p, vs, u, rfl, rfl, h1, by rw [← h2.length]; exact e2, y, _, k1.trans (keep_lst h1), e3.up (keep_lst h1), put_at R1.mem h1 h2.dropLast, q1⟩⟩
theorem se_reverse {apos : Pos} (h : SE X G o env M fun s M1 => ∃ p xs, s = .ptr p ∧ M1 p = some (.lst xs) ∧ Q .non (updM M1 p (.lst xs.reverse)))
    (hbase : attributeBase o "reverse" X.env (eval o X.env) = eval o X.env := by rfl) (hline : (apos.endLine == pos.line) = true := by rfl) : SE X G (.Call (.Attribute o "reverse" apos) [] [] pos) env M Q := fun σ H R =>
  ⟨_, pe_bm0 PySem.F.plainAttrs_list PySem.F.slot_list_reverse PySem.F.type_list_reverse mt_reverse pe_S hbase hline, tS_go R h fun s M1 v H1 k1 rv R1 ⟨p, xs, e1, hp, q1⟩ => by
      subst e1
      cases rv
      obtain ⟨vs, h1, h2⟩ := R1.mem p _ hp
      exact ⟨.inl ⟨rfl, _, SqL.of h1⟩, p, vs, rfl, rfl, h1, .non, _, k1.trans (keep_lst h1), .non, put_at R1.mem h1 h2.reverse, q1⟩⟩
theorem se_popI {apos : Pos} (h : SE X G o env M fun s M1 => ∃ p, s = .ptr p ∧ (∃ xs, M1 p = some (.lst xs)) ∧ SE X G e env M1 fun i M2 => ∃ xs n k y, i = .int n ∧ M2 p = some (.lst xs) ∧ seqIndex? n xs.length = some k ∧ xs[k]? = some y ∧ -(2 ^ 63) ≤ n ∧ n < 2 ^ 63 ∧ Q y (updM M2 p (.lst (xs.eraseIdx k))))
    (hbase : attributeBase o "pop" X.env (eval o X.env) = eval o X.env := by rfl) (hfew : ((backTo pos (starEach [e] X.env)).all (fun x => !x.1) && (backToKw pos (keywordEach [] X.env)).all (fun x => x.1.isSome) && decide (([e] : List Expr).length + ([] : List Keyword).length + (if ([] : List Keyword).isEmpty then 0 else 1) < 30)) = true := by rfl)
    (hline : (apos.endLine == pos.line) = true := by rfl) (hs : starEach [e] X.env = (false, eval e X.env) :: starEach [] X.env := by rfl) (hpl : (backTo pos (starEach [] X.env)).any (·.1) = false := by rfl) : SE X G (.Call (.Attribute o "pop" apos) [e] [] pos) env M Q := fun σ H R =>
  ⟨_, pe_bm PySem.F.plainAttrs_list PySem.F.slot_list_pop PySem.F.type_list_pop mt_popAt pe_S (pa_cons (te := tS X G e) pe_S pa_nil hs) hbase hfew hline hs hpl,
    tS_go R h fun s M1 v H1 k1 rv R1 ⟨p, e1, ⟨xs0, hp0⟩, q1⟩ => by
      subst e1
      cases rv
      obtain ⟨vs0, h10, _⟩ := R1.mem p _ hp0
      refine ⟨.inl ⟨rfl, _, SqL.of h10⟩, tS_go R1 q1 fun y M2 w H2 k2 rw' R2 ⟨xs, n, k, y, en, hp, e2, e3, b1, b2, q2⟩ => ?_⟩
      subst en
      cases rw'
      obtain ⟨vs, h1, h2⟩ := R2.mem p _ hp
      obtain ⟨u, e4, e5⟩ := h2.get e3
      exact ⟨p, vs, n, k, u, rfl, rfl, h1, b1, b2, by rw [← h2.length]; exact e2, e4, y, _, (k1.trans k2).trans (keep_lst h1), e5.up (keep_lst h1), put_at R2.mem h1 (h2.eraseIdx k), q2⟩⟩
/-- xs[i] = v -/
theorem sg_item {a b : Expr} {s : S} {n : Ev → Mem → Prop} (h : SE X G a env M fun x M1 => SE X G b env M1 fun y M2 => ∃ p xs k j, x = .ptr p ∧ y = .int k ∧ M2 p = some (.lst xs) ∧ ixN xs.length k = some j ∧ n env (updM M2 p (.lst (xs.set j s))))
    (ha : ∀ v, assign (.Subscript a b pos) X.env v = (do let ov ← holding [v] (eval a X.env); let iv ← holding [v, ov] (eval b X.env); standAt pos; holding [v, ov, iv] (setItem ov iv v); release [v, ov, iv] []) := by intro _; rfl) : SG X G (.Subscript a b pos) s env M n := fun G1 kG v σ H R hv =>
  ⟨_, pg_sub (to := tS X G a) (ti := tS X G b) pe_S pe_S set_list ha, tS_at kG R h fun x M1 u H1 k1 r1 R1 q1 => tS_at kG R1 q1 fun y M2 w H2 k2 r2 R2 ⟨p, xs, k, j, e1, e2, hp, hj, q2⟩ => by
    subst e1 e2
    cases r1
    cases r2
    obtain ⟨vs, h1, h2⟩ := R2.mem p _ hp
    have kk := keep_lst (K := X.K) (o := .lst (vs.set j v)) h1
    exact ⟨p, vs, k, j, rfl, rfl, h1, by rw [← h2.length]; exact hj, (k1.trans k2).trans kk, env, _, R2.step kk (put_at R2.mem h1 (h2.set (hv.up (k1.trans k2)) j)), q2⟩⟩
inductive SO (X : Cx) (G : Hp) : Option Expr → Ev → Mem → (Option Int → Mem → Prop) → Prop where
  | none {env : Ev} {M : Mem} {Q : Option Int → Mem → Prop} (q : Q none M) : SO X G none env M Q
  | some {e : Expr} {env : Ev} {M : Mem} {Q : Option Int → Mem → Prop} (h : SE X G e env M fun s M1 => ∃ i, s = .int i ∧ Q (some i) M1) : SO X G (some e) env M Q
def tSO (X : Cx) (G : Hp) : Option Expr → TO
  | none => tNoPart
  | some e => tPart (tS X G e)
theorem po_S : ∀ {o : Option Expr}, PO X o (tSO X G o)
  | none => po_none
  | some e => po_some pe_S
theorem so_go {o : Option Expr} {Q : Option Int → Mem → Prop} {σ : L2.St} {H : Hp} {R : Option Int → Hp → Prop} (r : Rel X.K G env M σ H) (h : SO X G o env M Q) (k : ∀ i M' H', Keep X.K H H' → Rel X.K G env M' σ H' → Q i M' → R i H') : tSO X G o σ H R := by
  cases h with
  | none q => exact k none M H Keep.refl r q
  | some h =>
    refine tS_go r h fun s M1 v H1 k1 rv R1 z => ?_
    obtain ⟨i, e, q⟩ := z
    subst e
    cases rv
    exact ⟨i, rfl, k (some i) M1 H1 k1 R1 q⟩
def cutS (xs : List S) (lo hi : Option Int) : List S := (xs.drop (HT.sIx xs.length 0 lo)).take (HT.sIx xs.length xs.length hi - HT.sIx xs.length 0 lo)
theorem cut_rv {K : PySem.W.Frag} {H : Hp} {xs : List S} {vs : List V} (r : RVs K H xs vs) (lo hi : Option Int) : RVs K H (cutS xs lo hi) (cutV vs lo hi) := by
  unfold cutS cutV
  rw [r.length]
  exact (r.drop _).take _
theorem se_cutL {lo hi : Option Expr} {p2 : Pos} (h : SE X G e env M fun s M1 => SO X G lo env M1 fun i M2 => SO X G hi env M2 fun j M3 => ∃ p xs, s = .ptr p ∧ M3 p = some (.lst xs) ∧ ∀ t, M3 t = none → Q (.ptr t) (updM M3 t (.lst (cutS xs i j)))) : SE X G (.Subscript e (.Slice lo hi none p2) pos) env M Q := fun σ H R =>
  ⟨_, pe_slice sl_list (te := tS X G e) pe_S (po_S (G := G)) (po_S (G := G)), tS_go R h fun s M1 v H1 k1 rv R1 q1 => so_go R1 q1 fun i M2 H2 k2 R2 q2 => so_go R2 q2 fun j M3 H3 k3 R3 ⟨p, xs, e1, hp, q3⟩ => by
    subst e1
    cases rv
    obtain ⟨vs, h1, h2⟩ := R3.mem p _ hp
    exact ⟨p, vs, rfl, SqL.of h1, fun t ht => (new_lst R3.mem (cut_rv h2 i j) ht q3).back (k1.trans (k2.trans k3))⟩⟩
theorem se_cutT {lo hi : Option Expr} {p2 : Pos} (h : SE X G e env M fun s M1 => SO X G lo env M1 fun i M2 => SO X G hi env M2 fun j M3 => ∃ xs, s = .tup xs ∧ Q (.tup (cutS xs i j)) M3) : SE X G (.Subscript e (.Slice lo hi none p2) pos) env M Q := fun σ H R =>
  ⟨_, pe_slice sl_tupA (te := tS X G e) pe_S (po_S (G := G)) (po_S (G := G)), tS_go R h fun s M1 v H1 k1 rv R1 q1 => so_go R1 q1 fun i M2 H2 k2 R2 q2 => so_go R2 q2 fun j M3 H3 k3 R3 ⟨xs, e1, q3⟩ => by
    subst e1
    cases rv.up (k2.trans k3) with
    | @tup a vs _ h1 h2 =>
      refine ⟨a, vs, rfl, h1.sq, fun ⟨z1, z2⟩ => ?_, fun _ t ht => (new_tup R3.mem (cut_rv h2 i j) ht q3).back (k1.trans (k2.trans k3))⟩
      have e : cutS xs i j = xs := by
        unfold cutS
        rw [h2.length, z1, z2, List.drop_zero, Nat.sub_zero, ← h2.length, List.take_length]
      rw [e] at q3
      exact ⟨.tup xs, M3, k1.trans (k2.trans k3), .tup h1 h2, R3.mem, q3⟩⟩
end
end Sy

set_option Elab.async false
set_option linter.all false
set_option maxRecDepth 100000
namespace Sy
open PySem PySem.Spec PyProof.Rows L2
abbrev Con := List S → Mem → QS → (Addr → S → Mem → Prop) → Prop
abbrev E0c : Addr → S → Mem → Prop := fun _ _ _ => False
/-- a promise by symbolic values -/
def SpC (K : PySem.W.Frag) (C : Con) : Sp := fun vs H Q E => ∃ ss M Q' E', RVs K H ss vs ∧ MemR K M H ∧ C ss M Q' E' ∧ (∀ s M' v H', Keep K H H' → RV K H' s v → MemR K M' H' → Q' s M' → Q v H') ∧
  ∀ c s M' d v H', Keep K H H' → H' d = some (.xd [(("value" : Str), v)]) → RV K H' s v → MemR K M' H' → E' c s M' → E (.ref c) (some d) H'
/-- a promise of a def where no repr is under way around it -/
structure FnOk (P : Program) (w : World) (K : PySem.W.Frag) (mg : Str → Option Value) (base : Heap) (cx : CXT) (k : Nat) (f : Addr) (fd : FuncData) (ps : List Str) (sp : Sp) : Prop where
  len : ∀ vs H Q E, sp vs H Q E → vs.length = ps.length
  run : ∀ (A : Around) (out : List Env) (s : Shared) (H : Hp) (args : Args) (us : List Value) (vs : List V) (Q : VK) (E : XK), Room k A → A.guards = some [] →
    Env0 P w K mg base A out s H → BindsTo s fd args (ps.zip us) → Vals vs us → sp vs H Q E → codeAny (model P w) A (.call (.ref f) args) (CR cx out P w H s Q E) s
theorem FnOk.mono {P : Program} {w : World} {K : PySem.W.Frag} {mg : Str → Option Value} {base : Heap} {cx : CXT} {j k : Nat} {f : Addr} {fd : FuncData} {ps : List Str} {sp : Sp} (F : FnOk P w K mg base cx j f fd ps sp) (h : j ≤ k) : FnOk P w K mg base cx k f fd ps sp where
  len := F.len
  run := fun A out s H args us vs Q E hr hg e0 hb hv hs => F.run A out s H args us vs Q E (hr.mono h) hg e0 hb hv hs
/-- the promise of a def by its body -/
theorem fn_by {P : Program} {w : World} {K : PySem.W.Frag} {mg : Str → Option Value} {base : Heap} {x qual : Str} {st : Stmt} {f : Addr} {fd : FuncData} {N ps : List Str} {k : Nat} {sp : Sp} (F : Fun K x qual st f fd) (S1 : FnScope N ps (defScope st)) (len : ∀ vs H Q E, sp vs H Q E → vs.length = ps.length)
    (body : ∀ (cdv : Value) (A : Around) (out : List Env) (s : Shared) (H : Hp) (vs : List V) (Q : VK) (E : XK), Room k (A.deeper (envOfC qual (defScope st) s.heap.objs.size f cdv)) → A.guards = some [] → sp vs H Q E →
      ∃ t, PSs (cxOf (L2.CX P w) P w K mg base N qual (defScope st) f cdv A out s H E) (defBody st) t ∧ t { nx := fun _ H' => Q .non H', rt := Q } (L2.start N vs) H) : FnOk P w K mg base (L2.CX P w) (k + 1) f fd ps sp where
  len := len
  run := fun A out s H args us vs Q E room gd e0 bnd rel hsp => by
    obtain ⟨oc, od, kV, doc, pm, an, cdv, ct, osl, rfl, lk, hcd⟩ := F.ex
    have nv := len _ _ _ _ hsp
    have grown : ∀ b o, base.get? b = some o → s.heap.get? b = some o := fun b o e => (e0.bs b o e).1
    have inK : K.In s.heap := e0.mod.kin.keeps grown
    have nolim : s.heap.NoLimit := e0.mod.nolimit.keeps grown
    refine codeAny_call_function room.depth (inK _ _ lk) rfl S1.co S1.gen rfl (PySem.W.codeRec_of inK hcd) (bnd _ _ _ _ ?_)
    refine wpAny_newFunctionEnv_cells S1.kind (fun z hz => ?_) fun env he s1 xs => ?_
    · obtain ⟨nm, u⟩ := z
      cases S1.par nm (List.of_mem_zip hz).1 with
      | inl q => exact .inl q
      | inr q => exact .inr ⟨q, PySem.W.cellsFrom_some _ _ _ (.inl q)⟩
    · subst he
      obtain ⟨t, pt, ht⟩ := body cdv A out s H vs Q E (room.deeper _) gd hsp
      have J : Inv (cxOf (L2.CX P w) P w K mg base N qual (defScope st) f cdv A out s H E) [] (L2.start N vs) H s1 := inv_start S1 room.hd e0 nv rel xs
      refine ⟨nolim.keeps xs.toInCall.keep, codeAny_func (wpAny_mono (pt.run [] s1 (L2.start N vs) H _ J ht) (fun fl s2 z => ?_) fun _ _ z => z)⟩
      have out1 : ∀ {σ2 : L2.St} {H2 : Hp} {v : V} {u : Value}, Inv (cxOf (L2.CX P w) P w K mg base N qual (defScope st) f cdv A out s H E) [] σ2 H2 s2 → RelV v u → Q v H2 → CE out P w H s Q u s2 := fun I rv q => ⟨_, _, I.os, I.bare, I.base, I.hok, rv, q⟩
      cases fl with
      | ret u => obtain ⟨v, σ2, H2, I, rv, q⟩ := z; exact out1 I rv q
      | next => obtain ⟨σ2, H2, I, q⟩ := z; exact out1 (v := .non) (u := .none) I rfl q
      | brk => obtain ⟨_, _, _, q⟩ := z; exact q.elim
      | cont => obtain ⟨_, _, _, q⟩ := z; exact q.elim
/-- f(..) by its promise -/
theorem run_pr {X : Cx} {k : Nat} {f : Addr} {fd : FuncData} {ps : List Str} {sp : Sp} {E : XK} {pins : List (Addr × Obj)} {σ : L2.St} {H : Hp} {s : Shared} {Q : VK} {us : List Value} {vs : List V} (F : FnOk X.prog X.w X.K X.mg X.base (L2.CX X.prog X.w) k f fd ps sp) (hr : Room k X.A) (hg : X.A.guards = some []) (hb : Binds X.K fd ps [])
    (hx : PassesAt (L2.CX X.prog X.w) X σ E) (I : Inv X pins σ H s) (r : Vals vs us) (h : sp vs H Q E) : wpAny (model X.prog X.w) X.A (call (.ref f) us) (EP X pins σ Q) X.xe s := by
  have nl : us.length = ps.length := r.length.symm.trans (F.len _ _ _ _ h)
  have bd := hb s us I.kIn (by simpa using nl)
  simp only [List.append_nil] at bd
  refine wpAny_call (codeAny_mono (F.run X.A X.stack s H ⟨us, []⟩ us vs Q E hr hg I.env0 bd r h) fun res s2 z => ?_)
  match res, z with
  | .error e, z => exact hx pins H s e s2 I z
  | .ok (.ret u), z => exact I.after z
  | .ok .next, z => exact z.elim
  | .ok .brk, z => exact z.elim
  | .ok .cont, z => exact z.elim
theorem pe_pr {X : Cx} {x : Str} {k : Nat} {f : Addr} {fd : FuncData} {ps : List Str} {sp : Sp} {E : L2.St → XK} {e : Expr} {es : List Expr} {t : TA} {p pos : Pos} (F : FnOk X.prog X.w X.K X.mg X.base (L2.CX X.prog X.w) k f fd ps sp) (hr : Room k X.A) (gd : X.A.guards = some []) (hg : Gl X x) (hm : X.mg x = some (.ref f)) (hk : PySem.W.keepIn X.K (.ref f) = true) (hb : Binds X.K fd ps []) (hx : ∀ σ, PassesAt (L2.CX X.prog X.w) X σ (E σ))
    (ha : PA X (e :: es) t) (hdb : (x == ("__debug__" : Str)) = false) (he : starEach (e :: es) X.env = (false, eval e X.env) :: starEach es X.env) (hpl : (backTo pos (starEach es X.env)).any (·.1) = false) : PE X (.Call (.Name x p) (e :: es) [] pos) (fun σ H Q => t σ H fun vs H1 => sp vs H1 Q (E σ)) where
  run := fun pins s σ H Q I h => wpAny_Call_Name_kw (ld_glob I hg hm (PySem.W.callWith_K (h₀ := X.base) I.ok.mod.kin hk (thn (ha.run pos pins s σ H _ I h) fun us s1 z => by
    obtain ⟨vs, H1, I1, r, q⟩ := z
    exact ⟨I1.kIn, run_pr F hr gd hb (hx σ) I1 r q⟩) he hpl) hdb)
/-- an own def, at hand in a context -/
structure Fn (P : Program) (w : World) (K : PySem.W.Frag) (mg : Str → Option Value) (base : Heap) (nm : Str) (k : Nat) (C : Con) : Prop where
  ex : ∃ f fd ps, FnOk P w K mg base (L2.CX P w) k f fd ps (SpC K C) ∧ mg nm = some (.ref f) ∧ PySem.W.keepIn K (.ref f) = true ∧ Binds K fd ps []
/-- what a context's exceptions may be -/
def Wish (X : Cx) (G : Hp) (Z : Ev → Addr → S → Mem → Prop) : Prop := ∃ W : WX, Takes X W ∧ ∀ env M σ H c s d v, Rel X.K G env M σ H → Z env c s M → H d = some (.xd [(("value" : Str), v)]) → RV X.K H s v → W (.ref c) (some d) σ H
section
variable {X : Cx} {G : Hp} {env : Ev} {M : Mem} {D : SD} {Q : QS} {a b c e o : Expr} {es : List Expr} {pos : Pos} {C : Con} {x : Str} {k j : Nat} {p : Pos}
/-- f(..), nothing raised -/
theorem se_call (F : Fn X.prog X.w X.K X.mg X.base x k C) (hr : Room j X.A) (gd : X.A.guards = some []) (hg : Gl X x) (h : SA X G (e :: es) env M fun ss M1 => C ss M1 Q E0c) (hkj : k ≤ j := by decide) (hdb : (x == ("__debug__" : Str)) = false := by decide)
    (he : starEach (e :: es) X.env = (false, eval e X.env) :: starEach es X.env := by rfl) (hpl : (backTo pos (starEach es X.env)).any (·.1) = false := by rfl) : SE X G (.Call (.Name x p) (e :: es) [] pos) env M Q := fun σ H R => by
  obtain ⟨f, fd, ps, F, hm, hk, hb⟩ := F.ex
  refine ⟨_, pe_pr (E := fun _ => E0) F (hr.mono hkj) gd hg hm hk hb (fun σ pins H s e s' I z => passL pins σ H s e s' I z) pa_S hdb he hpl, tSA_go R h fun ss M1 vs H1 k1 rvs R1 q => ?_⟩
  exact ⟨ss, M1, Q, E0c, rvs, R1.mem, q, fun s M' v H' k2 rv m' q' => ⟨s, M', k1.trans k2, rv, m', q'⟩, fun _ _ _ _ _ _ _ _ _ _ z => z.elim⟩
/-- f(..), which may raise -/
theorem se_callX {Z : Ev → Addr → S → Mem → Prop} (F : Fn X.prog X.w X.K X.mg X.base x k C) (hr : Room j X.A) (gd : X.A.guards = some []) (hz : Wish X G Z) (hg : Gl X x) (h : SA X G (e :: es) env M fun ss M1 => C ss M1 Q (Z env)) (hkj : k ≤ j := by decide) (hdb : (x == ("__debug__" : Str)) = false := by decide)
    (he : starEach (e :: es) X.env = (false, eval e X.env) :: starEach es X.env := by rfl) (hpl : (backTo pos (starEach es X.env)).any (·.1) = false := by rfl) : SE X G (.Call (.Name x p) (e :: es) [] pos) env M Q := fun σ H R => by
  obtain ⟨f, fd, ps, F, hm, hk, hb⟩ := F.ex
  obtain ⟨W, tk, hW⟩ := hz
  refine ⟨_, pe_pr F (hr.mono hkj) gd hg hm hk hb (fun σ => passAt tk σ) pa_S hdb he hpl, tSA_go R h fun ss M1 vs H1 k1 rvs R1 q => ?_⟩
  exact ⟨ss, M1, Q, Z env, rvs, R1.mem, q, fun s M' v H' k2 rv m' q' => ⟨s, M', k1.trans k2, rv, m', q'⟩, fun c s M' d v H' k2 hd rv m' z => hW env M' σ H' c s d v (R1.step k2 m') z hd rv⟩
end
/-- a context by its names, as the text has them -/
structure DX (X : Cx) (N : List Str) (sc : Scope) (k : Nat) : Prop where
  hN : X.N = N
  sc : X.env.scope = sc
  calm : X.calm = true
  nd : N.Nodup
  room : Room k X.A
  gd : X.A.guards = some []
  own : PassesOwn (model X.prog X.w) X.A X.env X.xe
  fn : ∀ x, X.fn x = true
/-- the slots at a def's entry -/
def startE (N : List Str) (ss : List S) : Ev := ss.map some ++ List.replicate (N.length - ss.length) none
section
variable {P : Program} {w : World} {K : PySem.W.Frag} {mg : Str → Option Value} {base : Heap}
theorem def_ok {x qual : Str} {st : Stmt} {f : Addr} {fd : FuncData} {N ps : List Str} {k : Nat} {C : Con} (F : Fun K x qual st f fd) (S1 : FnScope N ps (defScope st)) (len : ∀ ss M Q E, C ss M Q E → ss.length = ps.length)
    (body : ∀ (X : Cx) (G : Hp), X.prog = P → X.w = w → X.K = K → X.mg = mg → X.base = base → DX X N (defScope st) k → ∀ ss M Q E, C ss M Q E → Wish X G (fun _ c s M => E c s M) → SSs X G (defBody st) (startE N ss) M { nx := fun _ M' => Q .non M', rt := Q }) :
    FnOk P w K mg base (L2.CX P w) (k + 1) f fd ps (SpC K C) := by
  refine fn_by F S1 (fun vs H Q E h => ?_) (fun cdv A outer s H vs Q E hr hg h => ?_)
  · obtain ⟨ss, M, Q', E', r, _, hc, _⟩ := h
    rw [← r.length]
    exact len _ _ _ _ hc
  · obtain ⟨ss, M, Q', E', r, m, hc, hq, he⟩ := h
    have d : DX (cxOf (L2.CX P w) P w K mg base N qual (defScope st) f cdv A outer s H E) N (defScope st) k := ⟨rfl, rfl, rfl, S1.nd, hr, hg, passes_of rfl, fun _ => rfl⟩
    have wi : Wish (cxOf (L2.CX P w) P w K mg base N qual (defScope st) f cdv A outer s H E) H (fun _ c s M => E' c s M) := ⟨_, takes_of rfl rfl rfl rfl, fun env M σ H' c s d v R z hd rv => he c s M d v H' R.base hd rv R.mem z⟩
    have b := body _ H rfl rfl rfl rfl rfl d ss M Q' E' hc wi H Keep.refl (L2.start N vs) H ⟨Keep.refl, ?_, m⟩
    · refine ⟨_, pss_S, _, _, _, _, Keep.refl, ⟨Keep.refl, ?_, m⟩, fun G1 kG σ1 H1 R1 => body _ H rfl rfl rfl rfl rfl d ss M Q' E' hc wi G1 kG σ1 H1 R1, ⟨fun σ' H' ⟨v, M', R', q⟩ => hq _ _ _ _ R'.base .non R'.mem q, fun v H' ⟨s, M', k', rv, m', q⟩ => hq _ _ _ _ k' rv m' q, fun _ _ ⟨_, _, _, z⟩ => z.elim, fun _ _ ⟨_, _, _, z⟩ => z.elim⟩⟩
      unfold L2.start startE
      rw [← r.length]
      exact EnvR.of ss r _
    · unfold L2.start startE
      rw [← r.length]
      exact EnvR.of ss r _
end
end Sy

set_option Elab.async false
set_option linter.all false
set_option maxRecDepth 100000
namespace Sy
open PySem PySem.Spec PyProof.Rows L2
/-- what a context's reading of names goes by -/
structure DN (X : Cx) (N : List Str) (sc : Scope) (k : Nat) : Prop where
  hN : X.N = N
  sc : X.env.scope = sc
  calm : X.calm = true
  room : Room k X.A
  gd : X.A.guards = some []
theorem DX.dn {X : Cx} {N : List Str} {sc : Scope} {k : Nat} (d : DX X N sc k) : DN X N sc k := ⟨d.hN, d.sc, d.calm, d.room, d.gd⟩
def nmB (N : List Str) (sc : Scope) (i : Nat) (x : Str) : Bool := decide (N[i]? = some x) && (match sc.names.lookup x with | some .local => true | some .cell => true | some .free => true | _ => false) && !(x == ("__debug__" : Str)) && !(x == ("__classdict__" : Str))
def lcB (N : List Str) (sc : Scope) (i : Nat) (x : Str) : Bool := decide (N[i]? = some x) && (match sc.names.lookup x with | some .local => true | some .cell => true | _ => false)
def loB (N : List Str) (sc : Scope) (i : Nat) (x : Str) : Bool := decide (N[i]? = some x) && (match sc.names.lookup x with | some .local => true | _ => false)
def glB (sc : Scope) (x : Str) : Bool := match sc.names.lookup x with | some .globalImplicit => true | _ => false
section
variable {X : Cx} {G : Hp} {env : Ev} {M : Mem} {D : SD} {Q : QS} {a b c e o : Expr} {es : List Expr} {pos : Pos} {N : List Str} {sc : Scope} {k : Nat} {x : Str} {p : Pos}
theorem gl_of (d : DN X N sc k) (h : glB sc x = true) : Gl X x := by
  show X.env.scope.names.lookup x = some .globalImplicit
  rw [d.sc]
  unfold glB at h
  split at h
  · assumption
  · cases h
theorem dn_name (d : DN X N sc k) (i : Nat) {s : S} (h : nmB N sc i x = true) (he : env[i]? = some (some s)) (q : Q s M) : SE X G (.Name x pos) env M Q := by
  unfold nmB at h
  simp only [Bool.and_eq_true, decide_eq_true_eq, Bool.not_eq_true'] at h
  obtain ⟨⟨⟨h1, h2⟩, h3⟩, h4⟩ := h
  refine se_name he (by rw [d.hN]; exact h1) ?_ q h3 h4
  unfold Vis
  rw [d.sc]
  split at h2
  · exact .inl (by assumption)
  · exact .inr (.inl (by assumption))
  · exact .inr (.inr (by assumption))
  · cases h2
theorem loc_of (d : DX X N sc k) {i : Nat} (h : lcB N sc i x = true) : X.N[i]? = some x ∧ Loc X.env.scope x := by
  unfold lcB at h
  simp only [Bool.and_eq_true, decide_eq_true_eq] at h
  obtain ⟨h1, h2⟩ := h
  refine ⟨by rw [d.hN]; exact h1, ?_⟩
  unfold L2.Loc
  rw [d.sc]
  split at h2
  · exact .inl (by assumption)
  · exact .inr (by assumption)
  · cases h2
theorem lo_of (d : DX X N sc k) {i : Nat} (h : loB N sc i x = true) : X.N[i]? = some x ∧ X.env.scope.names.lookup x = some .local := by
  unfold loB at h
  simp only [Bool.and_eq_true, decide_eq_true_eq] at h
  obtain ⟨h1, h2⟩ := h
  refine ⟨by rw [d.hN]; exact h1, ?_⟩
  rw [d.sc]
  split at h2
  · assumption
  · cases h2
theorem DX.ndX (d : DX X N sc k) : X.N.Nodup := by rw [d.hN]; exact d.nd
theorem dx_set (d : DX X N sc k) (i : Nat) {pos' : Pos} (h : lcB N sc i x = true) (hs : swapsWith e (some (.Name x pos')) pos.line X.env = pure false) (q : SE X G e env M fun s M' => D.nx (env.set i (some s)) M') : SS X G (.Assign [.Name x pos'] e pos) env M D :=
  ss_set q d.ndX (loc_of d h).1 (loc_of d h).2 hs (.inl (d.fn x))
theorem dx_tgt (d : DX X N sc k) (i : Nat) {s : S} {n : Ev → Mem → Prop} (h : lcB N sc i x = true) (q : n (env.set i (some s)) M) : SG X G (.Name x pos) s env M n :=
  sg_name q d.ndX (loc_of d h).1 (loc_of d h).2 (.inl (d.fn x))
theorem dx_for (d : DX X N sc k) {tg iter : Expr} {body : List Stmt} (hs : ∀ x, foldedSetIterable iter X.env x = pure x) (h : SI X G tg iter env M fun xs Gd M1 => ∃ I : Nat → Ev → Mem → Prop, I 0 env M1 ∧ (∀ i v M', I i v M' → Gd M') ∧
      (∀ i x v M', xs[i]? = some x → I i v M' → SG X G tg x v M' fun v2 M2 => SSs X G body v2 M2 { nx := I (i + 1), ct := I (i + 1), bk := D.nx, rt := D.rt }) ∧ ∀ v M', I xs.length v M' → D.nx v M') : SS X G (.For tg iter body [] pos) env M D := ss_for h d.own d.calm hs
theorem dx_par (d : DX X N sc k) (i j : Nat) {x y : Str} {px py pt : Pos} {kt k2 pt2} (hi : loB N sc i x = true) (hj : loB N sc j y = true) (hij : i ≠ j) (hw : swappedStores [.Tuple [.Name x px, .Name y py] kt pt] (.Tuple [a, b] k2 pt2) X.env = pure (some [x, y]))
    (hs : swapsWithSole [.Tuple [.Name x px, .Name y py] kt pt] (.Tuple [a, b] k2 pt2) pos.line X.env = pure false) (h : SA X G [a, b] env M fun vs M' => ∃ v w, vs = [v, w] ∧ D.nx ((env.set i (some v)).set j (some w)) M') : SS X G (.Assign [.Tuple [.Name x px, .Name y py] kt pt] (.Tuple [a, b] k2 pt2) pos) env M D :=
  ss_par h d.ndX (lo_of d hi).1 (lo_of d hj).1 hij (lo_of d hi).2 (lo_of d hj).2 hw d.calm hs
theorem dn_callB (d : DN X N sc k) {id : String} (hm : X.mg x = none) (hv : bootBuiltins x = some (.builtin id)) (hg : glB sc x = true) (hn : x ≠ "__name__") (hdb : (x == ("__debug__" : Str)) = false)
    (he : starEach (e :: es) X.env = (false, eval e X.env) :: starEach es X.env) (hpl : (backTo pos (starEach es X.env)).any (·.1) = false) (h : SA X G (e :: es) env M fun xs M1 => RB X (.builtin id) xs M1 Q) : SE X G (.Call (.Name x p) (e :: es) [] pos) env M Q := se_callB (gl_of d hg) hm hv h hn hdb he hpl
theorem dn_callT (d : DN X N sc k) {T : String} (hm : X.mg x = none) (hv : bootBuiltins x = some (.type T)) (hg : glB sc x = true) (hn : x ≠ "__name__") (hdb : (x == ("__debug__" : Str)) = false)
    (he : starEach (e :: es) X.env = (false, eval e X.env) :: starEach es X.env) (hpl : (backTo pos (starEach es X.env)).any (·.1) = false) (h : SA X G (e :: es) env M fun xs M1 => RB X (.type T) xs M1 Q) : SE X G (.Call (.Name x p) (e :: es) [] pos) env M Q := se_callT (gl_of d hg) hm hv h hn hdb he hpl
theorem dn_ty (d : DN X N sc k) {n : String} (hm : X.mg x = none) (hv : bootBuiltins x = some (.type n)) (hg : glB sc x = true) (hn : x ≠ "__name__") (hdb : (x == ("__debug__" : Str)) = false) (q : Q (.ty n) M) : SE X G (.Name x pos) env M Q := se_bltn (gl_of d hg) hm hv q hn hdb
theorem dn_call (d : DN X N sc k) {C : Con} {j : Nat} (F : Fn X.prog X.w X.K X.mg X.base x j C) (hg : glB sc x = true) (hkj : j ≤ k) (hdb : (x == ("__debug__" : Str)) = false)
    (he : starEach (e :: es) X.env = (false, eval e X.env) :: starEach es X.env) (hpl : (backTo pos (starEach es X.env)).any (·.1) = false) (h : SA X G (e :: es) env M fun ss M1 => C ss M1 Q E0c) : SE X G (.Call (.Name x p) (e :: es) [] pos) env M Q := se_call F d.room d.gd (gl_of d hg) h hkj hdb he hpl
theorem dn_callX (d : DN X N sc k) {C : Con} {j : Nat} {Z : Ev → Addr → S → Mem → Prop} (hz : Wish X G Z) (F : Fn X.prog X.w X.K X.mg X.base x j C) (hg : glB sc x = true) (hkj : j ≤ k) (hdb : (x == ("__debug__" : Str)) = false)
    (he : starEach (e :: es) X.env = (false, eval e X.env) :: starEach es X.env) (hpl : (backTo pos (starEach es X.env)).any (·.1) = false) (h : SA X G (e :: es) env M fun ss M1 => C ss M1 Q (Z env)) : SE X G (.Call (.Name x p) (e :: es) [] pos) env M Q := se_callX F d.room d.gd hz (gl_of d hg) h hkj hdb he hpl
/-- the scope of a comprehension's block -/
def blkS (sc scope : Scope) : Scope := { scope with names := scope.names.map fun (n, k) => if (k == .free && sc.kind == .function && sc.names.lookup n == some .cell) then (n, .cell) else (n, k) }
theorem DN.blk (d : DN X N sc k) {scope : Scope} {s : Shared} {H : Hp} {C : Addr} {cl : List (Str × Addr)} {fp : List Addr} : DN (X.blk s H scope (compEnvC scope cl C X.env) fp) N (blkS sc scope) k := by
  refine ⟨d.hN, ?_, d.calm, d.room, d.gd⟩
  obtain ⟨_, h, _, _, _⟩ := d
  subst h
  rfl
def loS (scope : Scope) (x : Str) : Bool := match scope.names.lookup x with | some .local => true | _ => false
theorem dx_lc (d : DN X N sc k) (nd : N.Nodup) (i : Nat) {elt iter : Expr} {scope : Scope} {x : Str} {px : Pos} (hi : (decide (N[i]? = some x) && loS scope x && blkC N sc scope [(x, i)]) = true) (hs : ∀ x, foldedSetIterable iter X.env x = pure x)
    (h : SI X G (.Name x px) iter env M fun xs Gd M1 => ∀ D, M1 D = none → ∃ I : Nat → List S → Mem → Prop, I 0 [] (updM M1 D (.lst [])) ∧ (∀ j acc M', M' D = some (.lst acc) → I j acc M' → Gd M') ∧
      (∀ j s acc M', xs[j]? = some s → M' D = some (.lst acc) → I j acc M' → ∀ (s0 : Shared) (H0 : Hp) (C0 : Addr) (cl0 : List (Str × Addr)) (fp0 : List Addr), DN (X.blk s0 H0 scope (compEnvC scope cl0 C0 X.env) fp0) N (blkS sc scope) k → SE (X.blk s0 H0 scope (compEnvC scope cl0 C0 X.env) fp0) G elt (env.set i (some s)) M' (LcQ D acc (I (j + 1)))) ∧ ∀ acc M', M' D = some (.lst acc) → I xs.length acc M' → Q (.ptr D) M') :
    SE X G (.ListComp elt [⟨.Name x px, iter, [], 0⟩] scope pos) env M Q := by
  simp only [Bool.and_eq_true, decide_eq_true_eq] at hi
  obtain ⟨⟨h1, h2⟩, h3⟩ := hi
  refine se_lc (own := [(x, i)]) (i := i) ?_ (by rw [d.hN]; exact nd) (by rw [d.hN]; exact h1) (by simp) (by rw [d.hN, d.sc]; exact blkOk_by h3) ?_ d.calm hs
  · intro σ H R
    obtain ⟨wi, p1, q1⟩ := h σ H R
    refine ⟨_, pi_S (G := G), env, M, _, R, h, fun J H' ⟨xs, Gd, M1, k1, m1, g1, z⟩ => ⟨xs, Gd, M1, k1, m1, g1, fun D hD => ?_⟩⟩
    obtain ⟨I, i0, ig, turn, fin⟩ := z D hD
    refine ⟨I, i0, ig, fun j s acc M' e1 e2 e3 => fun s0 H0 C0 cl0 fp0 => ?_, fin⟩
    have t := turn j s acc M' e1 e2 e3 s0 H0 C0 cl0 fp0 d.blk
    have e : (wipeE env ([(x, i)].map (·.2))).set i (some s) = env.set i (some s) := by
      show (env.set i none).set i (some s) = env.set i (some s)
      exact List.set_set ..
    rw [e]
    exact t
  · unfold loS at h2
    split at h2
    · assumption
    · cases h2
end
end Sy

set_option Elab.async false
set_option linter.all false
set_option maxRecDepth 100000
namespace Sy
open PySem PySem.Spec PyProof.Rows L2
theorem bf_len : bootBuiltins "len" = some (.builtin "len") := by decide +kernel
theorem bf_abs : bootBuiltins "abs" = some (.builtin "abs") := by decide +kernel
theorem bf_max : bootBuiltins "max" = some (.builtin "max") := by decide +kernel
theorem bf_min : bootBuiltins "min" = some (.builtin "min") := by decide +kernel
theorem bf_all : bootBuiltins "all" = some (.builtin "all") := by decide +kernel
theorem bf_any : bootBuiltins "any" = some (.builtin "any") := by decide +kernel
theorem bf_sum : bootBuiltins "sum" = some (.builtin "sum") := by decide +kernel
theorem bf_isinstance : bootBuiltins "isinstance" = some (.builtin "isinstance") := by decide +kernel
theorem bt_int : bootBuiltins "int" = some (.type "int") := by decide +kernel
theorem bt_bool : bootBuiltins "bool" = some (.type "bool") := by decide +kernel
theorem bt_str : bootBuiltins "str" = some (.type "str") := by decide +kernel
theorem bt_tuple : bootBuiltins "tuple" = some (.type "tuple") := by decide +kernel
theorem bt_list : bootBuiltins "list" = some (.type "list") := by decide +kernel
theorem kb_int_int : kitB "int" "int" = some true := by decide +kernel
theorem kb_bool_int : kitB "bool" "int" = some true := by decide +kernel
theorem kb_int_bool : kitB "int" "bool" = some false := by decide +kernel
theorem kb_bool_bool : kitB "bool" "bool" = some true := by decide +kernel
section
variable {X : Cx} {G : Hp} {env : Ev} {M : Mem} {D : SD} {Q : QS} {a b c e o : Expr} {es : List Expr} {pos : Pos} {N : List Str} {sc : Scope} {k : Nat} {x : Str} {p : Pos}
/-- a op b op' c -/
def RCh (X : Cx) (G : Hp) (op op' : CmpOp) (c : Expr) (env : Ev) (x y : S) (M : Mem) (Q : QS) : Prop := RC X op x y M fun z M3 => ∃ k, z = .bl k ∧ (k = false → Q (.bl false) M3) ∧ (k = true → SE X G c env M3 fun u M4 => RC X op' y u M4 Q)
theorem chain_go {op op' : CmpOp} {σ : L2.St} {H : Hp} {T : VK} (R : Rel X.K G env M σ H) (h : SE X G a env M fun x M1 => SE X G b env M1 fun y M2 => RCh X G op op' c env x y M2 Q) (hT : ∀ z H', PostE X H Q z H' → T z H') : tChain (anyO X (compareOp op)) (anyO X (compareOp op')) (tS X G a) (tS X G b) (tS X G c) σ H T :=
  tS_go R h fun x M1 v H1 k1 rv R1 q1 => tS_go R1 q1 fun y M2 w H2 k2 rw R2 q2 => by
    obtain ⟨r, hr, q⟩ := q2 v w H2 R2.mem (rv.up k2) rw
    refine ⟨_, r, hr, q, fun z H3 p => ?_⟩
    obtain ⟨s, M3, k3, rs, m3, k, e, qf, qt⟩ := p
    subst e
    cases rs
    refine ⟨k, rfl, ?_⟩
    cases k with
    | false =>
      refine iteF (hT _ _ ?_)
      exact ⟨.bl false, M3, k1.trans (k2.trans k3), .bl _, m3, qf rfl⟩
    | true =>
      refine iteT (tS_go (R2.step k3 m3) (qt rfl) fun u M4 w4 H4 k4 r4 R4 q4 => ?_)
      obtain ⟨r', hr', q'⟩ := q4 w w4 H4 R4.mem (rw.up (k3.trans k4)) r4
      exact ⟨_, r', hr', q', fun z H' p => hT _ _ (p.back (k1.trans (k2.trans (k3.trans k4))))⟩
theorem se_chain {op op' : CmpOp} (h : SE X G a env M fun x M1 => SE X G b env M1 fun y M2 => RCh X G op op' c env x y M2 Q)
    (hm : lastMarks [op, op'] [b, c] = false := by with_unfolding_all rfl) : SE X G (.Compare a [op, op'] [b, c] pos) env M Q := fun σ H R =>
  ⟨_, pe_chain opr_any opr_any (pe_S (G := G)) (pe_S (G := G)) (pe_S (G := G)) hm, chain_go R h fun _ _ p => p⟩
theorem st_chain {op op' : CmpOp} {Q : Bool → Mem → Prop} (h : SE X G a env M fun x M1 => SE X G b env M1 fun y M2 => RCh X G op op' c env x y M2 (QB Q))
    (hm : lastMarks [op, op'] [b, c] = false := by with_unfolding_all rfl) : ST X G (.Compare a [op, op'] [b, c] pos) env M Q := fun σ H R =>
  ⟨_, pt_chain opr_any opr_any (pe_S (G := G)) (pe_S (G := G)) (pe_S (G := G)) hm, chain_go R h fun _ _ p => QB.post Keep.refl p⟩
/-- ints in a chain -/
theorem rch_leI {op' : CmpOp} {i j : Int} (qf : ¬ i ≤ j → Q (.bl false) M) (qt : i ≤ j → SE X G c env M fun u M4 => RC X op' (.int j) u M4 Q) : RCh X G .LtE op' c env (.int i) (.int j) M Q :=
  rc_leI ⟨_, rfl, fun z => qf (of_decide_eq_false z), fun z => qt (of_decide_eq_true z)⟩
theorem rch_ltI {op' : CmpOp} {i j : Int} (qf : ¬ i < j → Q (.bl false) M) (qt : i < j → SE X G c env M fun u M4 => RC X op' (.int j) u M4 Q) : RCh X G .Lt op' c env (.int i) (.int j) M Q :=
  rc_ltI ⟨_, rfl, fun z => qf (of_decide_eq_false z), fun z => qt (of_decide_eq_true z)⟩
end
end Sy

set_option Elab.async false
set_option linter.all false
set_option maxRecDepth 100000
namespace Sy
open PySem PySem.Spec PyProof.Rows L2
theorem SE.mono {X : Cx} {G : Hp} {e : Expr} {env : Ev} {M : Mem} {Q Q' : QS} (h : SE X G e env M Q) (k : ∀ s M', Q s M' → Q' s M') : SE X G e env M Q' := fun σ H R =>
  ⟨_, pe_S (G := G), env, M, Q, R, h, fun _ _ p => p.mono k⟩
/-- a store within another one -/
def Sub (M M' : Mem) : Prop := ∀ a o, M a = some o → M' a = some o
theorem Sub.refl {M : Mem} : Sub M M := fun _ _ h => h
theorem Sub.trans {M M1 M2 : Mem} (a : Sub M M1) (b : Sub M1 M2) : Sub M M2 := fun c o h => b c o (a c o h)
theorem Sub.new {M : Mem} {p : Addr} {o : MO} (h : M p = none) : Sub M (updM M p o) := fun a u e => by rw [updM_ne (neM e h)]; exact e
theorem Sub.put {M M' : Mem} (s : Sub M M') (p : Addr) (o : MO) : Sub (updM M p o) (updM M' p o) := fun a u e => by
  by_cases h : a = p
  · rw [h, updM_same] at e; rw [h, updM_same]; exact e
  · rw [updM_ne h] at e; rw [updM_ne h]; exact s a u e
theorem Sub.mem {K : PySem.W.Frag} {M M' : Mem} {H : Hp} (s : Sub M M') (m : MemR K M' H) : MemR K M H := fun a o e => m a o (s a o e)
theorem Sub.free {M M' : Mem} {p : Addr} (s : Sub M M') (h : M' p = none) : M p = none := by
  cases e : M p with
  | none => rfl
  | some o => rw [s p o e] at h; cases h
/-- what is no longer wanted of the store may go -/
def FG (Q : QS) : QS := fun s M' => ∃ M, Sub M M' ∧ Q s M
theorem se_fg {X : Cx} {G : Hp} {e : Expr} {env : Ev} {M : Mem} {Q : QS} (h : SE X G e env M (FG Q)) : SE X G e env M Q := fun σ H R =>
  ⟨_, pe_S (G := G), env, M, _, R, h, fun _ _ ⟨s, M', a, b, c, M'', sb, q⟩ => ⟨s, M'', a, b, sb.mem c, q⟩⟩
/-- a comprehension whose items are reckoned without a change -/
theorem lc_map {X : Cx} {G : Hp} {env : Ev} {M : Mem} {Q : QS} {elt : Expr} {scope sc : Scope} {N : List Str} {k i : Nat} {xs : List S} {Gd : Mem → Prop} (f : S → S) (hl : xs.length < sizeLine) (hg : ∀ M', Sub M M' → Gd M')
    (turn : ∀ D M', M D = none → Sub M M' → ∀ s, s ∈ xs → ∀ (s0 : Shared) (H0 : Hp) (C0 : Addr) (cl0 : List (Str × Addr)) (fp0 : List Addr), DN (X.blk s0 H0 scope (compEnvC scope cl0 C0 X.env) fp0) N (blkS sc scope) k →
      SE (X.blk s0 H0 scope (compEnvC scope cl0 C0 X.env) fp0) G elt (env.set i (some s)) M' fun y M2 => y = f s ∧ Sub M' M2)
    (fin : ∀ D M', M D = none → Sub M M' → M' D = some (.lst (xs.map f)) → Q (.ptr D) M') :
    ∀ D, M D = none → ∃ I : Nat → List S → Mem → Prop, I 0 [] (updM M D (.lst [])) ∧ (∀ j acc M', M' D = some (.lst acc) → I j acc M' → Gd M') ∧
      (∀ j s acc M', xs[j]? = some s → M' D = some (.lst acc) → I j acc M' → ∀ (s0 : Shared) (H0 : Hp) (C0 : Addr) (cl0 : List (Str × Addr)) (fp0 : List Addr), DN (X.blk s0 H0 scope (compEnvC scope cl0 C0 X.env) fp0) N (blkS sc scope) k → SE (X.blk s0 H0 scope (compEnvC scope cl0 C0 X.env) fp0) G elt (env.set i (some s)) M' (LcQ D acc (I (j + 1)))) ∧ ∀ acc M', M' D = some (.lst acc) → I xs.length acc M' → Q (.ptr D) M' := by
  intro D hD
  refine ⟨fun j acc M' => acc = (xs.take j).map f ∧ Sub M M', ⟨rfl, Sub.new hD⟩, fun j acc M' _ ⟨_, e⟩ => hg M' e, fun j s acc M' es eD ⟨ea, eM⟩ s0 H0 C0 cl0 fp0 dn => ?_, fun acc M' eD ⟨ea, eM⟩ => ?_⟩
  · refine (turn D M' hD eM s (List.mem_of_getElem? es) s0 H0 C0 cl0 fp0 dn).mono fun y M2 z => ?_
    obtain ⟨e1, e2⟩ := z
    subst e1
    have hj : j < xs.length := (List.getElem?_eq_some_iff.mp es).1
    refine ⟨e2 _ _ eD, ?_, ?_, fun a o h => ?_⟩
    · rw [ea, List.length_map, List.length_take]
      omega
    · rw [ea, List.take_add_one, es, List.map_append]
      rfl
    · rw [updM_ne (neM h hD)]
      exact e2 _ _ (eM _ _ h)
  · rw [List.take_length] at ea
    rw [ea] at eD
    exact fin D M' hD eM eD
theorem dx_map {X : Cx} {G : Hp} {env : Ev} {M : Mem} {Q : QS} {N : List Str} {sc : Scope} {k : Nat} (d : DN X N sc k) (nd : N.Nodup) (i : Nat) {elt iter : Expr} {scope : Scope} {x : Str} {px pos : Pos} (hi : (decide (N[i]? = some x) && loS scope x && blkC N sc scope [(x, i)]) = true) (hs : ∀ x, foldedSetIterable iter X.env x = pure x)
    (h : SI X G (.Name x px) iter env M fun xs Gd M1 => ∃ f : S → S, xs.length < sizeLine ∧ (∀ M', Sub M1 M' → Gd M') ∧ (∀ D M', M1 D = none → Sub M1 M' → ∀ s, s ∈ xs → ∀ (s0 : Shared) (H0 : Hp) (C0 : Addr) (cl0 : List (Str × Addr)) (fp0 : List Addr), DN (X.blk s0 H0 scope (compEnvC scope cl0 C0 X.env) fp0) N (blkS sc scope) k →
      SE (X.blk s0 H0 scope (compEnvC scope cl0 C0 X.env) fp0) G elt (env.set i (some s)) M' fun y M2 => y = f s ∧ Sub M' M2) ∧ ∀ D M', M1 D = none → Sub M1 M' → M' D = some (.lst (xs.map f)) → Q (.ptr D) M') :
    SE X G (.ListComp elt [⟨.Name x px, iter, [], 0⟩] scope pos) env M Q := by
  refine dx_lc d nd i hi hs fun σ H R => ⟨_, pi_S (G := G), env, M, _, R, h, fun J H' ⟨xs, Gd, M1, k1, m1, g1, f, a, b, c, e⟩ => ⟨xs, Gd, M1, k1, m1, g1, ?_⟩⟩
  exact lc_map f a b c e
theorem inV_ints (i : Int) : ∀ ns : List Int, inV (.int i) (ns.map V.int) = ns.contains i
  | [] => rfl
  | a :: r => by
    have ih := inV_ints i r
    unfold inV at ih ⊢
    rw [List.map_cons, List.any_cons, ih, List.contains_cons]
    have e : eqV (V.int a) (.int i) = (i == a) := by
      show (a == i) = (i == a)
      exact Bool.beq_comm
    rw [e]
theorem rc_notInI {X : Cx} {M : Mem} {Q : QS} {i : Int} {ns : List Int} (q : Q (.bl (!ns.contains i)) M) : RC X .NotIn (.int i) (.tup (ns.map S.int)) M Q := fun v w H m r1 r2 => by
  cases r1
  cases r2 with
  | tup h1 h2 =>
    have e := rvs_ints h2
    subst e
    refine ⟨_, op_notIn_seq, _, _, rfl, .inr h1.sq, rfl, ?_, ?_⟩
    · rw [List.all_eq_true]
      intro x hx
      obtain ⟨n, _, rfl⟩ := List.mem_map.mp hx
      rfl
    · rw [inV_ints]
      exact pack (.bl _) m q
end Sy

set_option Elab.async false
set_option linter.all false
set_option maxRecDepth 100000
namespace Sy
open PySem PySem.Spec PyProof.Rows L2
/-- a call f(k = v, ..), keywords alone, in the parameters' order -/
structure FnK (P : Program) (w : World) (K : PySem.W.Frag) (mg : Str → Option Value) (base : Heap) (nm : Str) (k : Nat) (ps : List Str) (C : Con) : Prop where
  ex : ∃ f fd, FnOk P w K mg base (L2.CX P w) k f fd ps (SpC K C) ∧ mg nm = some (.ref f) ∧ PySem.W.keepIn K (.ref f) = true ∧ ∀ (s : Shared) (ws : List Value), K.In s.heap → ws.length = ps.length → BindsTo s fd ⟨[], ps.zip ws⟩ (ps.zip ws)
section
variable {X : Cx} {G : Hp} {env : Ev} {M : Mem} {D : SD} {Q : QS} {a b c e o : Expr} {es : List Expr} {pos : Pos} {N : List Str} {sc : Scope} {k : Nat} {x : Str} {p : Pos}
def SK (X : Cx) (G : Hp) (es : List Keyword) (env : Ev) (M : Mem) (Q : List S → Mem → Prop) : Prop := ∀ σ H, Rel X.K G env M σ H → ∃ t, PK X es t ∧ t σ H (PostA X H Q)
def tSK (X : Cx) (G : Hp) (es : List Keyword) : TA := fun σ H R => ∃ env M Q, Rel X.K G env M σ H ∧ SK X G es env M Q ∧ ∀ v H', PostA X H Q v H' → R v H'
theorem pk_S {es : List Keyword} : PK X es (tSK X G es) := ⟨fun pos pins s σ H R I h => by
  obtain ⟨env, M, Q, r, hs, k⟩ := h
  obtain ⟨t, p, ht⟩ := hs σ H r
  exact thn (p.run pos pins s σ H _ I ht) fun u s1 ⟨v, H', I', rv, q⟩ => ⟨v, H', I', rv, k v H' q⟩⟩
theorem sk_nil {Q : List S → Mem → Prop} (q : Q [] M) : SK X G [] env M Q := fun σ H R => ⟨_, pk_nil, [], M, Keep.refl, .nil, R.mem, q⟩
theorem sk_cons {Q : List S → Mem → Prop} {nm : Option Str} {kpos : Pos} {ks : List Keyword} (h : SE X G e env M fun x M1 => SK X G ks env M1 fun xs M2 => Q (x :: xs) M2) : SK X G (⟨nm, e, kpos⟩ :: ks) env M Q := fun σ H R =>
  ⟨_, pk_cons (te := tS X G e) pe_S pk_S, tS_go R h fun x M1 v H1 k1 rv R1 q1 => by
    obtain ⟨t, p, q⟩ := q1 σ H1 R1
    exact ⟨env, M1, _, R1, q1, fun xs H2 ⟨ss, M2, k2, rvs, m2, q2⟩ => ⟨x :: ss, M2, k1.trans k2, .cons (rv.up k2) rvs, m2, q2⟩⟩⟩
theorem dn_kw (d : DN X N sc k) {C : Con} {j : Nat} {ps : List Str} {kws : List Keyword} (F : FnK X.prog X.w X.K X.mg X.base x j ps C) (hg : glB sc x = true) (hkj : j ≤ k) (hdb : (x == ("__debug__" : Str)) = false)
    (hall : (backToKw pos (keywordEach kws X.env)).all (·.1.isSome) = true) (hks : (backToKw pos (keywordEach kws X.env)).filterMap (·.1) = ps) (hpl : ((backTo pos (starEach [] X.env)).any (·.1) || (backToKw pos (keywordEach kws X.env)).any (·.1.isNone)) = false)
    (h : SK X G kws env M fun ss M1 => C ss M1 Q E0c) : SE X G (.Call (.Name x p) [] kws pos) env M Q := by
  obtain ⟨f, fd, F, hm, hk, hb⟩ := F.ex
  have F := F.mono hkj
  have hg := gl_of d hg
  intro σ H R
  refine ⟨fun σ H T => tSK X G kws σ H fun zs H2 => SpC X.K C zs H2 T E0, ⟨fun pins s σ H T I h => ?_⟩, env, M, _, R, h, fun vs H1 ⟨ss, M1, k1, rvs, m1, q⟩ => ⟨ss, M1, Q, E0c, rvs, m1, q, fun s M' v H' k2 rv m' q' => ⟨s, M', k1.trans k2, rv, m', q'⟩, fun _ _ _ _ _ _ _ _ _ _ z => z.elim⟩⟩
  refine wpAny_Call_Name_kw (ld_glob I hg hm ?_ hdb)
  refine PySem.W.callWith_KW0 (h₀ := X.base) I.ok.mod.kin hk hall ?_ hpl
  refine thn ((pk_S (G := G)).run pos pins s σ H _ I h) fun ws s2 ⟨zs, H2, I2, rz, q2⟩ => ⟨I2.kIn, ?_⟩
  rw [hks]
  have hl : ws.length = ps.length := by rw [← rz.length]; exact F.len _ _ _ _ q2
  have hb2 := hb s2 ws I2.kIn hl
  refine wpAny_call (codeAny_mono (F.run X.A X.stack s2 H2 ⟨[], ps.zip ws⟩ ws zs T E0 d.room d.gd I2.env0 hb2 rz q2) fun r s' hq => ?_)
  cases r with
  | error e => exact passL pins σ H2 s2 e s' I2 hq
  | ok fl =>
    cases fl with
    | ret u => exact I2.after hq
    | next => exact False.elim hq
    | brk => exact False.elim hq
    | cont => exact False.elim hq
theorem rc_isB {i j : Bool} (q : Q (.bl (decide (i = j))) M) : RC X .Is (.bl i) (.bl j) M Q := fun v w H m r1 r2 => by
  cases r1; cases r2; exact ⟨_, op_isBl, i, j, rfl, rfl, pack (.bl _) m q⟩
theorem rc_notB {i j : Bool} (q : Q (.bl (!decide (i = j))) M) : RC X .IsNot (.bl i) (.bl j) M Q := fun v w H m r1 r2 => by
  cases r1; cases r2; exact ⟨_, op_notBl, i, j, rfl, rfl, pack (.bl _) m q⟩
theorem se_dict0 (q : ∀ p, M p = none → Q (.ptr p) (updM M p (.dK []))) : SE X G (.Dict [] [] pos) env M Q := fun σ H R =>
  ⟨_, pe_dnewK, fun p hp => ⟨.ptr p, _, keep_new hp, .ptr p, R.mem.put (u := .dK []) (keep_new hp) ⟨[], upd_same, .nil⟩, q p (R.mem.free hp)⟩⟩
mutual
inductive Dat (M : Mem) : S → PyData → Prop
  | non : Dat M .non .none
  | bl (b : Bool) : Dat M (.bl b) (.bool b)
  | int (i : Int) : Dat M (.int i) (.int i)
  | str (x : Str) : Dat M (.str x) (.str x)
  | tup {ss : List S} {ds : List PyData} (h : Dats M ss ds) : Dat M (.tup ss) (.tuple ds)
  | lst {p : Addr} {ss : List S} {ds : List PyData} (e : M p = some (.lst ss)) (h : Dats M ss ds) : Dat M (.ptr p) (.list ds)
  | fzl {ss : List S} {ds : List PyData} (h : Dats M ss ds) : Dat M (.fzl ss) (.list ds)
inductive Dats (M : Mem) : List S → List PyData → Prop
  | nil : Dats M [] []
  | cons {s : S} {d : PyData} {ss : List S} {ds : List PyData} (h : Dat M s d) (t : Dats M ss ds) : Dats M (s :: ss) (d :: ds)
end
section
variable {K : PySem.W.Frag} {H : Hp}
mutual
theorem Dat.dp (m : MemR K M H) : ∀ (d : PyData) (s : S) (v : V), Dat M s d → RV K H s v → Dp K H v d
  | .none, _, _, h, r => by cases h; cases r; exact .non
  | .bool b, _, _, h, r => by cases h; cases r; exact .bl b
  | .int i, _, _, h, r => by cases h; cases r; exact .int i
  | .str x, _, _, h, r => by cases h; cases r; exact .str x
  | .tuple ds, _, _, h, r => by
    cases h with
    | tup h => cases r with
      | tup a b => exact .tup a.sq (Dats.dp m ds _ _ h b)
  | .list ds, _, _, h, r => by
    cases h with
    | lst e h =>
      cases r
      obtain ⟨vs, h1, h2⟩ := m _ _ e
      exact .lst (SqL.of h1) (Dats.dp m ds _ _ h h2)
    | fzl h =>
      cases r with
      | fzl a b => exact .lst (FzL.sq (.inl ⟨_, a⟩)) (Dats.dp m ds _ _ h b)
  | .dict _, _, _, h, _ => by cases h
theorem Dats.dp (m : MemR K M H) : ∀ (ds : List PyData) (ss : List S) (vs : List V), Dats M ss ds → RVs K H ss vs → DpAll K H vs ds
  | [], _, _, h, r => by cases h; cases r; exact .nil
  | d :: ds, _, _, h, r => by
    cases h with
    | cons a b => cases r with
      | cons c e => exact .cons (Dat.dp m d _ _ a c) (Dats.dp m ds _ _ b e)
end
end
theorem rc_eqD {s t : S} {d e : PyData} (dn : DN X N sc k) (hd : Dat M s d) (he : Dat M t e) (sd : SeqAt.shaped d = true) (se : SeqAt.shaped e = true) (q : Q (.bl (PyData.eqv d e)) M) : RC X .Eq s t M Q := fun v w H m r1 r2 =>
  ⟨_, op_eqD dn.room.units, d, e, hd.dp m _ _ _ r1, he.dp m _ _ _ r2, sd, se, pack (.bl _) m q⟩
theorem rc_neD {s t : S} {d e : PyData} (dn : DN X N sc k) (hd : Dat M s d) (he : Dat M t e) (sd : SeqAt.shaped d = true) (se : SeqAt.shaped e = true) (q : Q (.bl (!PyData.eqv d e)) M) : RC X .NotEq s t M Q := fun v w H m r1 r2 =>
  ⟨_, op_neD dn.room.units, d, e, hd.dp m _ _ _ r1, he.dp m _ _ _ r2, sd, se, pack (.bl _) m q⟩
end
end Sy

set_option Elab.async false
set_option linter.all false
set_option maxRecDepth 100000
namespace Sy
open PySem PySem.Spec PyProof.Rows L2
section
variable {X : Cx} {G : Hp} {env : Ev} {M : Mem} {D : SD} {Q : QS} {pos : Pos} {N : List Str} {sc : Scope} {k : Nat}
/-- what a comprehension over xs wants -/
def LcW (X : Cx) (G : Hp) (env : Ev) (scope : Scope) (vs : List Nat) (i : Nat) (elt : Expr) (Q : QS) (xs : List S) (Gd : Mem → Prop) (M1 : Mem) : Prop := ∀ D, M1 D = none → ∃ I : Nat → List S → Mem → Prop, I 0 [] (updM M1 D (.lst [])) ∧ (∀ j acc M', M' D = some (.lst acc) → I j acc M' → Gd M') ∧
      (∀ j s acc M', xs[j]? = some s → M' D = some (.lst acc) → I j acc M' → SEb X G scope elt ((wipeE env vs).set i (some s)) M' (LcQ D acc (I (j + 1)))) ∧ ∀ acc M', M' D = some (.lst acc) → I xs.length acc M' → Q (.ptr D) M'
theorem tlc_go {tg elt iter : Expr} {scope : Scope} {vs : List Nat} {i : Nat} {σ : L2.St} {H : Hp} {T : VK} (R : Rel X.K G env M σ H) (h : SI X G tg iter env M (LcW X G env scope vs i elt Q)) (hm : i ∈ vs) (hT : ∀ v H', PostE X H Q v H' → T v H') :
    tLc (tSI X G tg iter) (gName i) tYes (tSEb X G scope elt) vs σ H T := by
  refine ⟨env, M, _, R, h, fun J H1 ⟨xs, Gd, M1, k1, m1, gv, q⟩ D hD => ?_⟩
  obtain ⟨I, i0, ig, turn, fin⟩ := q D (m1.free hD)
  refine ⟨fun j m H' => m = xs.length - j ∧ j ≤ xs.length ∧ ∃ acc M', MemR X.K M' H' ∧ Keep X.K H1 H' ∧ M' D = some (.lst acc) ∧ I j acc M', ⟨xs.length, rfl, Nat.zero_le _, [], _, put_lst m1 hD .nil, keep_new hD, updM_same, i0⟩, ?_⟩
  rintro j m H' ⟨rfl, hj, acc, M', m', k', hMD, hI⟩
  by_cases hlt : j < xs.length
  · refine .inr ⟨gv.go j M' H' m' k' (ig _ _ _ hMD hI) hlt, fun H2 => ∃ acc M', MemR X.K M' H2 ∧ Keep X.K H1 H2 ∧ M' D = some (.lst acc) ∧ I (j + 1) acc M', fun H2 z => ⟨xs.length - (j + 1), by omega, rfl, hlt, z⟩, fun v H'' y => ?_⟩
    obtain ⟨s, es, rs, k2, m2⟩ := gv.yld j M' H' v H'' m' k' (ig _ _ _ hMD hI) hlt y
    have kk := k1.trans (k'.trans k2)
    refine ⟨wipe_set hm, ?_⟩
    dsimp only [tYes]
    rw [if_pos rfl]
    refine ⟨_, M', _, ?_, turn j s acc M' es hMD hI, fun w H3 p => ?_⟩
    · exact (((R.step kk m2).wipe _).set rs i)
    · obtain ⟨us, a1, a2, acc', M3, a3, a4, a5, a6⟩ := lcq_ok (k'.trans k2) p
      exact ⟨us, a1, a2, acc', M3, a3, a4, a5, a6⟩
  · have e : j = xs.length := by omega
    subst e
    exact .inl ⟨gv.stop M' H' m' k' (ig _ _ _ hMD hI), hT _ _ ⟨.ptr D, M', k1.trans k', .ptr D, m', fin acc M' hMD hI⟩⟩
/-- y = [elt for x in iter], y a local name -/
theorem dx_setLc (d : DX X N sc k) (jy : Nat) (i : Nat) {elt iter : Expr} {scope : Scope} {x y : Str} {px py spos : Pos} (hy : loB N sc jy y = true) (hi : (decide (N[i]? = some x) && loS scope x && blkC N sc scope [(x, i)]) = true) (hs : ∀ x, foldedSetIterable iter X.env x = pure x)
    (hl : (py.line == pos.line) = true) (hb : (scope.names.any fun (n, k) => n == y && (k == .local || k == .cell)) = false) (hk : sc.kind = .function)
    (h : SI X G (.Name x px) iter env M fun xs Gd M1 => ∀ D1, M1 D1 = none → ∃ I : Nat → List S → Mem → Prop, I 0 [] (updM M1 D1 (.lst [])) ∧ (∀ j acc M', M' D1 = some (.lst acc) → I j acc M' → Gd M') ∧
      (∀ j s acc M', xs[j]? = some s → M' D1 = some (.lst acc) → I j acc M' → ∀ (s0 : Shared) (H0 : Hp) (C0 : Addr) (cl0 : List (Str × Addr)) (fp0 : List Addr), DN (X.blk s0 H0 scope (compEnvC scope cl0 C0 X.env) fp0) N (blkS sc scope) k → SE (X.blk s0 H0 scope (compEnvC scope cl0 C0 X.env) fp0) G elt (env.set i (some s)) M' (LcQ D1 acc (I (j + 1)))) ∧ ∀ acc M', M' D1 = some (.lst acc) → I xs.length acc M' → D.nx (env.set jy (some (.ptr D1))) M') :
    SS X G (.Assign [.Name y py] (.ListComp elt [⟨.Name x px, iter, [], 0⟩] scope pos) spos) env M D := fun G1 kG σ H R => by
  simp only [Bool.and_eq_true, decide_eq_true_eq] at hi
  obtain ⟨⟨h1, h2⟩, h3⟩ := hi
  have hf : scope.names.lookup x = some .local := by
    unfold loS at h2
    split at h2
    · assumption
    · cases h2
  have hN := d.ndX
  have hix : X.N[i]? = some x := by rw [d.hN]; exact h1
  have hkf : X.env.scope.kind = .function := by rw [d.sc]; exact hk
  refine ⟨_, ps_setLc (own := [(x, i)]) (tt := tYes) (te := tSEb X G scope elt) (g := gName i) d.calm hN (lo_of d hy).1 (lo_of d hy).2 (sw_true hkf (lo_of d hy).2 hl hb) (pi_S (G := G)) (by rw [d.hN, d.sc]; exact blkOk_by h3)
    (fun s H C cl fp => pg_name (X := X.blk s H scope (compEnvC scope cl C X.env) fp) hN hix (.inl (PySem.lookup_relabel_local hf)) (.inr (PySem.lookup_relabel_local hf))) (fun _ _ _ _ _ => pts_nil) (fun _ _ _ _ _ => pe_Sb) hs, ?_⟩
  refine tlc_go (Q := fun s M' => D.nx (env.set jy (some s)) M') (R.weak kG) (fun σ H R => ?_) (by simp) fun v H' ⟨s, M', k1, rv, m', q⟩ => ⟨env.set jy (some s), M', (R.step k1 m').set rv jy, q⟩
  refine ⟨_, pi_S (G := G), env, M, _, R, h, fun J H' ⟨xs, Gd, M1, k1, m1, g1, z⟩ => ⟨xs, Gd, M1, k1, m1, g1, fun D1 hD => ?_⟩⟩
  obtain ⟨I, i0, ig, turn, fin⟩ := z D1 hD
  refine ⟨I, i0, ig, fun j s acc M' e1 e2 e3 => fun s0 H0 C0 cl0 fp0 => ?_, fin⟩
  have t := turn j s acc M' e1 e2 e3 s0 H0 C0 cl0 fp0 d.dn.blk
  have e : (wipeE env ([(x, i)].map (·.2))).set i (some s) = env.set i (some s) := by
    show (env.set i none).set i (some s) = env.set i (some s)
    exact List.set_set ..
  rw [e]
  exact t
end
end Sy

set_option Elab.async false
set_option linter.all false
set_option maxRecDepth 100000
namespace Sy
open PySem PySem.Spec PyProof.Rows L2
section
variable {X : Cx} {G : Hp} {env : Ev} {M : Mem} {D : SD} {Q : QS} {pos : Pos} {st : Stmt} {sts : List Stmt}
theorem sb_cut (R : Ev → Mem → Prop) (h : SS X G st env M { nx := R, rt := D.rt, bk := D.bk, ct := D.ct }) (k : ∀ env' M', R env' M' → SSs X G sts env' M' D) : SSs X G (st :: sts) env M D :=
  sb_cons (ss_le h k (fun _ _ q => q) (fun _ _ q => q) (fun _ _ q => q))
theorem rx_mem {p : Addr} {xs : List S} {i : Int} (hp : M p = some (.lst xs)) (h0 : 0 ≤ i) (h1 : i < xs.length) (q : ∀ s, s ∈ xs → Q s M) : RX X (.ptr p) (.int i) M Q := by
  have hi : i.toNat < xs.length := by omega
  have e : ((i.toNat : Nat) : Int) = i := by omega
  have z : atI xs ((i.toNat : Nat) : Int) = some xs[i.toNat] := atI_nat (List.getElem?_eq_getElem hi)
  rw [e] at z
  exact rx_lst hp z (q _ (List.getElem_mem hi))
theorem atI_in {xs : List S} {i : Int} (h0 : 0 ≤ i) (h1 : i < xs.length) : ∃ s, atI xs i = some s ∧ xs[i.toNat]? = some s ∧ s ∈ xs := by
  have hi : i.toNat < xs.length := by omega
  have e : ((i.toNat : Nat) : Int) = i := by omega
  have z : atI xs ((i.toNat : Nat) : Int) = some xs[i.toNat] := atI_nat (List.getElem?_eq_getElem hi)
  rw [e] at z
  exact ⟨_, z, List.getElem?_eq_getElem hi, List.getElem_mem hi⟩
end
theorem cut_to (xs : List S) (k : Nat) : cutS xs none (some (k : Int)) = xs.take k := by
  unfold cutS
  rw [HT.sIx_none, HT.sIx_nat, List.drop_zero, Nat.sub_zero]
  by_cases h : k ≤ xs.length
  · rw [Nat.min_eq_left h]
  · rw [Nat.min_eq_right (by omega), List.take_length, List.take_of_length_le (by omega)]
theorem cut_from (xs : List S) (k : Nat) : cutS xs (some (k : Int)) none = xs.drop k := by
  unfold cutS
  rw [HT.sIx_none, HT.sIx_nat]
  by_cases h : k ≤ xs.length
  · rw [Nat.min_eq_left h]
    exact List.take_of_length_le (by rw [List.length_drop]; omega)
  · rw [Nat.min_eq_right (by omega), List.drop_length, List.drop_of_length_le (by omega), List.take_nil]
end Sy

set_option Elab.async false
set_option linter.all false
set_option maxRecDepth 100000
namespace Sy
open PySem PySem.Spec PyProof.Rows L2
/-- keys ints or texts, values ints, all constants -/
inductive PPc : List (Option Expr) → List Expr → List (Key × V) → Prop
  | nil : PPc [] [] []
  | int {i v : Int} {a b pa pb ks vs l} (t : PPc ks vs l) : PPc (some (.Constant (.int i) a pa) :: ks) (.Constant (.int v) b pb :: vs) ((Sum.inl i, .int v) :: l)
  | str {i : Str} {v : Int} {a b pa pb ks vs l} (t : PPc ks vs l) : PPc (some (.Constant (.str i) a pa) :: ks) (.Constant (.int v) b pb :: vs) ((Sum.inr i, .int v) :: l)
theorem upd2 {H : Hp} {p : Addr} {a b : HO} : upd (upd H p a) p b = upd H p b := by
  funext x; unfold upd; split <;> rfl
theorem kr_some {K : PySem.W.Frag} {H : Hp} : ∀ {ws : List (Key × V)}, (∀ q, q ∈ ws → ∃ i, q.2 = V.int i) → ∃ ss, KR K H ss ws
  | [], _ => ⟨[], .nil⟩
  | (k, v) :: ws, h => by
    obtain ⟨ss, r⟩ := kr_some (ws := ws) fun q hq => h q (List.mem_cons_of_mem _ hq)
    obtain ⟨i, e⟩ := h (k, v) List.mem_cons_self
    have e : v = V.int i := e
    subst e
    exact ⟨(k, .int i) :: ss, .cons (.int i) r⟩
theorem putK_int {kvs : List (Key × V)} {k : Key} {j : Int} (h : ∀ q, q ∈ kvs → ∃ i, q.2 = V.int i) : ∀ q, q ∈ putK kvs k (V.int j) → ∃ i, q.2 = V.int i := by
  intro q hq
  unfold putK at hq
  split at hq
  · obtain ⟨kv, hkv, rfl⟩ := List.mem_map.mp hq
    split
    · exact ⟨j, rfl⟩
    · exact h kv hkv
  · rcases List.mem_append.mp hq with z | z
    · exact h q z
    · rw [List.mem_singleton.mp z]; exact ⟨j, rfl⟩
theorem mergeK_int : ∀ {more kvs : List (Key × V)}, (∀ q, q ∈ kvs → ∃ i, q.2 = V.int i) → (∀ q, q ∈ more → ∃ i, q.2 = V.int i) → ∀ q, q ∈ mergeK kvs more → ∃ i, q.2 = V.int i
  | [], kvs, h, _ => h
  | (k, v) :: more, kvs, h, h2 => by
    obtain ⟨j, e⟩ := h2 (k, v) List.mem_cons_self
    have e : v = V.int j := e
    subst e
    exact mergeK_int (more := more) (kvs := putK kvs k (.int j)) (putK_int h) fun q hq => h2 q (List.mem_cons_of_mem _ hq)
theorem PPc.ints {ks vs l} (h : PPc ks vs l) : ∀ q, q ∈ l → ∃ i, q.2 = V.int i := by
  induction h with
  | nil => exact fun q hq => nomatch hq
  | int t ih => intro q hq; rcases List.mem_cons.mp hq with rfl | z; exact ⟨_, rfl⟩; exact ih q z
  | str t ih => intro q hq; rcases List.mem_cons.mp hq with rfl | z; exact ⟨_, rfl⟩; exact ih q z
theorem PPc.pps {X : Cx} {pos : Pos} {ks vs l} (h : PPc ks vs l) : ∃ trs, PPs X pos ks vs trs ∧ ∀ σ H (Q : List (V × V) → Hp → Prop), Q (l.map fun kv => (kV kv.1, kv.2)) H → tPairs trs σ H Q := by
  induction h with
  | nil => exact ⟨_, pps_nil, fun σ H Q q => q⟩
  | int t ih =>
    obtain ⟨trs, h1, h2⟩ := ih
    exact ⟨_, pps_cons pe_int pe_int h1, fun σ H Q q => h2 σ H _ q⟩
  | str t ih =>
    obtain ⟨trs, h1, h2⟩ := ih
    exact ⟨_, pps_cons pe_str pe_int h1, fun σ H Q q => h2 σ H _ q⟩
theorem se_dictC {X : Cx} {G : Hp} {env : Ev} {M : Mem} {Q : QS} {pos : Pos} {ks : List (Option Expr)} {vs : List Expr} {l : List (Key × V)} (h : PPc ks vs l) (h0 : ks ≠ []) (h15 : l.length ≤ 15) (hk : ks.length = l.length) (hv : vs.length = l.length) (ha : ks.all (·.isSome) = true)
    (q : ∀ p o, M p = none → Q (.ptr p) (updM M p (.dK o))) : SE X G (.Dict ks vs pos) env M Q := fun σ H R => by
  obtain ⟨trs, h1, h2⟩ := h.pps (X := X) (pos := pos)
  refine ⟨_, pe_disp h1 ha (by omega) h0 (by omega), fun p hp => h2 _ _ _ ?_⟩
  obtain ⟨ss, hs⟩ := kr_some (K := X.K) (H := upd H p (.dK (mergeK [] l))) (mergeK_int (kvs := []) (fun q hq => nomatch hq) h.ints)
  refine ⟨upd_same, l, rfl, h15, .ptr p, updM M p (.dK ss), ?_, .ptr p, ?_, q p ss (R.mem.free hp)⟩
  · rw [upd2]; exact keep_new hp
  · rw [upd2]; exact R.mem.put (u := .dK ss) (keep_new hp) ⟨_, upd_same, hs⟩
end Sy

set_option Elab.async false
set_option linter.all false
set_option maxRecDepth 100000
namespace Sy
open PySem PySem.Spec PyProof.Rows L2
theorem exH_ok {P : Program} {w : World} {H : Hp} {h : Heap} {cls : Value} {d : Option Addr} {a : Addr} {o : Obj} {vs : Array Value} (e : h.get? a = some o) (z : Zc cls d o) (q : o.data = .fields vs) : ObjOk P w H h a (exH cls d a) :=
  ⟨⟨o, vs, e, z, q⟩, ⟨o, e⟩, fun _ _ ⟨o', vs', e', z', q'⟩ k => ⟨o', vs', k o' e', z', q'⟩⟩
section
variable {X : Cx} {pins : List (Addr × Obj)} {σ : L2.St} {H : Hp} {s : Shared}
/-- an object made since the entry is taken into the abstract heap as it stands -/
theorem inv_track {a : Addr} {o : HO} {ob : Obj} (I : Inv X pins σ H s) (ha : s.heap.get? a = some ob) (nc : ∀ v, ob.data ≠ .cell v) (hn : H a = none) (h0 : X.s_0.heap.get? a = none) (nL : a ≠ X.env.locals)
    (np : ∀ p, p ∈ X.pn ++ pins → p.1 ≠ a) (new : ObjOk X.prog X.w (upd H a o) s.heap a o) : Inv X pins σ (upd H a o) s := by
  obtain ⟨i1, i2, i3, ⟨b1, b2, b3, b4, b5, b6, b7⟩, i5, i6, i7, i8, i9, i10, i11⟩ := I
  have old : ∀ b u, H b = some u → upd H a o b = some u := fun b u e => (upd_ne (ne_of_none e hn)).trans e
  have non : ∀ b, b ≠ a → H b = none → upd H a o b = none := fun b e z => (upd_ne e).trans z
  refine ⟨i1, i2, i3, ⟨b1, b2, fun b u e z x => ?_, b4, fun b xs e => old _ _ (b5 b xs e), fun b u xs e => old _ _ (b6 b u xs e), fun b ps e => ?_⟩, i5, i6, non _ (Ne.symm nL) i7, fun x c e => ?_, fun p hp => ?_, HOk.laidN i10 (fun _ _ e => e) hn new, i11⟩
  · exact non b (fun q => by rw [q, h0] at e; cases e) (b3 b u e z x)
  · obtain ⟨more, q⟩ := b7 b ps e
    exact ⟨more, old _ _ q⟩
  · obtain ⟨v, hv⟩ := i6 x c e
    refine non c (fun q => ?_) (i8 x c e)
    subst q
    obtain ⟨oc, hc1, hc2⟩ := hv
    rw [ha] at hc1
    cases hc1
    exact nc v hc2
  · obtain ⟨p1, p2, p3⟩ := i9 p hp
    exact ⟨p1, non _ (np p hp) p2, p3⟩
end
/-- as wAs, the exception kept as it stands behind the suite -/
def wHold (K : PySem.W.Frag) (c : Value) (i : Nat) (ts : Addr → Value → Option Addr → TS) (Wout : WX) (D : Ends) : WX := fun cls d σ H => ∃ b, PySem.W.exmOne K cls c = some b ∧ (b = false → Wout cls d σ H) ∧
  (b = true → ∀ a, H a = none → ts a cls d ⟨fun σ' H' => D.nx (σ'.set i none) (upd H' a (exH cls d a)), fun v H' => D.rt v (upd H' a (exH cls d a)), fun σ' H' => D.bk (σ'.set i none) (upd H' a (exH cls d a)), fun σ' H' => D.ct (σ'.set i none) (upd H' a (exH cls d a))⟩ (σ.set i (some (.ref a))) H)
section
variable {X : Cx} {x n : Str} {c : Value} {i : Nat} {body rest : List Stmt} {st : Stmt} {p1 p2 p3 : Pos} {tb : WX → TS} {ts : Addr → Value → Option Addr → TS} {Wout : WX}
theorem ps_try_hold (stk : X.stack = X.env :: X.outer) (own : X.env.frame = some X.env.locals) (nd : X.N.Nodup) (at_i : X.N[i]? = some n) (loc : X.env.kindOf n = some .local) (nm : Names X x c) (tk : Takes X Wout) (hex : X.ex = [])
    (hb : ∀ (W : WX) (pn : List (Addr × Obj)) (xe : Value → Shared → Prop), Takes (X.tr pn xe) W → PassesOwn (model X.prog X.w) X.A X.env xe → PSs (X.tr pn xe) body (tb W))
    (hsu : ∀ (a : Addr) (oe : Obj) (cls : Value) (d : Option Addr) (pn : List (Addr × Obj)), Zc cls d oe → (∃ vs, oe.data = .fields vs) → PSs (X.suite a ((a, oe) :: pn)) (st :: rest) (ts a cls d)) :
    PS X (.Try body [.ExceptHandler (some (.Name x p1)) (some n) (st :: rest) p2] [] [] p3) (fun D σ H => tb (wHold X.K c i ts Wout D) D σ H) := by
  refine ⟨fun pins s σ H D I h => wpAny_Try_except ?_⟩
  have ok := I.ok
  have frm : X.A.frames = some (X.env :: X.outer) := by rw [ok.frames, stk]
  let cat : Value → Shared → Prop := fun e z => wpAny (model X.prog X.w) X.A (noteFrame e X.env) (fun _ z2 => wpAny (model X.prog X.w) X.A (setFlight e none) (fun _ z3 => wpAny (model X.prog X.w) X.A (handleBy e X.env [.ExceptHandler (some (.Name x p1)) (some n) (st :: rest) p2]) (SP X pins D) X.xe z3) X.xe z2) X.xe z
  have caught : Takes (X.tr (X.pn ++ pins) cat) (wHold X.K c i ts Wout D) := fun u s' z => by
    obtain ⟨a, B, sI, qs, σ1, H1, cls, d, rfl, JI, nb, up, sky, na, os, ag, b, eb, hno, hyes⟩ := z
    have J : Inv X pins σ1 H1 sI := JI.ofTry ok
    have sky1 : Sky B (X.env :: X.outer) a (Zc cls d) X.env.locals s'.heap := by rw [← stk]; exact sky
    show wpAny (model X.prog X.w) X.A (noteFrame (.ref a) X.env) _ _ _
    refine Sky.land Zc.steady frm own sky1 fun h3 fl up3 => ?_
    have aB : B.get? a = none := fl.2.1
    have J3 : Inv X pins σ1 H1 { s' with heap := h3 } := J.landed nb fl.1 (up.trans up3) os ag
    obtain ⟨o3, v3, g3, z3, d3⟩ := fl.there
    have off : a ∉ frs (X.env :: X.outer) := fun hm => by
      obtain ⟨_, o', e', q⟩ := fl.2.2.1.mem hm
      rw [g3] at e'; cases e'
      exact q _ d3
    have offL : a ≠ X.env.locals := fun q => off (List.mem_filterMap.mpr ⟨X.env, .head _, own.trans (congrArg some q.symm)⟩)
    have offF : a ∉ X.fs := fun hm => by
      obtain ⟨e, he, q⟩ := List.mem_filterMap.mp hm
      exact off (List.mem_filterMap.mpr ⟨e, .tail _ he, q⟩)
    have newI : sI.heap.get? a = none := by
      cases q : sI.heap.get? a with
      | none => rfl
      | some o => rw [nb a o q (by rw [stk]; exact off)] at aB; cases aB
    have new0 : X.s_0.heap.get? a = none := by
      cases q : X.s_0.heap.get? a with
      | none => rfl
      | some o =>
        obtain ⟨o', q'⟩ := J.base.there a o q (by rw [hex]; exact List.not_mem_nil)
        rw [newI] at q'; cases q'
    have offP : ∀ q, q ∈ X.pn ++ pins → q.1 ≠ a := fun q hq e => by
      have := (J.pin q hq).1
      rw [e, newI] at this; cases this
    have S3 := J3.suite g3 d3 na offL offF
    refine wpAny_handleBy_cons (codeAny_handlers_test ?_) (by intro q; cases q)
    have named : ∀ {Q E : Value → Shared → Prop}, Q c { s' with heap := h3 } → wpAny (model X.prog X.w) (X.A.mark (some (.ref a))) (eval (.Name x p1) X.env) Q E { s' with heap := h3 } := fun {Q E} q => by
      obtain ⟨g, dbg, m | ⟨m, v, nn⟩⟩ := nm
      · exact ld_glob (X := X.suite a ((a, o3) :: (X.pn ++ pins))) S3 g m q dbg
      · exact ld_blt (X := X.suite a ((a, o3) :: (X.pn ++ pins))) S3 g m v q nn dbg
    have looks : PySem.W.Looks (model X.prog X.w) h3 (typeOf (.ref a)) cls := fun A Q E s k q => wpAny_typeOf_ref (k _ _ g3) (by rw [z3.1]; exact q)
    refine named ((PySem.W.exm_one (M := model X.prog X.w) J3.kIn looks eb).here ?_)
    cases b with
    | false =>
      show wpAny _ X.A (handleBy (.ref a) X.env []) _ _ _
      refine wpAny_handleBy_nil ?_
      obtain ⟨_, _, _, oe, vs, T, _, _, he, _, hd, q1, _⟩ := id fl
      unfold PySem.passOn
      refine wpAny_bind (wpAny_field he hd q1 ?_)
      rw [if_neg (show ¬ ((Value.ref T == Value.none) = true) by simp)]
      have out : wpAny (model X.prog X.w) X.A (setFlight (.ref a) X.env.frame) (fun _ z => wpAny (model X.prog X.w) X.A (throw (.ref a) : Sem Flow) (SP X pins D) X.xe z) X.xe { s' with heap := h3 } := by
        rw [own]
        exact HandSPX.setFlight_upZ fl fun h4 held up4 => wpAny_throw (tk _ _ ⟨a, B, sI, pins, σ1, H1, cls, d, rfl, J, nb, (up.trans up3).trans up4, .inr (.inr (by rw [stk]; exact held)), na, os, ag, hno rfl⟩)
      first
        | exact wpAny_bind (wpAny_pure (wpAny_bind out))
        | exact wpAny_bind out
    | true =>
      refine codeAny_handlers_suite_as (HandSPX.lands_againZ fl fun h4 fl4 up4 => ?_)
      have J4 : Inv X pins σ1 H1 { s' with heap := h4 } := J.landed nb fl4.1 ((up.trans up3).trans up4) os ag
      obtain ⟨o4, v4, g4, z4, d4⟩ := fl4.there
      refine store_ok (X := X.suite a ((a, o4) :: (X.pn ++ pins))) (v := .ref a) (J4.suite g4 d4 na offL offF) nd at_i (.inl loc) rfl (fun s5 S5 => ?_) (.inr loc)
      refine wpAny_mono ((hsu a o4 cls d (X.pn ++ pins) z4 ⟨_, d4⟩).run [] s5 _ H1 _ S5 (hyes rfl a na)) (fun f s6 sp => ?_) (fun _ _ z => z.elim)
      have close : ∀ {σ6 : L2.St} {H6 : Hp} {R : Shared → Prop}, Inv (X.suite a ((a, o4) :: (X.pn ++ pins))) [] σ6 H6 s6 → (∀ s7, Inv X pins (σ6.set i none) (upd H6 a (exH cls d a)) s7 → R s7) →
          wpAny (model X.prog X.w) X.A (do bindName X.env n .none; unbindBehindTheSuite X.env n p2) (fun _ s7 => R s7) X.xe s6 := fun {σ6 H6 R} S6 k => by
        obtain ⟨e6, n6, _⟩ := S6.pin (a, o4) (List.mem_append_left _ (.head _))
        refine gone_ok (inv_track (S6.unsuite ok) e6 (fun v z => ?_) n6 new0 offL offP (exH_ok e6 z4 d4)) nd at_i loc k
        rw [d4] at z; cases z
      cases f with
      | next => obtain ⟨σ6, H6, S6, q⟩ := sp; exact close S6 fun s7 J7 => ⟨_, _, J7, q⟩
      | brk => obtain ⟨σ6, H6, S6, q⟩ := sp; exact close S6 fun s7 J7 => ⟨_, _, J7, q⟩
      | cont => obtain ⟨σ6, H6, S6, q⟩ := sp; exact close S6 fun s7 J7 => ⟨_, _, J7, q⟩
      | ret u => obtain ⟨v, σ6, H6, S6, r, q⟩ := sp; exact close S6 fun s7 J7 => ⟨_, _, _, J7, r, q⟩
  refine wpAny_mono ((hb (wHold X.K c i ts Wout D) (X.pn ++ pins) cat caught PassesOwn.looking).run [] s σ H D (I.toTry _) h) (fun f s1 sp => ?_) (fun e s1 z => z)
  cases f with
  | next => obtain ⟨σ1, H1, J, q⟩ := sp; exact wpAny_execs_nil ⟨σ1, H1, J.ofTry ok, q⟩
  | brk => obtain ⟨σ1, H1, J, q⟩ := sp; exact ⟨σ1, H1, J.ofTry ok, q⟩
  | cont => obtain ⟨σ1, H1, J, q⟩ := sp; exact ⟨σ1, H1, J.ofTry ok, q⟩
  | ret u => obtain ⟨v, σ1, H1, J, r, q⟩ := sp; exact ⟨v, σ1, H1, J.ofTry ok, r, q⟩
end
end Sy

set_option Elab.async false
set_option linter.all false
set_option maxRecDepth 100000
namespace Sy
open PySem PySem.Spec PyProof.Rows L2
/-- what is asked of the table of an exception class -/
structure ExT (K : PySem.W.Frag) (C : Addr) : Prop where
  fld : XfC K C
  val : PySem.W.findIn K (.ref C) "value" = some none
  cl : (PySem.W.clsIn K C).isSome = true
  at_ : PySem.W.findIn K (.ref C) "__class__" = some (some (.builtin "object.__class__"))
  ds : PySem.W.specialIn K (.builtin "object.__class__") "__get__" = some (some (.builtin "getset_descriptor.__get__"))
  tk : PySem.W.takesIn K (.builtin "object.__class__") = some true
  mr : PySem.W.mroIn K C (.type "object") = some true
section
variable {X : Cx} {pins : List (Addr × Obj)} {σ : L2.St} {H : Hp} {s : Shared}
theorem exn_inst {a d C : Addr} {fs : List (Str × V)} (I : Inv X pins σ H s) (ha : H a = some (exH (.ref C) (some d) a)) (hd : H d = some (.xd fs)) :
    ∃ oe od, PySem.W.InstAt s.heap a oe C (some od) ∧ ∀ n v, fs.lookup n = some v → ∃ u, PySem.W.lookIn n od = some (some u) ∧ RelV v u := by
  obtain ⟨⟨oe, vs, e, z, q⟩, _⟩ := (show ObjOk X.prog X.w H s.heap a (exH (.ref C) (some d) a) from I.hok a _ ha)
  obtain ⟨mA, names, rel⟩ := (show ObjOk X.prog X.w H s.heap d (.xd fs) from I.hok d _ hd)
  obtain ⟨od, at_d, looks⟩ := lookIn_ns names
  refine ⟨oe, od, ⟨e, z.1, by unfold PySem.W.notCls; rw [q] <;> rfl, by rw [z.2]; exact at_d⟩, fun n v l => ?_⟩
  obtain ⟨u, eu, ru⟩ := RelO.some_of (o := mA n) (l ▸ rel n)
  exact ⟨u, by rw [looks, eu], ru⟩
/-- e.value of a kept exception -/
theorem pe_kept {e : Expr} {te : TE} {pos : Pos} {n : Str} (he : PE X e te) (hb : attributeBase e n X.env (eval e X.env) = eval e X.env := by rfl) :
    PE X (.Attribute e n pos) (fun σ H Q => te σ H fun x H1 => ∃ a d C fs v, x = .ref a ∧ H1 a = some (exH (.ref C) (some d) a) ∧ H1 d = some (.xd fs) ∧ XfC X.K C ∧ PySem.W.findIn X.K (.ref C) n = some none ∧ fs.lookup n = some v ∧ Q v H1) := by
  refine ⟨fun pins s σ H Q I h => attr_of hb (thn (he.run pins s σ H _ I h) fun u s1 z => ?_)⟩
  obtain ⟨x, H1, I1, rx, a, d, C, fs, v, rfl, ha, hd, T, hno, l, q⟩ := z
  obtain rfl : u = Value.ref a := rx
  obtain ⟨oe, od, J, k⟩ := exn_inst I1 ha hd
  obtain ⟨w, hw, rw'⟩ := k n v l
  exact HandSPX.exc_get I1.kIn J T.ga T.gg T.exC (PySem.W.findObj_own T.hdC hno rfl hw) (handed_of rw') ⟨v, H1, I1.tok _, rw', q⟩
/-- isinstance of a kept exception -/
theorem call_isiE : CallR X (.builtin "isinstance") (fun xs H Q => ∃ a d C fs c t b, xs = [.ref a, c] ∧ H a = some (exH (.ref C) (some d) a) ∧ H d = some (.xd fs) ∧ ExT X.K C ∧ ClsV c t ∧ PySem.W.kitOne X.K (.ref C) t = some b ∧ Q (.bl b) H) := by
  intro pins s σ H xs us Q I r h
  obtain ⟨a, d, C, fs, c, t, b, rfl, ha, hd, T, k, e, q⟩ := h
  obtain ⟨u1, u2, rfl, r1, r2⟩ := vals2 r
  have e2 := k.eq r2
  subst e2
  cases (show u1 = Value.ref a from r1)
  obtain ⟨oe, od, J, _⟩ := exn_inst I ha hd
  exact PySem.W.kia_one (PySem.W.kitx_exc T.cl T.fld.ga T.fld.gg T.fld.exC T.at_ T.ds T.tk T.mr) I.kIn J e (by simp) fun tk => ⟨.bl b, H, I.tok tk, rfl, q⟩
end
end Sy

set_option Elab.async false
set_option linter.all false
set_option maxRecDepth 100000
namespace Sy
open PySem PySem.Spec PyProof.Rows L2
theorem EnvR.len {K : PySem.W.Frag} {H : Hp} : ∀ {es : List (Option S)} {os : List (Option V)}, EnvR K H es os → es.length = os.length
  | _, _, .nil => rfl
  | _, _, .nah t => congrArg (· + 1) (EnvR.len t)
  | _, _, .yea _ t => congrArg (· + 1) (EnvR.len t)
section
variable {X : Cx} {G : Hp} {env : Ev} {M : Mem} {D : SD} {Q : QS} {e : Expr} {pos : Pos}
/-- e.value -/
theorem se_value (h : SE X G e env M fun s M1 => ∃ C s', s = .exn (.ref C) s' ∧ ExT X.K C ∧ Q s' M1) (hb : attributeBase e "value" X.env (eval e X.env) = eval e X.env := by rfl) : SE X G (.Attribute e "value" pos) env M Q := fun σ H R =>
  ⟨_, pe_kept pe_S hb, tS_go R h fun s M1 v H1 k1 rv R1 ⟨C, s', es, T, q⟩ => by
    subst es
    cases rv with
    | @exn a d _ _ v h1 h2 h3 => exact ⟨a, d, C, _, v, rfl, h1, h2, T.fld, T.val, rfl, s', M1, k1, h3, R1.mem, q⟩⟩
/-- isinstance(e, a class of the program) -/
theorem rb_isE {C c : Addr} {s : S} {b : Bool} (T : ExT X.K C) (k : PySem.W.kitOne X.K (.ref C) (.ref c) = some b) (hc : ClsV (.ref c) (.ref c)) (q : Q (.bl b) M) : RB X (.builtin "isinstance") [.exn (.ref C) s, .ptr c] M Q := fun vs H m r => by
  obtain ⟨v, w, rfl, r1, r2⟩ := rvs2 r
  cases r2
  cases r1 with
  | @exn a d _ _ v h1 h2 h3 => exact ⟨_, call_isiE, a, d, C, _, .ref c, .ref c, b, rfl, h1, h2, T, hc, k, pack (.bl b) m q⟩
/-- try: body / except x as n: m = n -/
theorem ss_keep {x n m : Str} {cX : Value} {i j : Nat} {body : List Stmt} {p1 p2 p3 p4 p5 p6 : Pos} (stk : X.stack = X.env :: X.outer) (own : X.env.frame = some X.env.locals) (nd : X.N.Nodup) (hex : X.ex = []) (hi : X.N[i]? = some n) (hj : X.N[j]? = some m)
    (ln : X.env.scope.names.lookup n = some .local) (lm : X.env.scope.names.lookup m = some .local) (kn : X.env.kindOf n = some .local) (nm : Names X x cX) (hij : i ≠ j) (hv : Vis X.env.scope n) (hd : (n == ("__debug__" : Str)) = false) (hcd : (n == ("__classdict__" : Str)) = false)
    (hs : swapsWith (.Name n p5) (some (.Name m p4)) p6.line X.env = pure false)
    (h : ∀ G1, Keep X.K G G1 → ∀ (pn : List (Addr × Obj)) (xe : Value → Shared → Prop), PassesOwn (model X.prog X.w) X.A X.env xe → Wish (X.tr pn xe) G1 (fun env' c s M' => i < env'.length ∧ PySem.W.exmOne X.K (.ref c) cX = some true ∧ D.nx ((env'.set j (some (.exn (.ref c) s))).set i none) M') → SSs (X.tr pn xe) G1 body env M D) :
    SS X G (.Try body [.ExceptHandler (some (.Name x p1)) (some n) [.Assign [.Name m p4] (.Name n p5) p6] p2] [] [] p3) env M D := fun G1 kG σ H R => by
  refine ⟨_, ps_try_hold (Wout := fun _ _ _ _ => False) (ts := fun _ _ _ => tAsg (tVar i) (gName j)) (tb := fun W D' σ' H' => ∃ env' M' D2, Rel X.K G1 env' M' σ' H' ∧ (∀ (pn : List (Addr × Obj)) (xe : Value → Shared → Prop), PassesOwn (model X.prog X.w) X.A X.env xe → Takes (X.tr pn xe) W → SSs (X.tr pn xe) G1 body env' M' D2) ∧ DLe (Dr X G1 D2) D')
    stk own nd hi kn nm (fun u s' z => by obtain ⟨_, _, _, _, _, _, _, _, _, _, _, _, _, _, _, _, w⟩ := z; exact w.elim) hex (fun W pn xe tk pw => ⟨fun pins s σ H D' I z => ?_⟩) (fun a oe cls d pn _ _ => pss_one (ps_set (i := j) nd hj (.inl lm) (pe_var (i := i) hi hv hd hcd) hs (.inr lm))), ?_⟩
  · obtain ⟨env', M', D2, r, hb, le⟩ := z
    obtain ⟨t, p, ht⟩ := hb pn xe pw tk G1 Keep.refl σ H r
    exact thn (p.run pins s σ H _ I ht) fun u s1 q => sp_le le q
  · refine ⟨env, M, D, R, fun pn xe pw tk => h G1 kG pn xe pw ⟨_, tk, ?_⟩, DLe.refl⟩
    rintro env' M' σ' H' c s d v R' ⟨li, eb, q⟩ hd' rv
    refine ⟨true, eb, (fun z => nomatch z), fun _ a ha => ?_⟩
    have hiσ : i < σ'.length := by rw [← R'.env.len]; exact li
    refine ⟨.ref a, by rw [List.getElem?_set_self hiσ], ?_⟩
    have k2 : Keep X.K H' (upd H' a (exH (.ref c) (some d) a)) := keep_new ha
    have r2 : RV X.K (upd H' a (exH (.ref c) (some d) a)) (.exn (.ref c) s) (.ref a) := .exn upd_same ((upd_ne (ne_of_none hd' ha)).trans hd') (rv.up k2)
    refine ⟨(env'.set j (some (.exn (.ref c) s))).set i none, M', ⟨R'.base.trans k2, ?_, fun p o e => (R'.mem p o e).up k2 (upd_ne fun z => (R'.mem p o e).there (by rw [z]; exact ha))⟩, q⟩
    have e1 := ((R'.env.up k2).forget (o := some (.ref a)) i).set r2 j
    have e2 := e1.forget (o := none) i
    have e3 : ((env'.set i none).set j (some (S.exn (.ref c) s))).set i none = (env'.set j (some (S.exn (.ref c) s))).set i none := by
      rw [List.set_comm _ _ hij, List.set_set]
    rw [e3] at e2
    exact e2
end
/-- a def's body in a tried context -/
theorem DX.tr {X : Cx} {N : List Str} {sc : Scope} {k : Nat} {pn : List (Addr × Obj)} {xe : Value → Shared → Prop} (d : DX X N sc k) (pw : PassesOwn (model X.prog X.w) X.A X.env xe) : DX (X.tr pn xe) N sc k := ⟨d.hN, d.sc, d.calm, d.nd, d.room, d.gd, pw, d.fn⟩
end Sy

set_option Elab.async false
set_option linter.all false
set_option maxRecDepth 100000
set_option maxHeartbeats 2000000
namespace PySem
namespace ShX
open PySem.W PySem.Calls PyProof.Rows PySem.HandSPX
def iA (p1 p2 : Pos) : Arguments := { posonlyargs := [], args := [{ arg := "self", annotation := none, pos := p1 }, { arg := "value", annotation := none, pos := p2 }], vararg := none, kwonlyargs := [], kw_defaults := [], kwarg := none, defaults := [] }
def iB (q1 q2 q3 q4 : Pos) : List Stmt := [.Assign [.Attribute (.Name "self" q1) "value" q2] (.Name "value" q3) q4]
def iS : Scope := { kind := .function, names := [(PySem.Str.ofString "self", .local), (PySem.Str.ofString "value", .local)], isGenerator := false, isCoroutine := false, more := [] }
/-- what the written part says of Low, at C, and of its __init__, at fI -/
structure ShTxt (K : Frag) (mg : Str → Option Value) (cn : Str) (C fI : Addr) : Prop where
  gC : mg cn = some (.ref C)
  cls : ∃ nm q N bs bm sn sub ab col dd k0 k1 k2 k3 k5, K.lookup C = some (excClassObj nm q C N bs bm true sn sub ab col dd k0 k1 k2 k3 k5 "ValueError.__new__") ∧ refsVE bm = true
  sa : findIn K (.ref C) "__setattr__" = some (some (.builtin "object.__setattr__"))
  ga : findIn K (.ref C) "__getattribute__" = some (some (.builtin "BaseException.__getattribute__"))
  gg : findIn K (.ref C) "__getattr__" = some none
  noN : findIn K (.ref C) "value" = some none
  iC : findIn K (.ref C) "__init__" = some (some (.ref fI))
  tC : typeIn K (.ref fI) = some (.type "function")
  kC : keepIn K (.ref C) = true
  exC : subIn K (.ref C) (.type "BaseException") = some true
  tyC : typeIn K (.ref C) = some (.type "type")
  hdC : hasDictIn K C = true
  te : exmOne K (.ref C) (.ref C) = some true
  fn : ∃ (oc : Value) (od : Option Addr) (doc pm : Value) (an : Option Addr) (cdv ct : Value) (osl : Array (Option Value)) (p1 p2 q1 q2 q3 q4 : Pos),
    K.lookup fI = some ⟨oc, od, .func (fnOf "__init__" "SheetError.__init__" (iA p1 p2) (iB q1 q2 q3 q4) iS .none .none doc pm an cdv ct), osl⟩ ∧ codeIn K cdv "SheetError.__init__" = true
theorem one_size (v : Value) : [v].length ≤ sizeLine := by
  rw [sizeLine_eq]
  exact (by decide : 1 ≤ 16777216)
theorem kept_but {K : Frag} {h h' : Heap} {x : Addr} (X : K.In h) (hx : K.lookup x = none) (k : ∀ b o, b ≠ x → h.get? b = some o → h'.get? b = some o) : K.In h' := fun a o e =>
  k a o (fun z => by rw [z, hx] at e; cases e) (X a o e)
theorem ldC {M : Model} {s : Shared} {name : Str} {scope : Scope} {L a : Addr} {cd : Value} {m : Str → Option Value} {x : Str} {pos : Pos} {v : Value} {Q : Value → Shared → Prop} {A : Around} {E : Value → Shared → Prop} (hn : s.heap.Ns L m) (hv : m x = some v) (h : Q v s)
    (hk : scope.kind = .function := by rfl) (hl : (envOfC name scope L a cd).kindOf x = some .local := by rfl) (hd : (x == ("__debug__" : Str)) = false := by decide) :
    wpAny M A (eval (.Name x pos) (envOfC name scope L a cd)) Q E s := wpAny_Name (wpAny_loadName_local hk hl hn hv h) hd
/-- what __init__ leaves of a fresh exception at x -/
structure InitEnd (h h' : Heap) (x C dx t1 : Addr) (v : Value) : Prop where
  keep : ∀ b o, b ≠ x → h.get? b = some o → h'.get? b = some o
  obj : h'.get? x = some { cls := .ref C, dict := some dx, data := .fields #[.ref t1, .none, .none, .none, .bool false, .none] }
  dbig : h.objs.size ≤ dx
  dne : dx ≠ x
  ns : h'.Ns1 dx (fun y => if y = "value" then some v else none)
/-- a made Low -/
structure OwnMade (h h' : Heap) (e C d : Addr) (v : Value) : Prop where
  keep : ∀ b o, h.get? b = some o → h'.get? b = some o
  new : h.objs.size ≤ e
  obj : ∃ oe vs, h'.get? e = some oe ∧ oe.cls = .ref C ∧ oe.dict = some d ∧ oe.data = .fields vs ∧ vs[1]? = some .none
  dbig : h.objs.size ≤ d
  dne : d ≠ e
  ns : h'.Ns1 d (fun y => if y = "value" then some v else none)
section
variable {prog : Program} {w : World} {A : Around} {E : Value → Shared → Prop} {R : Result → Shared → Prop} {s : Shared} {K : Frag} {mg : Str → Option Value} {cn : Str} {C fI : Addr}
theorem sh_init (T : ShTxt K mg cn C fI) {x t0 : Addr} {v : Value} (X : K.In s.heap) (hlim : s.heap.NoLimit) (hx : s.heap.get? x = some (excO C t0)) (hnx : K.lookup x = none) (hroom : A.depth < recursionLimit)
    (hq : ∀ h' tk dx, InitEnd s.heap h' x C dx t0 v → R (.ok (.ret .none)) { s with heap := h', toks := tk }) :
    codeAny (model prog w) A (.call (.ref fI) ⟨[.ref x, v], []⟩) R s := by
  obtain ⟨oc, od, doc, pm, an, cdv, ct, osl, p1, p2, q1, q2, q3, q4, ho, hcd⟩ := T.fn
  obtain ⟨nm, q, N, bs, bm, sn, sub, ab, col, dd, k0, k1, k2, k3, k5, hC, hbm⟩ := T.cls
  have hcl : clsIn K C = some { name := nm, bases := bs, mro := .ref C :: bm, ns := N, qualname := q, hasDict := true, slotNames := sn, subclasses := sub, abstract := ab, collection := col, hasDel := false } := by unfold clsIn; rw [hC] <;> rfl
  refine Att.call_fn (binds := [("self", .ref x), ("value", v)]) X hlim ho hcd hroom (BindsTo.of_eq (by first | rfl | with_unfolding_all rfl)) (by first | rfl | decide | with_unfolding_all rfl) (fun s₁ IC => ?_) rfl rfl rfl
  obtain ⟨h₁, tk₁, rfl⟩ := IC.toInCall.same
  have k : ∀ b o, s.heap.get? b = some o → h₁.get? b = some o := IC.toInCall.keep
  have hn := IC.toInCall.ns
  have hxL : s.heap.objs.size ≠ x := Nat.ne_of_gt (Heap.lt_size hx)
  have X₁ : K.In h₁ := X.keeps k
  have hx₁ := k _ _ hx
  -- self.by = by
  show wpAny _ _ (execs _ _) _ _ _
  refine wpAny_execs_cons (plainObj_wpAny_Assign_Attribute ?_)
  refine ldC (v := v) hn (by first | rfl | with_unfolding_all rfl | kernel_rfl) (ldC (v := .ref x) hn (by first | rfl | with_unfolding_all rfl | kernel_rfl) ?_)
  refine set_plain X₁ (ox := excO C t0) (od := none) ⟨hx₁, rfl, rfl, trivial⟩ T.sa ?_
  refine exc_osa X₁ hx₁ hcl (show refsVE (.ref C :: bm) = true from hbm) rfl T.noN (fun h₃ tk₃ dx k₃ dn dne hx₃ hn₃ => ?_)
  show wpAny _ _ (execs _ _) _ _ _
  have z : s.heap.objs.size < h₁.objs.size := hn.lt
  exact wpAny_execs_nil (hq h₃ tk₃ dx ⟨fun b o hb e => k₃ b o hb (k b o e), hx₃, Nat.le_of_lt (Nat.lt_of_lt_of_le z dn), dne, hn₃⟩)
theorem sh_made (T : ShTxt K mg cn C fI) {v : Value} (X : K.In s.heap) (hlim : s.heap.NoLimit) (hroom : A.depth + 1 < recursionLimit)
    (hq : ∀ h' tk e d, OwnMade s.heap h' e C d v → R (.ok (.ret (.ref e))) { s with heap := h', toks := tk }) :
    codeAny (model prog w) A (.call (.ref C) ⟨[v], []⟩) R s := by
  obtain ⟨nm, q, N, bs, bm, sn, sub, ab, col, dd, k0, k1, k2, k3, k5, hC, hbm⟩ := T.cls
  obtain ⟨hp, g, dr, tk, os⟩ := s
  have k : ∀ b o, hp.get? b = some o → ((hp.push (kdv_tup [v])).push (excO C hp.objs.size)).get? b = some o := fun b o e => Heap.get?_push_of_some _ (Heap.get?_push_of_some _ e)
  have hget : ((hp.push (kdv_tup [v])).push (excO C hp.objs.size)).get? (hp.objs.size + 1) = some (excO C hp.objs.size) := by heap_get
  have hnx : K.lookup (hp.objs.size + 1) = none := by
    cases e : K.lookup (hp.objs.size + 1) with
    | none => rfl
    | some o =>
      have z : hp.get? (hp.objs.size + 1) = some o := X _ _ e
      exact absurd (Nat.lt_of_succ_lt (Heap.lt_size z)) (Nat.lt_irrefl _)
  refine call_own F.excBase_ValueError (fun X => refsVE_contains X bm hbm) (X _ _ hC) (looks_findIn X T.iC) (fun self => bind_fn X self T.tC) (one_size v) ?_
  refine sh_init (s := ⟨(hp.push (kdv_tup [v])).push (excO C hp.objs.size), g, dr, tk, os⟩) T (X.keeps k) (hlim.keeps k) hget hnx ?_ fun h' tk' dx ⟨k', hx, dn, dne, hns⟩ => ?_
  · show A.depth + 1 < recursionLimit
    exact hroom
  · have old : ∀ b o, hp.get? b = some o → h'.get? b = some o := fun b o e => k' b o (Nat.ne_of_lt (Nat.lt_succ_of_lt (Heap.lt_size e))) (k b o e)
    have z : hp.objs.size + 1 + 1 ≤ dx := by
      first
        | (simpa only [Heap.size_push] using dn)
        | exact dn
        | (have q := dn; rw [Heap.size_push, Heap.size_push] at q; exact q)
    exact ⟨rfl, hq h' tk' (hp.objs.size + 1) dx ⟨old, Nat.le_succ _, ⟨_, _, hx, rfl, rfl, rfl, rfl⟩, Nat.le_trans (Nat.le_trans (Nat.le_succ _) (Nat.le_succ _)) z, dne, hns⟩⟩
end
end ShX
end PySem
namespace L2
open PySem PySem.Spec PyProof.Rows
theorem relO_val {v : V} {v' : Value} (r : RelV v v') (f : Str) : RelO (List.lookup f [(("value" : Str), v)]) (if f = "value" then some v' else none) := by
  by_cases hw : f = "value"
  · subst hw
    rw [if_pos rfl]
    have q : List.lookup ("value" : Str) [(("value" : Str), v)] = some v := by simp [List.lookup]
    rw [q]
    exact r
  · rw [if_neg hw]
    have qw : (f == ("value" : Str)) = false := by simpa using hw
    have q2 : List.lookup f [(("value" : Str), v)] = none := by simp [List.lookup, qw]
    rw [q2]
    trivial
section
variable {X : Cx} {cn : Str} {C fI : Addr}
/-- Low(e) -/
def tMkSh (C : Addr) (ta : TA) : L2.St → Hp → XK → Prop := fun σ H Q => ta σ H fun vs H1 => ∃ v, vs = [v] ∧ ∀ d, H1 d = none → Q (.ref C) (some d) (upd H1 d (.xd [(("value" : Str), v)]))
theorem pmk_sh {a : Expr} {ta : TA} {p pos : Pos} {k : Nat} (T : PySem.ShX.ShTxt X.K X.mg cn C fI) (hr : Room k X.A) (ha : PA X [a] ta) (hg : Gl X cn) (hdb : (cn == ("__debug__" : Str)) = false)
    (he : starEach (a :: []) X.env = (false, eval a X.env) :: starEach [] X.env := by rfl) (hpl : (backTo pos (starEach [] X.env)).any (·.1) = false := by rfl) :
    PMk X (.Call (.Name cn p) [a] [] pos) (tMkSh C ta) := by
  intro pins s σ H Q I h
  refine wpAny_Call_Name_kw (ld_glob I hg T.gC ?_ hdb)
  refine PySem.W.callWith_K (h₀ := X.base) I.ok.mod.kin T.kC (thn (ha.run pos pins s σ H _ I h) fun us s1 hh => ?_) he hpl
  obtain ⟨vs, H1, I1, r1, v, ev, q1⟩ := hh
  subst ev
  refine ⟨I1.kIn, ?_⟩
  cases r1 with
  | cons rv rn =>
    rename_i v' us'
    cases rn
    show wpAny _ _ (call (.ref C) [v']) _ _ _
    have hlim := I1.nolimit
    obtain ⟨hp, g, dr, tk, os⟩ := s1
    refine wpAny_call (PySem.ShX.sh_made T I1.kIn hlim (by have := hr.dp; omega) fun h' tk' e d M => ?_)
    show MkP X pins σ Q (.ref e) ⟨h', g, dr, tk', os⟩
    obtain ⟨oe, fv, hoe, hc, hd, hdat, h1⟩ := M.obj
    have hns := M.ns
    obtain ⟨G', g1, g2⟩ := restrict h' fun b => decide (b ≠ e)
    have gk : ∀ b, b ≠ e → G'.get? b = h'.get? b := fun b hb => g1 b (decide_eq_true hb)
    have ge : G'.get? e = none := g2 e (by simp)
    have old : ∀ b o, hp.get? b = some o → G'.get? b = some o := fun b o q => (gk b (Nat.ne_of_lt (Nat.lt_of_lt_of_le (Heap.lt_size q) M.new))).trans (M.keep b o q)
    have ob : ObjOk X.prog X.w (upd H1 d (.xd [(("value" : Str), v)])) G' d (.xd [(("value" : Str), v)]) :=
      ⟨_, hns.at (fun o q => (gk d M.dne).trans q), fun f => relO_val rv f⟩
    have J : Inv X pins σ (upd H1 d (.xd [(("value" : Str), v)])) ⟨G', g, dr, tk', os⟩ := I1.laid (t' := tk') old M.dbig ob
    refine ⟨e, oe, fv, ⟨G', g, dr, tk', os⟩, _, .ref C, some d, rfl, J, fun b o q => ?_, ge, hoe, ⟨hc, hd⟩, hdat, h1, ?_, rfl, I1.bare, raises_own T.exC T.tyC, q1 d (I1.hok.fresh M.dbig)⟩
    · by_cases hb : b = e
      · have q' : G'.get? b = some o := q
        rw [hb, ge] at q'; cases q'
      · exact (gk b hb).symm.trans q
    · rw [upd_ne (Ne.symm M.dne)]
      exact I1.hok.fresh M.new
/-- raise Low(e) -/
def tRaiseSh (C : Addr) (W : WX) (ta : TA) : TS := fun _ σ H => tMkSh C ta σ H fun cls d H' => W cls d σ H'
theorem ps_raiseSh {a : Expr} {ta : TA} {W : WX} {p pos pos2 : Pos} {k : Nat} (hc : X.calm = true) (T : PySem.ShX.ShTxt X.K X.mg cn C fI) (hr : Room k X.A) (tk : Takes X W) (ha : PA X [a] ta) (hg : Gl X cn) (hdb : (cn == ("__debug__" : Str)) = false)
    (he : starEach (a :: []) X.env = (false, eval a X.env) :: starEach [] X.env := by rfl) (hpl : (backTo pos (starEach [] X.env)).any (·.1) = false := by rfl) :
    PS X (.Raise (some (.Call (.Name cn p) [a] [] pos)) none pos2) (tRaiseSh C W ta) := ps_raise hc tk (pmk_sh T hr ha hg hdb he hpl)
end
end L2
namespace Sy
open PySem PySem.Spec PyProof.Rows L2
/-- raise x(a) -/
theorem ss_raise {X : Cx} {G : Hp} {env : Ev} {M : Mem} {D : SD} {x : Str} {a : Expr} {C fI : Addr} {k : Nat} {p pos pos2 : Pos} {Z : Ev → Addr → S → Mem → Prop} (T : PySem.ShX.ShTxt X.K X.mg x C fI) (hc : X.calm = true) (hr : Room k X.A) (hz : Wish X G Z) (hg : Gl X x) (hdb : (x == ("__debug__" : Str)) = false)
    (h : SE X G a env M fun s M1 => Z env C s M1) (he : starEach (a :: []) X.env = (false, eval a X.env) :: starEach [] X.env := by rfl) (hpl : (backTo pos (starEach [] X.env)).any (·.1) = false := by rfl) : SS X G (.Raise (some (.Call (.Name x p) [a] [] pos)) none pos2) env M D := fun G1 kG σ H R => by
  obtain ⟨W, tk, hW⟩ := hz
  refine ⟨_, ps_raiseSh hc T hr tk (pa_cons (te := tS X G a) pe_S pa_nil he) hg hdb he hpl, ?_⟩
  refine tS_at kG R h fun s M' v H' k1 rv R' q => ⟨v, rfl, fun d hd => ?_⟩
  have k2 : Keep X.K H' (upd H' d (.xd [(("value" : Str), v)])) := keep_new hd
  exact hW env M' σ _ C s d v ⟨(kG.trans R'.base).trans k2, R'.env.up k2, fun p o e => (R'.mem p o e).up k2 (upd_ne fun z => (R'.mem p o e).there (by rw [z]; exact hd))⟩ q upd_same (rv.up k2)
end Sy

set_option Elab.async false
set_option linter.all false
set_option maxRecDepth 100000
namespace Sy
open PySem PySem.Spec PyProof.Rows L2
structure DE (X : Cx) : Prop where
  stk : X.stack = X.env :: X.outer
  own : X.env.frame = some X.env.locals
  ex : X.ex = []
  kf : X.env.scope.kind = .function
section
variable {P : Program} {w : World} {K : PySem.W.Frag} {mg : Str → Option Value} {base : Heap}
theorem def_okE {x qual : Str} {st : Stmt} {f : Addr} {fd : FuncData} {N ps : List Str} {k : Nat} {C : Con} (F : Fun K x qual st f fd) (S1 : FnScope N ps (defScope st)) (len : ∀ ss M Q E, C ss M Q E → ss.length = ps.length)
    (body : ∀ (X : Cx) (G : Hp), X.prog = P → X.w = w → X.K = K → X.mg = mg → X.base = base → DX X N (defScope st) k → DE X → ∀ ss M Q E, C ss M Q E → Wish X G (fun _ c s M => E c s M) → SSs X G (defBody st) (startE N ss) M { nx := fun _ M' => Q .non M', rt := Q }) :
    FnOk P w K mg base (L2.CX P w) (k + 1) f fd ps (SpC K C) := by
  refine fn_by F S1 (fun vs H Q E h => ?_) (fun cdv A outer s H vs Q E hr hg h => ?_)
  · obtain ⟨ss, M, Q', E', r, _, hc, _⟩ := h
    rw [← r.length]
    exact len _ _ _ _ hc
  · obtain ⟨ss, M, Q', E', r, m, hc, hq, he⟩ := h
    have d : DX (cxOf (L2.CX P w) P w K mg base N qual (defScope st) f cdv A outer s H E) N (defScope st) k := ⟨rfl, rfl, rfl, S1.nd, hr, hg, passes_of rfl, fun _ => rfl⟩
    have de : DE (cxOf (L2.CX P w) P w K mg base N qual (defScope st) f cdv A outer s H E) := ⟨rfl, rfl, rfl, S1.kind⟩
    have wi : Wish (cxOf (L2.CX P w) P w K mg base N qual (defScope st) f cdv A outer s H E) H (fun _ c s M => E' c s M) := ⟨_, takes_of rfl rfl rfl rfl, fun env M σ H' c s d v R z hd rv => he c s M d v H' R.base hd rv R.mem z⟩
    have en : EnvR K H (startE N ss) (L2.start N vs) := by
      unfold L2.start startE
      rw [← r.length]
      exact EnvR.of ss r _
    refine ⟨_, pss_S, _, _, _, _, Keep.refl, ⟨Keep.refl, en, m⟩, fun G1 kG σ1 H1 R1 => body _ H rfl rfl rfl rfl rfl d de ss M Q' E' hc wi G1 kG σ1 H1 R1, ⟨fun σ' H' ⟨v, M', R', q⟩ => hq _ _ _ _ R'.base .non R'.mem q, fun v H' ⟨s, M', k', rv, m', q⟩ => hq _ _ _ _ k' rv m' q, fun _ _ ⟨_, _, _, z⟩ => z.elim, fun _ _ ⟨_, _, _, z⟩ => z.elim⟩⟩
end
end Sy

set_option Elab.async false
set_option linter.all false
set_option maxRecDepth 100000
namespace Sy
open PySem PySem.Spec PyProof.Rows L2
theorem exm_of {K : PySem.W.Frag} {C S : Addr} (h1 : PySem.W.subIn K (.ref S) (.type "BaseException") = some true) (h2 : PySem.W.isClsIn K S = true) (h3 : PySem.W.typeIn K (.ref S) = some (.type "type")) (h4 : PySem.W.subIn K (.ref C) (.ref S) = some true) : PySem.W.exmOne K (.ref C) (.ref S) = some true := by
  have a1 : (PySem.W.subIn K (.ref S) (.type "BaseException") == some true) = true := by rw [h1] <;> rfl
  have a2 : ((PySem.W.clsIn K S).isSome && PySem.W.typeIn K (.ref S) == some (.type "type")) = true := by
    have z : (PySem.W.clsIn K S).isSome = true := h2
    rw [z, h3] <;> rfl
  unfold PySem.W.exmOne
  rw [if_pos a1]
  unfold PySem.W.kitCls
  dsimp only
  rw [if_pos a2]
  exact h4
/-- the text of SheetError.__init__, as each law's text has it -/
abbrev shFn (doc pm : Value) (an : Option Addr) (cdv ct : Value) : FuncData := PySem.W.fnOf "__init__" "SheetError.__init__" (PySem.ShX.iA ⟨4, 17, 4, 21⟩ ⟨4, 23, 4, 28⟩) (PySem.ShX.iB ⟨5, 8, 5, 12⟩ ⟨5, 8, 5, 18⟩ ⟨5, 21, 5, 26⟩ ⟨5, 8, 5, 26⟩) PySem.ShX.iS .none .none doc pm an cdv ct
/-- a class of the program below SheetError, at hand -/
structure ExcTab (K : PySem.W.Frag) (cn : Str) (C S : Addr) : Prop where
  nm : PySem.W.nsIn K mainGlobals cn = some (some (.ref C))
  txt : ∀ mg : Str → Option Value, mg cn = some (.ref C) → ∃ fI, PySem.ShX.ShTxt K mg cn C fI
  tab : ExT K C
  exm : PySem.W.exmOne K (.ref C) (.ref S) = some true
theorem exc_mk {K : PySem.W.Frag} {cn : Str} {C S fI : Addr} {nm q : Str} {N : Addr} {bs bm : List Value} {sn : List Str} {sub : List Value} {ab : Bool} {col : Option Bool} {dd : Option Addr} {m0 m1 m2 m3 m5 : Option Value} {od an : Option Addr} {sl : Array (Option Value)} {oc dc pm cd ct : Value}
    (aC : PySem.W.nsIn K mainGlobals cn = some (some (.ref C))) (xL : K.lookup C = some (PySem.excClassObj nm q C N bs bm true sn sub ab col dd m0 m1 m2 m3 m5 "ValueError.__new__")) (rf : PySem.HandSPX.refsVE bm = true)
    (sa : PySem.W.findIn K (.ref C) "__setattr__" = some (some (.builtin "object.__setattr__"))) (ga : PySem.W.findIn K (.ref C) "__getattribute__" = some (some (.builtin "BaseException.__getattribute__"))) (gg : PySem.W.findIn K (.ref C) "__getattr__" = some none) (nb : PySem.W.findIn K (.ref C) "value" = some none)
    (a1 : PySem.W.findIn K (.ref C) "__init__" = some (some (.ref fI))) (t1 : PySem.W.typeIn K (.ref fI) = some (.type "function")) (l1 : K.lookup fI = some ⟨oc, od, .func (shFn dc pm an cd ct), sl⟩) (c1 : PySem.W.codeIn K cd "SheetError.__init__" = true)
    (kC : PySem.W.keepIn K (.ref C) = true) (eC : PySem.W.subIn K (.ref C) (.type "BaseException") = some true) (tC : PySem.W.typeIn K (.ref C) = some (.type "type")) (hC : PySem.W.hasDictIn K C = true) (iC : PySem.W.isClsIn K C = true) (sC : PySem.W.subIn K (.ref C) (.ref C) = some true)
    (eS : PySem.W.subIn K (.ref S) (.type "BaseException") = some true) (iS : PySem.W.isClsIn K S = true) (tS : PySem.W.typeIn K (.ref S) = some (.type "type")) (sS : PySem.W.subIn K (.ref C) (.ref S) = some true)
    (ac : PySem.W.findIn K (.ref C) "__class__" = some (some (.builtin "object.__class__"))) (ds : PySem.W.specialIn K (.builtin "object.__class__") "__get__" = some (some (.builtin "getset_descriptor.__get__"))) (tk : PySem.W.takesIn K (.builtin "object.__class__") = some true) (mr : PySem.W.mroIn K C (.type "object") = some true) : ExcTab K cn C S where
  nm := aC
  txt := fun mg h => ⟨fI, { gC := h, cls := ⟨nm, q, N, bs, bm, sn, sub, ab, col, dd, m0, m1, m2, m3, m5, xL, rf⟩, sa := sa, ga := ga, gg := gg, noN := nb, iC := a1, tC := t1, kC := kC, exC := eC, tyC := tC, hdC := hC, te := exm_of eC iC tC sC, fn := ⟨_, _, _, _, _, _, _, _, _, _, _, _, _, _, l1, c1⟩ }⟩
  tab := ⟨⟨ga, gg, eC, hC⟩, nb, iC, ac, ds, tk, mr⟩
  exm := exm_of eS iS tS sS
end Sy

set_option Elab.async false
set_option linter.all false
namespace Sy
open PySem PySem.Spec PyProof.Rows L2
theorem nm_of {X : Cx} {N : List Str} {sc : Scope} {k : Nat} (d : DN X N sc k) (i : Nat) (x : Str) (h : nmB N sc i x = true) : nmB N sc i x = true := h
theorem glf {X : Cx} {N : List Str} {sc : Scope} {k : Nat} (d : DN X N sc k) (x : Str) (h : glB sc x = true) : glB sc x = true := h
theorem map_erase {α β : Type} (f : α → β) : ∀ (xs : List α) (i : Nat), (xs.map f).eraseIdx i = (xs.eraseIdx i).map f
  | [], _ => rfl
  | _ :: _, 0 => rfl
  | x :: xs, i + 1 => by
    show f x :: (xs.map f).eraseIdx i = f x :: (xs.eraseIdx i).map f
    rw [map_erase f xs i]
end Sy

set_option Elab.async false
set_option linter.all false
set_option maxRecDepth 100000
namespace Sy
open PySem PySem.Spec PyProof.Rows L2
theorem dx_keep {X : Cx} {G : Hp} {env : Ev} {M : Mem} {D : SD} {N : List Str} {sc : Scope} {k : Nat} {x n m : Str} {cS : Addr} {body : List Stmt} {p1 p2 p3 p4 p5 p6 : Pos} (d : DX X N sc k) (de : DE X) (i j : Nat) (hi : loB N sc i n = true) (hj : loB N sc j m = true) (hij : i ≠ j)
    (hg : glB sc x = true) (hm : X.mg x = some (.ref cS)) (hdb : (x == ("__debug__" : Str)) = false) (hd : (n == ("__debug__" : Str)) = false) (hcd : (n == ("__classdict__" : Str)) = false)
    (hs : swapsWith (.Name n p5) (some (.Name m p4)) p6.line X.env = pure false)
    (h : ∀ G1, Keep X.K G G1 → ∀ (pn : List (Addr × Obj)) (xe : Value → Shared → Prop), DX (X.tr pn xe) N sc k → Wish (X.tr pn xe) G1 (fun env' c s M' => i < env'.length ∧ PySem.W.exmOne X.K (.ref c) (.ref cS) = some true ∧ D.nx ((env'.set j (some (.exn (.ref c) s))).set i none) M') → SSs (X.tr pn xe) G1 body env M D) :
    SS X G (.Try body [.ExceptHandler (some (.Name x p1)) (some n) [.Assign [.Name m p4] (.Name n p5) p6] p2] [] [] p3) env M D := by
  obtain ⟨hi1, hi2⟩ := lo_of d hi
  obtain ⟨hj1, hj2⟩ := lo_of d hj
  exact ss_keep de.stk de.own d.ndX de.ex hi1 hj1 hi2 hj2 hi2 ⟨gl_of d.dn hg, hdb, .inl hm⟩ hij (.inl hi2) hd hcd hs fun G1 kG pn xe pw wi => h G1 kG pn xe (d.tr pw) wi
end Sy

set_option Elab.async false
set_option linter.all false
set_option maxRecDepth 100000
namespace Sy
open PySem PySem.Spec PyProof.Rows L2
theorem turn_long {P : Program} {w : World} {K : PySem.W.Frag} {tg : Expr} (it : Addr) (lo : Int) (n : Nat) : Turn P w K tg (Itr lo n) [it] it (fun i h => IsLongIter h it (lo + (i : Nat) * 1) ((n : Int) - (i : Nat)) 1) where
  mem := by simp
  obj := fun i h st b hb => by
    have e : b = it := by simpa using hb
    subst e
    exact ⟨_, st, fun v z => by
      have z' : Data.fields _ = Data.cell v := z
      cases z'⟩
  keep := fun i h h' st k => k it (by simp) _ st
  item := by
    intro X hP hw hK hc i pins s σ H E I hf st hg
    subst hP hw hK
    obtain ⟨f0, f1, f2, f3, f4, f5⟩ := hf it (by simp)
    have W := Walks.longrange (prog := X.prog) (w := X.w) (I.ok.hd hc) it lo 1 n
    refine W.item i s _ _ hg st fun v h' tk hv st' kk => ?_
    obtain ⟨t, rfl⟩ := hv
    have I1 : Inv X pins σ H { s with heap := h', toks := tk } := I.turned (fun b o hb e => kk b o (by simpa using hb) e) f0 f1 f3 f4 f5
    refine ⟨_, rfl, go_of (s := { s with heap := h', toks := tk }) (n := "longrange_iterator") st' rfl rfl (by decide) ⟨.int (lo + i), H, I1, ⟨t, ?_⟩, ⟨rfl, rfl⟩, st', fun b hb => (hf b hb).1⟩⟩
    rw [Int.mul_one]
  done := by
    intro X hP hw hK hc i pins s σ H E I hf st hg
    subst hP hw hK
    obtain ⟨f0, f1, f2, f3, f4, f5⟩ := hf it (by simp)
    exact wpAny_pyNext_long_end (I.ok.hd hc) st (by have : n ≤ i := hg; omega) fun h' eb => ⟨rfl, I.turned (t' := s.toks) (fun b o hb e => eb b o hb e) f0 f1 f3 f4 f5⟩
  self := fun _ _ _ _ _ st h => wpAny_pyIter_longiter st h
section
variable {X : Cx} {tg : Expr}
theorem range_itB {pins : List (Addr × Obj)} {σ : L2.St} {H : Hp} {s : Shared} {R : It → Hp → Prop} {E : Value → Shared → Prop} {lo hi : Int} {t u v : Tok} {tk : Nat} (I : Inv X pins σ H s)
    (q : R (Itr lo (hi - lo).toNat) H) : wpAny (model X.prog X.w) X.A (pyIter (.ref s.heap.objs.size)) (PIE X pins σ tg R) E { s with heap := s.heap.push { cls := .type "range", data := .fields #[.int lo t, .int hi u, .int 1 v] }, toks := tk } := by
  have I1 : Inv X pins σ H { s with heap := s.heap.push { cls := .type "range", data := .fields #[.int lo t, .int hi u, .int 1 v] }, toks := tk } := I.kept fun b o e => Heap.get?_push_of_some _ e
  have e1 : lo + ((0 : Nat) : Int) * 1 = lo := by simp
  have e2 : (((hi - lo).toNat : Nat) : Int) - ((0 : Nat) : Int) = Builtin.Range.rangeSize lo hi 1 := by rw [rangeSize_one]; split <;> omega
  have fin : ∀ b, b ∈ [(s.heap.push { cls := .type "range", data := .fields #[.int lo t, .int hi u, .int 1 v] }).objs.size] → FpOk X pins H b := fun b hb => by
    have e : b = (s.heap.push { cls := .type "range", data := .fields #[.int lo t, .int hi u, .int 1 v] }).objs.size := by simpa using hb
    subst e
    exact I1.fpOk (Nat.le_refl _) (I1.hok.fresh (Nat.le_refl _))
  by_cases hs : Builtin.Range.small lo hi 1 = true
  · refine wpAny_pyIter_range (IsRange.new ..) hs ?_
    refine ⟨(s.heap.push { cls := .type "range", data := .fields #[.int lo t, .int hi u, .int 1 v] }).objs.size, [(s.heap.push { cls := .type "range", data := .fields #[.int lo t, .int hi u, .int 1 v] }).objs.size], _, _, H, rfl,
      I1.kept (t' := tk) fun b o e => Heap.get?_push_of_some _ e, turn_range _ lo (hi - lo).toNat, ?_, fin, q⟩
    show IsRangeIter _ _ (lo + ((0 : Nat) : Int) * 1) ((((hi - lo).toNat : Nat) : Int) - ((0 : Nat) : Int)) 1
    rw [e1, e2]
    exact Heap.get?_push_size _ rfl
  · refine wpAny_pyIter_longrange (IsRange.new ..) (by simpa using hs) ?_
    refine ⟨(s.heap.push { cls := .type "range", data := .fields #[.int lo t, .int hi u, .int 1 v] }).objs.size, [(s.heap.push { cls := .type "range", data := .fields #[.int lo t, .int hi u, .int 1 v] }).objs.size], _, _, H, rfl,
      I1.kept (t' := tk) fun b o e => Heap.get?_push_of_some _ e, turn_long _ lo (hi - lo).toNat, ?_, fin, q⟩
    show IsLongIter _ _ (lo + ((0 : Nat) : Int) * 1) ((((hi - lo).toNat : Nat) : Int) - ((0 : Nat) : Int)) 1
    rw [e1, e2]
    exact Heap.get?_push_size _ rfl
def iRng2B (ta : TA) : TI := fun σ H R => ta σ H fun vs H1 => ∃ i j : Int, vs = [.int i, .int j] ∧ R (Itr i (j - i).toNat) H1
theorem pi_range2B {a b : Expr} {ta : TA} {p pos : Pos} (hg : Gl X "range") (hm : X.mg "range" = none) (ha : PA X [a, b] ta) (hs : starEach [a, b] X.env = [(false, eval a X.env), (false, eval b X.env)] := by rfl) (hs2 : starEach [b] X.env = [(false, eval b X.env)] := by rfl) :
    PI X tg (.Call (.Name "range" p) [a, b] [] pos) (iRng2B ta) := by
  refine ⟨fun pins s σ H R I h => ?_⟩
  refine Call_ (ld_blt I hg hm boot_range (PyProof.Rows.callWith_type1 (thn (ha.run pos pins s σ H _ I h) fun us s1 ⟨vs, H1, I1, r1, q1⟩ => ?_) (by rw [hs, hs2]) (by rw [hs2]; rfl)))
  obtain ⟨i, j, e, q⟩ := q1
  subst e
  cases r1 with
  | cons r rr =>
    cases rr with
    | cons r' rr =>
      cases rr
      obtain ⟨t, rfl⟩ := r
      obtain ⟨t', rfl⟩ := r'
      exact call_range_2 (range_itB I1 q)
end
theorem si_range2B {X : Cx} {G : Hp} {env : Ev} {M : Mem} {tg a b : Expr} {p pos : Pos} {Q : List S → (Mem → Prop) → Mem → Prop} (hg : Gl X "range") (hm : X.mg "range" = none) (h : SE X G a env M fun s M1 => SE X G b env M1 fun s2 M2 => ∃ (i : Int) (n : Nat), s = .int i ∧ s2 = .int (i + n) ∧ Q (rgS i n) (fun _ => True) M2)
    (hs : starEach [a, b] X.env = [(false, eval a X.env), (false, eval b X.env)] := by rfl) (hs2 : starEach [b] X.env = [(false, eval b X.env)] := by rfl) : SI X G tg (.Call (.Name "range" p) [a, b] [] pos) env M Q := fun σ H R =>
  ⟨_, pi_range2B hg hm (pa_cons (te := tS X G a) pe_S (pa_cons (te := tS X G b) pe_S pa_nil hs2) (by rw [hs, hs2])) hs hs2, tS_go R h fun s M1 v H1 k1 rv R1 q1 => tS_go R1 q1 fun s2 M2 v2 H2 k2 rv2 R2 ⟨i, n, e1, e2, q⟩ => by
    subst e1 e2
    cases rv
    cases rv2
    have e : (i + (n : Int) - i).toNat = n := by omega
    refine ⟨i, i + n, rfl, ?_⟩
    rw [e]
    exact ⟨_, _, M2, k1.trans k2, R2.mem, gives_rg, q⟩⟩
end Sy

set_option Elab.async false
set_option linter.all false
set_option maxRecDepth 100000
namespace Sy
open PySem PySem.Spec PyProof.Rows L2
section
variable {P : Program} {w : World} {K : PySem.W.Frag} {mg mb : Str → Option Value} {k : Nat} {fa a : Addr} {fd : FuncData} {x : Str} {sp : Sp} {s1 : Shared} {vs : List Value} {ns : List Int}
/-- the script as an object of its own -/
abbrev scrO (vs : List Value) : Obj := { cls := .type "list", data := .seq vs.toArray }
theorem end_core (H : Hp) (KX : K.In s1.heap) (hns : s1.heap.Ns mainGlobals mg) (hb : s1.heap.Ns builtinsNs mb) (hbb : ∀ x : Str, x ≠ "__name__" → mb x = bootBuiltins x) (hlim : s1.heap.NoLimit) (hg : s1.gens = #[]) (ha : s1.heap.get? a = some (scrO vs)) (hr : Room k callerA)
    (F : ∀ base : Heap, K.In base → base.Ns mainGlobals mg → FnOk P w K mg base (L2.CX P w) k fa fd [x] sp) (bnd : ∀ (s : Shared) (u : Value), BindsTo s fd ⟨[u], []⟩ [(x, u)]) (only : Only H) (ok : HOk P w H s1.heap) (hA : ∀ b, H b ≠ none → b = a) (hK : H a ≠ none → K.lookup a = none)
    (hsp : sp [.ref a] H (fun v _ => v = .bl true) fun _ _ _ => False) : codeAny (model P w) callerA (.call (.ref fa) ⟨[.ref a], []⟩) (fun r s2 => r = .ok (.ret (.bool true)) ∧ OldK s1.heap s2.heap ∧ s2.os = s1.os ∧ AllBare s2.gens) s1 := by
  have none_of : ∀ {b : Addr}, b ≠ a → H b = none := fun {b} ne => Classical.byContradiction fun z => ne (hA b z)
  have low : ∀ {b : Addr} {o : Obj}, s1.heap.get? b = some o → H b = none → (hidT s1.heap H).get? b = some o := fun e z => hidT_get e z
  have dict_no : ∀ {b : Addr} {o : Obj} {es : Array DictEntry} {ep : Nat}, s1.heap.get? b = some o → o.data = .dict es ep → H b = none := by
    intro b o es ep e d
    refine none_of fun z => ?_
    rw [z, ha] at e
    cases e
    exact nomatch d
  have names : ∀ {b : Addr} {m : Str → Option Value}, s1.heap.Ns b m → (hidT s1.heap H).Ns b m := by
    rintro b m ⟨o, es, ep, e, d, r⟩
    exact ⟨o, es, ep, low e (dict_no e d), d, r⟩
  have inB : K.In (hidT s1.heap H) := fun b o e => low (KX b o e) (Classical.byContradiction fun z => by
    have eb := hA b z
    rw [eb] at e z
    exact absurd (hK z) (by rw [e]; exact fun q => nomatch q))
  obtain ⟨mc, lim1, lim2⟩ := hlim
  have md : Mod K mg (hidT s1.heap H) := ⟨inB, names hns, ⟨mb, names hb, hbb⟩, ⟨mc, names lim1, lim2⟩⟩
  have e0 : Env0 P w K mg (hidT s1.heap H) callerA [] s1 H := ⟨rfl, md, fun _ _ e => of_hidT e, Nat.le_of_eq (hidT_size _ _), True.intro, (fun _ z => nomatch z), ok, .of_eq hg⟩
  refine codeAny_mono ((F _ inB (names hns)).run callerA [] s1 H ⟨[.ref a], []⟩ [.ref a] [.ref a] _ _ hr rfl e0 (bnd s1 (.ref a)) (.cons rfl .nil) hsp) ?_
  intro r s2 z
  match r, z with
  | .error e, z =>
    obtain ⟨_, _, _, _, _, _, _, _, _, _, _, _, q⟩ := z
    exact q.elim
  | .ok .next, z => exact z.elim
  | .ok .brk, z => exact z.elim
  | .ok .cont, z => exact z.elim
  | .ok (.ret u), z =>
    obtain ⟨v, H2, os, bare, un, ok2, rv, q⟩ := z
    cases (show v = V.bl true from q)
    cases (show u = Value.bool true from rv)
    refine ⟨rfl, OldK.of_keep (fun b o e => ?_), os, bare⟩
    cases hb : H b with
    | none => exact un.keep b o e hb (fun z => nomatch z) (fun z => nomatch z)
    | some u =>
      rcases only b with z | ⟨ob, xs, z⟩
      · rw [z] at hb; cases hb
      · have f1 := (ok b _ z).1
        have f2 := (ok2 b _ (un.frzs b ob _ z)).1
        rw [e] at f1
        cases f1
        exact f2
theorem end_call (KX : K.In s1.heap) (hns : s1.heap.Ns mainGlobals mg) (hb : s1.heap.Ns builtinsNs mb) (hbb : ∀ x : Str, x ≠ "__name__" → mb x = bootBuiltins x) (hlim : s1.heap.NoLimit) (hg : s1.gens = #[]) (ha : s1.heap.get? a = some (scrO vs)) (hi : IntsAre vs ns) (hl : ns.length ≤ sizeLine) (hr : Room k callerA)
    (F : ∀ base : Heap, K.In base → base.Ns mainGlobals mg → FnOk P w K mg base (L2.CX P w) k fa fd [x] sp) (bnd : ∀ (s : Shared) (u : Value), BindsTo s fd ⟨[u], []⟩ [(x, u)])
    (hsp : ∀ H : Hp, Only H → SqL K H a (ns.map V.int) → sp [.ref a] H (fun v _ => v = .bl true) fun _ _ _ => False) : codeAny (model P w) callerA (.call (.ref fa) ⟨[.ref a], []⟩) (fun r s2 => r = .ok (.ret (.bool true)) ∧ OldK s1.heap s2.heap ∧ s2.os = s1.os ∧ AllBare s2.gens) s1 := by
  have rv := vals_ints hi
  cases own : K.lookup a with
  | some o =>
    have same := KX a o own
    rw [ha] at same
    cases same
    have on : Only (fun _ => none) := fun _ => .inl rfl
    have sq : SqL K (fun _ => none) a (ns.map V.int) := .inr ⟨_, vs.toArray, _, own, rfl, rfl, rfl, by rw [List.size_toArray, hi.length]; exact hl, by simpa using rv⟩
    exact end_core _ KX hns hb hbb hlim hg ha hr F bnd on (fun b u z => nomatch z) (fun b z => absurd rfl z) (fun z => absurd rfl z) (hsp _ on sq)
  | none =>
    let H : Hp := fun b => if b = a then some (.frz (scrO vs) (.lst (ns.map V.int))) else none
    have at_a : H a = some (.frz (scrO vs) (.lst (ns.map V.int))) := if_pos rfl
    have off : ∀ {b}, b ≠ a → H b = none := fun ne => if_neg ne
    have on : Only H := fun b => by
      by_cases e : b = a
      · subst e; exact .inr ⟨_, _, at_a⟩
      · exact .inl (off e)
    have ok : HOk P w H s1.heap := fun b u z => by
      by_cases e : b = a
      · subst e
        rw [at_a] at z
        cases z
        exact ⟨ha, by rw [List.length_map]; exact hl, vs, _, rv, ha⟩
      · rw [off e] at z; cases z
    exact end_core H KX hns hb hbb hlim hg ha hr F bnd on ok (fun b z => Classical.byContradiction fun ne => z (off ne)) (fun _ => own) (hsp H on (.inl (.inr ⟨_, at_a⟩)))
end
theorem walk_g {l : PySem.W.OpenLaw} {n k : Nat} {q : Program} {loose : List Str} {XP : (Str → Option Value) → Heap → Prop} {YP : World → Heap → Prop} {d : DefRec} {K : Params → PySem.W.Frag} {sp : World → Sp} {x : Str} (hn : l.most = some n) (hn2 : n ≤ sizeLine) (hdf : d.params.defaults = []) (hr : Room k callerA)
    (hY : ∀ (w : World) (h : Heap), YP w h → (K w.params).In h)
    (F : ∀ (w : World) (mg : Str → Option Value) (fa : Addr) (h : Heap), (K w.params).In h → h.Ns mainGlobals mg → mg d.name = some (.ref fa) → ∃ fd : FuncData, (∀ (s : Shared) (u : Value), BindsTo s fd ⟨[u], []⟩ [(x, u)]) ∧ ∀ base : Heap, (K w.params).In base → base.Ns mainGlobals mg → FnOk l.prog w (K w.params) mg base (L2.CX l.prog w) k fa fd [x] (sp w))
    (hsp : ∀ (w : World) (H : Hp) (a : Addr) (ns : List Int), ns.length ≤ n → (∀ z ∈ ns, Builtin.Int.intBits z ≤ 1048576) → Only H → SqL (K w.params) H a (ns.map V.int) → sp w [.ref a] H (fun v _ => v = .bl true) fun _ _ _ => False) :
    PySem.W.WalkO q loose XP YP l.row.toRowW d [] (fun f vs => PySem.call f vs) :=
  Att.attach_callB hn hdf fun w s₀ s₁ mg mb fa o pm cd doc a vs ns G Y _ _ _ hmg hobj hints hlen hbits hg => by
    have inK := hY w _ Y
    obtain ⟨fd, bnd, ok⟩ := F w mg fa _ inK G.T.g hmg
    exact end_call inK G.T.g G.T.b G.T.builtins G.T.nolimit hg hobj hints (Nat.le_trans hlen hn2) hr ok bnd fun H on sq => hsp w H a ns hlen hbits on sq
end Sy

set_option Elab.async false
set_option linter.all false
set_option maxRecDepth 100000
namespace Sy
open PySem PySem.Spec PyProof.Rows L2
theorem call_reprD {X : Cx} (gd : X.A.guards = some []) (hu : X.A.units + 64 < cLine) : CallR X (.builtin "repr") (fun xs H Q => ∃ v d, xs = [v] ∧ Dp X.K H v d ∧ d.showable = true ∧ d.hasDict = false ∧ d.depth ≤ 60 ∧ d.shown.length ≤ sizeLine ∧ Q (.str d.shown) H) := by
  intro pins s σ H xs us Q I r h
  obtain ⟨v, d, rfl, hd, hs, hn, hdp, hl, q⟩ := h
  obtain ⟨u, rfl, ru⟩ := vals1 r
  have done : ∀ (t : Tok) (tk : Nat) (h' : Heap), (∀ b o, s.heap.get? b = some o → h'.get? b = some o) → EP X pins σ Q (.str d.shown t) { s with heap := h', toks := tk } := fun t tk h' hk => ⟨.str d.shown, H, I.kept (t' := tk) hk, ⟨t, rfl⟩, q⟩
  cases hd with
  | non => cases ru; exact P.repr_of_none (done _ _ _ fun _ _ e => e)
  | bl b => cases ru; exact P.repr_of_bool (done _ _ _ fun _ _ e => e)
  | int i =>
    obtain ⟨t, rfl⟩ := ru
    exact P.repr_of_int (by simpa [PyData.showable] using hs) (done _ _ _ fun _ _ e => e)
  | str x =>
    obtain ⟨t, rfl⟩ := ru
    exact P.repr_of_str (done _ _ _ fun _ _ e => e) hl
  | @lst a xs ds h1 h2 =>
    obtain ⟨as, rd⟩ := Dp.reads I _ _ u (.lst h1 h2) ru
    cases (show u = Value.ref a from ru)
    exact repr_of_reads' rd hs (PyData.noDict_hsm hn) gd (by omega) (fun _ _ e => e) (fun h' t tk hk => done t tk h' hk) hl
  | @tup a xs ds h1 h2 =>
    obtain ⟨as, rd⟩ := Dp.reads I _ _ u (.tup h1 h2) ru
    cases (show u = Value.ref a from ru)
    exact repr_of_reads' rd hs (PyData.noDict_hsm hn) gd (by omega) (fun _ _ e => e) (fun h' t tk hk => done t tk h' hk) hl
theorem bf_repr : bootBuiltins "repr" = some (.builtin "repr") := by decide +kernel
theorem sa_star {X : Cx} {G : Hp} {env : Ev} {M : Mem} {e : Expr} {es : List Expr} {p : Pos} {Q : List S → Mem → Prop} (h : SE X G e env M fun s M1 => ∃ xs, ItS M1 s xs ∧ SA X G es env M1 fun ys M2 => Q (xs ++ ys) M2) (hs : starEach (.Starred e p :: es) X.env = (true, eval e X.env) :: starEach es X.env := by rfl) : SA X G (.Starred e p :: es) env M Q := fun σ H R =>
  ⟨_, StX.pa_star (te := tS X G e) pe_S (pa_S (G := G)) hs, tS_go R h fun s M1 v H1 k1 rv R1 ⟨xs, it, q1⟩ => by
    obtain ⟨a, us, rfl, hq, ru⟩ := its_get (X := X) it R1.mem rv
    refine ⟨a, us, rfl, hq.symm, tSA_go R1 q1 fun ys M2 ws H2 k2 rws R2 q2 => ?_⟩
    exact ⟨xs ++ ys, M2, k1.trans k2, (ru.up k2).append rws, R2.mem, q2⟩⟩
end Sy

set_option Elab.async false
set_option linter.all false
set_option maxRecDepth 100000
namespace Sy
open PySem PySem.Spec PyProof.Rows L2
section
variable {X : Cx} {G : Hp} {env : Ev} {M : Mem} {D : SD} {a b c : Expr} {pos : Pos} {N : List Str} {sc : Scope} {k : Nat}
theorem dx_par3 (d : DX X N sc k) (i j l : Nat) {x y z : Str} {px py pz pt : Pos} {kt k2 pt2} (hi : loB N sc i x = true) (hj : loB N sc j y = true) (hl : loB N sc l z = true) (hij : i ≠ j) (hil : i ≠ l) (hjl : j ≠ l) (hw : swappedStores [.Tuple [.Name x px, .Name y py, .Name z pz] kt pt] (.Tuple [a, b, c] k2 pt2) X.env = pure (some [x, y, z]))
    (hs : swapsWithSole [.Tuple [.Name x px, .Name y py, .Name z pz] kt pt] (.Tuple [a, b, c] k2 pt2) pos.line X.env = pure false) (h : SA X G [a, b, c] env M fun vs M' => ∃ u v w, vs = [u, v, w] ∧ D.nx (((env.set i (some u)).set j (some v)).set l (some w)) M') : SS X G (.Assign [.Tuple [.Name x px, .Name y py, .Name z pz] kt pt] (.Tuple [a, b, c] k2 pt2) pos) env M D := fun G1 kG σ H R =>
  ⟨_, ps_par3 d.calm d.ndX (lo_of d hi).1 (lo_of d hj).1 (lo_of d hl).1 hij hil hjl (lo_of d hi).2 (lo_of d hj).2 (lo_of d hl).2 pa_S hw hs, tSA_at kG R h fun ss M' vs H' k rvs R' ⟨u, v, w, e, q⟩ => by
    subst e
    cases rvs with
    | cons r1 t =>
      cases t with
      | cons r2 t =>
        cases t with
        | cons r3 t => cases t; exact ⟨_, _, _, rfl, _, M', ((R'.set r1 i).set r2 j).set r3 l, q⟩⟩
end
end Sy

set_option Elab.async false
set_option linter.all false
set_option maxRecDepth 100000
namespace Sy
open PySem PySem.Spec PyProof.Rows L2

/-- a value that nothing changes -/
inductive D where
  | non | bl (b : Bool) | int (i : Int) | str (x : Str) | tup (xs : List D) | lst (xs : List D)
  /-- a dict, its content untold -/
  | dct
mutual
def D.s : D → S
  | .non => .non
  | .bl b => .bl b
  | .int i => .int i
  | .str x => .str x
  | .tup xs => .tup (D.sl xs)
  | .lst xs => .fzl (D.sl xs)
  | .dct => .dz
def D.sl : List D → List S
  | [] => []
  | x :: xs => x.s :: D.sl xs
end
mutual
def D.py : D → PyData
  | .non => .none
  | .bl b => .bool b
  | .int i => .int i
  | .str x => .str x
  | .tup xs => .tuple (D.pyl xs)
  | .lst xs => .list (D.pyl xs)
  | .dct => .dict []
def D.pyl : List D → List PyData
  | [] => []
  | x :: xs => x.py :: D.pyl xs
end
theorem D.sl_map : ∀ xs : List D, D.sl xs = xs.map D.s
  | [] => rfl
  | x :: xs => by rw [D.sl, D.sl_map xs]; rfl
theorem D.pyl_map : ∀ xs : List D, D.pyl xs = xs.map D.py
  | [] => rfl
  | x :: xs => by rw [D.pyl, D.pyl_map xs]; rfl
theorem D.sl_len (xs : List D) : (D.sl xs).length = xs.length := by rw [D.sl_map, List.length_map]
theorem D.sl_app (xs ys : List D) : D.sl (xs ++ ys) = D.sl xs ++ D.sl ys := by rw [D.sl_map, D.sl_map, D.sl_map, List.map_append]

/-- a value; loc i: the object in place i of one's own store -/
inductive T where
  | d (x : D) | loc (i : Nat) | tup (xs : List T) | exn (c : Nat) (v : D)
  /-- the script -/
  | scr (xs : List Int)
/-- an object -/
inductive O where
  | lst (xs : List D) | lsT (xs : List T) | fz (xs : List D) | dK (kvs : List (Key × D)) | dT (kvs : List (List Key × D)) | ins (c : Str) (fs : List (Str × T))
abbrev En := List (Option T)
abbrev Sto := List O

/-- the classes of errors, by their numbers -/
def excN : Nat → Str
  | 0 => "SheetError" | 1 => "InvalidPicture" | 2 => "InvalidBook" | 3 => "InvalidShade" | 4 => "InvalidDepth" | 5 => "InvalidLetter" | 6 => "InvalidNumber" | 7 => "InvalidPlace" | 8 => "InvalidPattern"
  | 9 => "InvalidTable" | 10 => "InvalidTerm" | 11 => "InvalidRectangle" | 12 => "InvalidWord" | 13 => "InvalidSlant" | 14 => "InvalidSlope" | 15 => "InvalidMove" | 16 => "NotEndless" | 17 => "InvalidAddress"
  | 18 => "InvalidCounts" | 19 => "InvalidStory" | 20 => "Unreadable" | 21 => "InvalidCommand" | 22 => "Unlike" | 23 => "TooMany" | 24 => "Nothing" | 25 => "NoPart" | _ => "NotReady"
/-- the class of that name -/
def clN (mg : Str → Option Value) (c : Str) : Addr := match mg c with
  | some (.ref a) => a
  | _ => 0
def clOf (mg : Str → Option Value) (c : Nat) : Addr := clN mg (excN c)

mutual
inductive TR (mg : Str → Option Value) (ρ : List Addr) : T → S → Prop
  | d (x : D) : TR mg ρ (.d x) x.s
  | loc {i : Nat} {a : Addr} : ρ[i]? = some a → TR mg ρ (.loc i) (.ptr a)
  | tup {ts : List T} {ss : List S} : TRs mg ρ ts ss → TR mg ρ (.tup ts) (.tup ss)
  | exn (c : Nat) (v : D) : TR mg ρ (.exn c v) (.exn (.ref (clOf mg c)) v.s)
  | scr (xs : List Int) : TR mg ρ (.scr xs) (.rdl (D.sl (xs.map D.int)))
inductive TRs (mg : Str → Option Value) (ρ : List Addr) : List T → List S → Prop
  | nil : TRs mg ρ [] []
  | cons {t : T} {s : S} {ts : List T} {ss : List S} : TR mg ρ t s → TRs mg ρ ts ss → TRs mg ρ (t :: ts) (s :: ss)
end
section
variable {mg : Str → Option Value} {ρ ρ' : List Addr}
/-- places stay -/
abbrev Up (ρ ρ' : List Addr) : Prop := ∀ (i : Nat) (a : Addr), ρ[i]? = some a → ρ'[i]? = some a
theorem Up.refl : Up ρ ρ := fun _ _ h => h
theorem Up.trans {ρ1 ρ2 ρ3 : List Addr} (a : Up ρ1 ρ2) (b : Up ρ2 ρ3) : Up ρ1 ρ3 := fun i x h => b i x (a i x h)
theorem Up.app {xs : List Addr} : Up ρ (ρ ++ xs) := fun i a h => by
  have := (List.getElem?_eq_some_iff.mp h).1
  rw [List.getElem?_append_left this]; exact h
mutual
theorem TR.up (u : Up ρ ρ') : ∀ (t : T) (s : S), TR mg ρ t s → TR mg ρ' t s
  | .d x, _, h => by cases h; exact .d x
  | .loc i, _, h => by cases h with | loc e => exact .loc (u _ _ e)
  | .tup ts, _, h => by cases h with | tup e => exact .tup (TRs.up u ts _ e)
  | .exn c v, _, h => by cases h; exact .exn c v
  | .scr xs, _, h => by cases h; exact .scr xs
theorem TRs.up (u : Up ρ ρ') : ∀ (t : List T) (s : List S), TRs mg ρ t s → TRs mg ρ' t s
  | [], _, h => by cases h; exact .nil
  | t :: ts, _, h => by cases h with | cons a b => exact .cons (TR.up u t _ a) (TRs.up u ts _ b)
end
theorem TRs.len : ∀ {ts : List T} {ss : List S}, TRs mg ρ ts ss → ts.length = ss.length
  | _, _, .nil => rfl
  | _, _, .cons _ t => by rw [List.length_cons, List.length_cons, TRs.len t]
theorem TRs.app : ∀ {ts us : List T} {ss vs : List S}, TRs mg ρ ts ss → TRs mg ρ us vs → TRs mg ρ (ts ++ us) (ss ++ vs)
  | _, _, _, _, .nil, h => h
  | _, _, _, _, .cons a b, h => .cons a (TRs.app b h)
theorem TRs.ds : ∀ (xs : List D), TRs mg ρ (xs.map T.d) (D.sl xs)
  | [] => .nil
  | x :: xs => .cons (.d x) (TRs.ds xs)
theorem TRs.get : ∀ {ts : List T} {ss : List S} {i : Nat} {s : S}, TRs mg ρ ts ss → ss[i]? = some s → ∃ t, ts[i]? = some t ∧ TR mg ρ t s
  | _, _, _, _, .nil, e => by simp at e
  | _, _, 0, _, .cons r _, e => by simp at e; subst e; exact ⟨_, rfl, r⟩
  | _, _, i + 1, _, .cons _ t, e => by
    obtain ⟨v, h1, h2⟩ := TRs.get (i := i) t (by simpa using e)
    exact ⟨v, by simpa using h1, h2⟩
theorem TRs.getT : ∀ {ts : List T} {ss : List S} {i : Nat} {t : T}, TRs mg ρ ts ss → ts[i]? = some t → ∃ s, ss[i]? = some s ∧ TR mg ρ t s
  | _, _, _, _, .nil, e => by simp at e
  | _, _, 0, _, .cons r _, e => by simp at e; subst e; exact ⟨_, rfl, r⟩
  | _, _, i + 1, _, .cons _ t, e => by
    obtain ⟨v, h1, h2⟩ := TRs.getT (i := i) t (by simpa using e)
    exact ⟨v, by simpa using h1, h2⟩
theorem TRs.set {t : T} {s : S} (r : TR mg ρ t s) : ∀ {ts : List T} {ss : List S} (i : Nat), TRs mg ρ ts ss → TRs mg ρ (ts.set i t) (ss.set i s)
  | _, _, _, .nil => .nil
  | _, _, 0, .cons _ b => .cons r b
  | _, _, i + 1, .cons a b => .cons a (TRs.set r i b)
theorem TRs.d_inv : ∀ {xs : List D} {ss : List S}, TRs mg ρ (xs.map T.d) ss → ss = D.sl xs
  | [], _, h => by cases h; rfl
  | x :: xs, _, h => by cases h with | cons a b => cases a; rw [TRs.d_inv b]; rfl

/-- fields -/
inductive FR (mg : Str → Option Value) (ρ : List Addr) : List (Str × T) → List (Str × S) → Prop
  | nil : FR mg ρ [] []
  | cons {n : Str} {t : T} {s : S} {ts : List (Str × T)} {ss : List (Str × S)} : TR mg ρ t s → FR mg ρ ts ss → FR mg ρ ((n, t) :: ts) ((n, s) :: ss)
theorem FR.up (u : Up ρ ρ') : ∀ {t : List (Str × T)} {s : List (Str × S)}, FR mg ρ t s → FR mg ρ' t s
  | _, _, .nil => .nil
  | _, _, .cons a b => .cons (TR.up u _ _ a) (FR.up u b)
def dsK {κ : Type} : List (κ × D) → List (κ × S)
  | [] => []
  | (k, v) :: r => (k, v.s) :: dsK r
inductive OR (mg : Str → Option Value) (ρ : List Addr) : O → MO → Prop
  | lst (xs : List D) : OR mg ρ (.lst xs) (.lst (D.sl xs))
  | lsT {ts : List T} {ss : List S} : TRs mg ρ ts ss → OR mg ρ (.lsT ts) (.lst ss)
  | fz (xs : List D) : OR mg ρ (.fz xs) (.fz (D.sl xs))
  | dK (kvs : List (Key × D)) : OR mg ρ (.dK kvs) (.dK (dsK kvs))
  | dT (kvs : List (List Key × D)) : OR mg ρ (.dT kvs) (.dT (dsK kvs))
  | ins {c : Str} {dx : Addr} {fs : List (Str × T)} {gs : List (Str × S)} : FR mg ρ fs gs → OR mg ρ (.ins c fs) (.ins (clN mg c) dx gs)
theorem OR.up (u : Up ρ ρ') {o : O} {m : MO} (h : OR mg ρ o m) : OR mg ρ' o m := by
  cases h with
  | lst xs => exact .lst xs
  | lsT h => exact .lsT (TRs.up u _ _ h)
  | fz xs => exact .fz xs
  | dK kvs => exact .dK kvs
  | dT kvs => exact .dT kvs
  | ins h => exact .ins (h.up u)

/-- slots -/
inductive EnvT (mg : Str → Option Value) (ρ : List Addr) : En → Ev → Prop
  | nil : EnvT mg ρ [] []
  | nah {o : Option S} {es : En} {os : Ev} : EnvT mg ρ es os → EnvT mg ρ (none :: es) (o :: os)
  | yea {t : T} {s : S} {es : En} {os : Ev} : TR mg ρ t s → EnvT mg ρ es os → EnvT mg ρ (some t :: es) (some s :: os)
theorem EnvT.up (u : Up ρ ρ') : ∀ {e : En} {E : Ev}, EnvT mg ρ e E → EnvT mg ρ' e E
  | _, _, .nil => .nil
  | _, _, .nah t => .nah (EnvT.up u t)
  | _, _, .yea r t => .yea (TR.up u _ _ r) (EnvT.up u t)
theorem EnvT.get : ∀ {e : En} {E : Ev} {i : Nat} {t : T}, EnvT mg ρ e E → e[i]? = some (some t) → ∃ s, E[i]? = some (some s) ∧ TR mg ρ t s
  | _, _, _, _, .nil, h => by simp at h
  | _, _, 0, _, .nah _, h => by simp at h
  | _, _, 0, _, .yea r _, h => by simp at h; subst h; exact ⟨_, rfl, r⟩
  | _, _, i + 1, _, .nah t, h => by
    obtain ⟨v, h1, h2⟩ := EnvT.get (i := i) t (by simpa using h)
    exact ⟨v, by simpa using h1, h2⟩
  | _, _, i + 1, _, .yea _ t, h => by
    obtain ⟨v, h1, h2⟩ := EnvT.get (i := i) t (by simpa using h)
    exact ⟨v, by simpa using h1, h2⟩
theorem EnvT.set {t : T} {s : S} (r : TR mg ρ t s) : ∀ {e : En} {E : Ev} (i : Nat), EnvT mg ρ e E → EnvT mg ρ (e.set i (some t)) (E.set i (some s))
  | _, _, _, .nil => .nil
  | _, _, 0, .nah t => .yea r t
  | _, _, 0, .yea _ t => .yea r t
  | _, _, i + 1, .nah t => .nah (EnvT.set r i t)
  | _, _, i + 1, .yea q t => .yea q (EnvT.set r i t)
theorem EnvT.kill {o : Option S} : ∀ {e : En} {E : Ev} (i : Nat), EnvT mg ρ e E → EnvT mg ρ (e.set i none) (E.set i o)
  | _, _, _, .nil => .nil
  | _, _, 0, .nah t => .nah t
  | _, _, 0, .yea _ t => .nah t
  | _, _, i + 1, .nah t => .nah (EnvT.kill i t)
  | _, _, i + 1, .yea q t => .yea q (EnvT.kill i t)
/-- a slot forgotten on this side alone -/
theorem EnvT.drop : ∀ {e : En} {E : Ev} (i : Nat), EnvT mg ρ e E → EnvT mg ρ (e.set i none) E
  | _, _, _, .nil => .nil
  | _, _, 0, .nah t => .nah t
  | _, _, 0, .yea _ t => .nah t
  | _, _, i + 1, .nah t => .nah (EnvT.drop i t)
  | _, _, i + 1, .yea q t => .yea q (EnvT.drop i t)
theorem EnvT.len : ∀ {e : En} {E : Ev}, EnvT mg ρ e E → e.length = E.length
  | _, _, .nil => rfl
  | _, _, .nah t => by rw [List.length_cons, List.length_cons, EnvT.len t]
  | _, _, .yea _ t => by rw [List.length_cons, List.length_cons, EnvT.len t]

/-- the store: its objects at ρ; M0: what else stands -/
structure StT (mg : Str → Option Value) (ρ : List Addr) (st : Sto) (M0 M : Mem) : Prop where
  len : ρ.length = st.length
  nd : ρ.Nodup
  cell : ∀ (i : Nat) (a : Addr) (o : O), ρ[i]? = some a → st[i]? = some o → ∃ m, M a = some m ∧ OR mg ρ o m
  out : ∀ a, a ∈ ρ → M0 a = none
  keep : ∀ a o, a ∉ ρ → M0 a = some o → M a = some o
theorem nodup_get {ρ : List Addr} (nd : ρ.Nodup) {i j : Nat} {a : Addr} (h1 : ρ[i]? = some a) (h2 : ρ[j]? = some a) : i = j := by
  obtain ⟨x1, y1⟩ := List.getElem?_eq_some_iff.mp h1
  obtain ⟨x2, y2⟩ := List.getElem?_eq_some_iff.mp h2
  exact (List.getElem_inj (h₀ := x1) (h₁ := x2) nd).mp (y1.trans y2.symm)
theorem StT.at {st : Sto} {M0 M : Mem} (h : StT mg ρ st M0 M) {i : Nat} {a : Addr} {o : O} (e : ρ[i]? = some a) (e' : st[i]? = some o) : ∃ m, M a = some m ∧ OR mg ρ o m := h.cell i a o e e'
theorem StT.isSome {st : Sto} {M0 M : Mem} (h : StT mg ρ st M0 M) {a : Addr} (m : a ∈ ρ) : M a ≠ none := fun z => by
  obtain ⟨i, hi⟩ := List.getElem?_of_mem m
  have h1 := (List.getElem?_eq_some_iff.mp hi).1
  rw [h.len] at h1
  obtain ⟨o, e, _⟩ := h.cell i a _ hi (List.getElem?_eq_getElem h1)
  rw [z] at e; cases e
theorem StT.fresh {st : Sto} {M0 M : Mem} (h : StT mg ρ st M0 M) {a : Addr} (e : M a = none) : a ∉ ρ := fun m => h.isSome m e
/-- a new object -/
theorem StT.new {st : Sto} {M0 M : Mem} {p : Addr} {o : O} {m : MO} (h : StT mg ρ st M0 M) (e : M p = none) (r : OR mg (ρ ++ [p]) o m) : StT mg (ρ ++ [p]) (st ++ [o]) M0 (updM M p m) where
  len := by rw [List.length_append, List.length_append, h.len]; rfl
  nd := by
    rw [List.nodup_append]
    exact ⟨h.nd, List.nodup_cons.mpr ⟨List.not_mem_nil, List.nodup_nil⟩, fun a ha b hb => by
      rw [List.mem_singleton] at hb; subst hb; intro z; subst z; exact h.fresh e ha⟩
  cell := fun i a x e1 e2 => by
    by_cases hi : i < ρ.length
    · rw [List.getElem?_append_left hi] at e1
      rw [List.getElem?_append_left (by rw [← h.len]; exact hi)] at e2
      obtain ⟨n, h1, h2⟩ := h.cell i a x e1 e2
      exact ⟨n, (updM_ne (neM h1 e)).trans h1, h2.up Up.app⟩
    · have hl := (List.getElem?_eq_some_iff.mp e1).1
      rw [List.length_append, List.length_singleton] at hl
      have : i = ρ.length := by omega
      subst this
      rw [List.getElem?_append_right (Nat.le_refl _), Nat.sub_self] at e1
      rw [List.getElem?_append_right (by rw [h.len]; exact Nat.le_refl _), h.len, Nat.sub_self] at e2
      cases e1; cases e2
      exact ⟨m, updM_same, r⟩
  out := fun a ha => by
    rcases List.mem_append.mp ha with ha | ha
    · exact h.out a ha
    · rw [List.mem_singleton] at ha; subst ha
      cases z : M0 a with
      | none => rfl
      | some o => rw [h.keep a o (h.fresh e) z] at e; cases e
  keep := fun a o ha z => by
    have h1 : a ∉ ρ := fun q => ha (List.mem_append_left _ q)
    have h2 : a ≠ p := fun q => ha (List.mem_append_right _ (by rw [q]; exact List.mem_singleton_self _))
    exact (updM_ne h2).trans (h.keep a o h1 z)
/-- an object changed -/
theorem StT.put {st : Sto} {M0 M : Mem} {i : Nat} {p : Addr} {o : O} {m : MO} (h : StT mg ρ st M0 M) (e : ρ[i]? = some p) (r : OR mg ρ o m) : StT mg ρ (st.set i o) M0 (updM M p m) where
  len := by rw [List.length_set, h.len]
  nd := h.nd
  cell := fun j a x e1 e2 => by
    by_cases hj : j = i
    · subst hj
      rw [e] at e1; cases e1
      have hl := (List.getElem?_eq_some_iff.mp e2).1
      rw [List.length_set] at hl
      rw [List.getElem?_set_self hl] at e2
      cases e2
      exact ⟨m, updM_same, r⟩
    · rw [List.getElem?_set_ne (Ne.symm hj)] at e2
      obtain ⟨n, h1, h2⟩ := h.cell j a x e1 e2
      exact ⟨n, (updM_ne fun z => hj (nodup_get h.nd e1 (by rw [z]; exact e))).trans h1, h2⟩
  out := h.out
  keep := fun a o ha z => (updM_ne fun q => ha (by rw [q]; exact List.mem_of_getElem? e)).trans (h.keep a o ha z)
/-- more is known of the store -/
theorem StT.sub {st : Sto} {M0 M M' : Mem} (h : StT mg ρ st M0 M) (s : Sub M M') : StT mg ρ st M0 M' :=
  ⟨h.len, h.nd, fun i a o e1 e2 => by obtain ⟨m, h1, h2⟩ := h.cell i a o e1 e2; exact ⟨m, s _ _ h1, h2⟩, h.out, fun a o ha z => s _ _ (h.keep a o ha z)⟩
/-- the last places forgotten -/
theorem StT.trim {st : Sto} {M0 M : Mem} (n : Nat) (h : StT mg ρ st M0 M) (r : ∀ i o m, i < n → st[i]? = some o → OR mg ρ o m → OR mg (ρ.take n) o m) : StT mg (ρ.take n) (st.take n) M0 M where
  len := by rw [List.length_take, List.length_take, h.len]
  nd := h.nd.sublist (List.take_sublist _ _)
  cell := fun i a o e1 e2 => by
    have hi : i < n := by
      have := (List.getElem?_eq_some_iff.mp e1).1
      rw [List.length_take] at this; omega
    rw [List.getElem?_take_of_lt hi] at e1 e2
    obtain ⟨m, h1, h2⟩ := h.cell i a o e1 e2
    exact ⟨m, h1, r i o m hi e2 h2⟩
  out := fun a ha => h.out a (List.mem_of_mem_take ha)
  keep := fun a o ha z => by
    by_cases q : a ∈ ρ
    · rw [h.out a q] at z; cases z
    · exact h.keep a o q z
end
end Sy

set_option Elab.async false
set_option linter.all false
set_option maxRecDepth 100000
namespace Sy
open PySem PySem.Spec PyProof.Rows L2

section
variable {X : Cx} {G : Hp} {env : Ev} {M : Mem} {Q : QS} {e : Expr}
theorem inv_frz {pins : List (Addr × Obj)} {σ : L2.St} {H : Hp} {s : Shared} {a : Addr} {vs : List V} (I : Inv X pins σ H s) (h : H a = some (.lst vs)) : ∃ o, Inv X pins σ (upd H a (.frz o (.lst vs))) s := by
  obtain ⟨hl, its, n, r, e⟩ := (show ObjOk X.prog X.w H s.heap a (.lst vs) from I.hok a _ h)
  exact ⟨_, I.write (x := a) (e := a) (t' := s.toks) (by rw [h]; exact True.intro) (.inl rfl) (fun _ _ _ e => e) ⟨_, e⟩ ⟨e, hl, its, n, r, e⟩⟩
theorem pe_frz {t : TE} (h : PE X e t) : PE X e (fun σ H Q => t σ H fun v H1 => Q v H1 ∨ ∃ a vs, v = .ref a ∧ H1 a = some (.lst vs) ∧ ∀ o, Q v (upd H1 a (.frz o (.lst vs)))) := ⟨fun pins s σ H Q I z => by
  refine wpAny_mono (h.run pins s σ H _ I z) (fun u s' y => ?_) fun _ _ q => q
  obtain ⟨v, H1, I1, rv, q | ⟨a, vs, rfl, ha, q⟩⟩ := y
  · exact ⟨v, H1, I1, rv, q⟩
  · obtain ⟨o, I2⟩ := inv_frz I1 ha
    exact ⟨_, _, I2, rv, q o⟩⟩
/-- a value seen anew: a place that is frozen is a list that stays; or a list that is frozen now -/
theorem se_see (h : SE X G e env M fun s M1 => Q s M1 ∨ (∃ p ss, s = .ptr p ∧ M1 p = some (.fz ss) ∧ Q (.fzl ss) M1) ∨ ∃ p ss, s = .ptr p ∧ M1 p = some (.lst ss) ∧ Q (.fzl ss) (updM M1 p (.fz ss))) : SE X G e env M Q := fun σ H R => by
  obtain ⟨t, pt, ht⟩ := h σ H R
  refine ⟨_, pe_frz (pe_S (G := G)), env, M, _, R, h, fun v H' z => ?_⟩
  obtain ⟨s, M', k, rv, m, q | ⟨p, ss, rfl, e1, q⟩ | ⟨p, ss, rfl, e1, q⟩⟩ := z
  · exact .inl ⟨s, M', k, rv, m, q⟩
  · cases rv
    obtain ⟨o, vs, h1, h2⟩ := m p _ e1
    exact .inl ⟨_, M', k, .fzl h1 h2, m, q⟩
  · cases rv
    obtain ⟨vs, h1, h2⟩ := m p _ e1
    refine .inr ⟨p, vs, rfl, h1, fun o => ?_⟩
    have kk := keep_lst (K := X.K) (o := .frz o (.lst vs)) h1
    exact ⟨_, _, k.trans kk, .fzl upd_same (h2.up kk), m.put (u := .fz ss) kk ⟨o, vs, upd_same, h2.up kk⟩, q⟩
end

abbrev QT := T → Sto → Prop
abbrev ZT := Nat → D → Sto → Prop
structure Ex where
  run : En → Sto → QT → ZT → Prop
  mono : ∀ {env st Q Q' Z Z'}, (∀ v s, Q v s → Q' v s) → (∀ c v s, Z c v s → Z' c v s) → run env st Q Z → run env st Q' Z'
structure Exs where
  run : En → Sto → (List T → Sto → Prop) → ZT → Prop
  mono : ∀ {env st Q Q' Z Z'}, (∀ v s, Q v s → Q' v s) → (∀ c v s, Z c v s → Z' c v s) → run env st Q Z → run env st Q' Z'
/-- an operation of two values -/
structure Op2 where
  run : T → T → Sto → QT → Prop
  mono : ∀ {x y st Q Q'}, (∀ v s, Q v s → Q' v s) → run x y st Q → run x y st Q'
structure Op1 where
  run : T → Sto → QT → Prop
  mono : ∀ {x st Q Q'}, (∀ v s, Q v s → Q' v s) → run x st Q → run x st Q'
/-- an operation of a list of values -/
structure OpN where
  run : List T → Sto → QT → Prop
  mono : ∀ {x st Q Q'}, (∀ v s, Q v s → Q' v s) → run x st Q → run x st Q'

/-- a def's surroundings, by names -/
structure Ct where
  P : Program
  w : World
  K : PySem.W.Frag
  mg : Str → Option Value
  base : Heap
  N : List Str
  sc : Scope
  k : Nat
structure DC (c : Ct) (X : Cx) : Prop where
  dn : DN X c.N c.sc c.k
  nd : c.N.Nodup
  prog : X.prog = c.P
  ww : X.w = c.w
  kk : X.K = c.K
  mg : X.mg = c.mg
  base : X.base = c.base
def WishO (X : Cx) (G : Hp) (ZX : Ev → Addr → S → Mem → Prop) : Prop := (∀ E a s M, ¬ ZX E a s M) ∨ Wish X G ZX
section
variable (mg : Str → Option Value) (ρ : List Addr) (M0 : Mem)
def liftQ (Q : QS) : QT := fun v st' => ∀ ρ' s M', Up ρ ρ' → TR mg ρ' v s → StT mg ρ' st' M0 M' → Q s M'
def liftA (Q : List S → Mem → Prop) : List T → Sto → Prop := fun v st' => ∀ ρ' s M', Up ρ ρ' → TRs mg ρ' v s → StT mg ρ' st' M0 M' → Q s M'
def liftZ (ZE : Addr → S → Mem → Prop) : ZT := fun c v st' => ∀ ρ' M', Up ρ ρ' → StT mg ρ' st' M0 M' → ZE (clOf mg c) v.s M'
end
section
variable {mg : Str → Option Value} {ρ ρ1 : List Addr} {M0 : Mem}
theorem liftQ_up {Q : QS} (u : Up ρ ρ1) : ∀ v st, liftQ mg ρ M0 Q v st → liftQ mg ρ1 M0 Q v st := fun _ _ h ρ' s M' u' => h ρ' s M' (u.trans u')
theorem liftZ_up {Z : Addr → S → Mem → Prop} (u : Up ρ ρ1) : ∀ c v st, liftZ mg ρ M0 Z c v st → liftZ mg ρ1 M0 Z c v st := fun _ _ _ h ρ' M' u' => h ρ' M' (u.trans u')
end
/-- e is run as m says -/
structure SndE (c : Ct) (e : Expr) (m : Ex) : Prop where
  run : ∀ {X : Cx} {G : Hp} {ZX : Ev → Addr → S → Mem → Prop} {ρ : List Addr} {env : En} {E : Ev} {st : Sto} {M0 M : Mem} {Q : QS}, DC c X → WishO X G ZX → EnvT c.mg ρ env E → StT c.mg ρ st M0 M →
    m.run env st (liftQ c.mg ρ M0 Q) (liftZ c.mg ρ M0 (ZX E)) → SE X G e E M Q
structure SndA (c : Ct) (e : List Expr) (m : Exs) : Prop where
  run : ∀ {X : Cx} {G : Hp} {ZX : Ev → Addr → S → Mem → Prop} {ρ : List Addr} {env : En} {E : Ev} {st : Sto} {M0 M : Mem} {Q : List S → Mem → Prop}, DC c X → WishO X G ZX → EnvT c.mg ρ env E → StT c.mg ρ st M0 M →
    m.run env st (liftA c.mg ρ M0 Q) (liftZ c.mg ρ M0 (ZX E)) → SA X G e E M Q
structure SndO (c : Ct) (op : Operator) (f : Op2) : Prop where
  run : ∀ {X : Cx} {ρ : List Addr} {x y : T} {s t : S} {st : Sto} {M0 M : Mem} {Q : QS}, DC c X → TR c.mg ρ x s → TR c.mg ρ y t → StT c.mg ρ st M0 M → f.run x y st (liftQ c.mg ρ M0 Q) → RO X op s t M Q
structure SndC (c : Ct) (op : CmpOp) (f : Op2) : Prop where
  run : ∀ {X : Cx} {ρ : List Addr} {x y : T} {s t : S} {st : Sto} {M0 M : Mem} {Q : QS}, DC c X → TR c.mg ρ x s → TR c.mg ρ y t → StT c.mg ρ st M0 M → f.run x y st (liftQ c.mg ρ M0 Q) → RC X op s t M Q
structure SndU (c : Ct) (op : UnaryOp) (f : Op1) : Prop where
  run : ∀ {X : Cx} {ρ : List Addr} {x : T} {s : S} {st : Sto} {M0 M : Mem} {Q : QS}, DC c X → TR c.mg ρ x s → StT c.mg ρ st M0 M → f.run x st (liftQ c.mg ρ M0 Q) → RU X op s M Q
structure SndX (c : Ct) (f : Op2) : Prop where
  run : ∀ {X : Cx} {ρ : List Addr} {x y : T} {s t : S} {st : Sto} {M0 M : Mem} {Q : QS}, DC c X → TR c.mg ρ x s → TR c.mg ρ y t → StT c.mg ρ st M0 M → f.run x y st (liftQ c.mg ρ M0 Q) → RX X s t M Q
structure SndB (c : Ct) (b : Value) (f : OpN) : Prop where
  run : ∀ {X : Cx} {ρ : List Addr} {xs : List T} {ss : List S} {st : Sto} {M0 M : Mem} {Q : QS}, DC c X → TRs c.mg ρ xs ss → StT c.mg ρ st M0 M → f.run xs st (liftQ c.mg ρ M0 Q) → RB X b ss M Q

/-- the i-th, by counting down -/
def nth {α : Type} : List α → Nat → Option α
  | [], _ => none
  | x :: _, 0 => some x
  | _ :: xs, i + 1 => nth xs i
theorem nth_eq {α : Type} : ∀ (xs : List α) (i : Nat), nth xs i = xs[i]?
  | [], _ => by simp [nth]
  | x :: _, 0 => rfl
  | _ :: xs, i + 1 => by simp [nth, nth_eq xs i]
/-- the i-th set -/
def putK {α : Type} : List α → Nat → α → (List α → Prop) → Prop
  | [], _, _, _ => False
  | _ :: xs, 0, y, k => k (y :: xs)
  | x :: xs, i + 1, y, k => putK xs i y fun zs => k (x :: zs)
theorem putK_iff {α : Type} {y : α} : ∀ {xs : List α} {i : Nat} {k : List α → Prop}, putK xs i y k ↔ i < xs.length ∧ k (xs.set i y)
  | [], _, _ => by simp [putK]
  | _ :: xs, 0, k => by simp [putK]
  | x :: xs, i + 1, k => by rw [putK, putK_iff]; simp
theorem putK_mono {α : Type} {y : α} {xs : List α} {i : Nat} {k k' : List α → Prop} (m : ∀ l, k l → k' l) (h : putK xs i y k) : putK xs i y k' := by
  rw [putK_iff] at h ⊢
  exact ⟨h.1, m _ h.2⟩
/-- ends with this -/
def snoc {α : Type} : List α → α → (List α → Prop) → Prop
  | [], y, k => k [y]
  | x :: xs, y, k => snoc xs y fun zs => k (x :: zs)
theorem snoc_iff {α : Type} {y : α} : ∀ {xs : List α} {k : List α → Prop}, snoc xs y k ↔ k (xs ++ [y])
  | [], k => Iff.rfl
  | x :: xs, k => by rw [snoc, snoc_iff]; rfl

/-- its number -/
def lenK {α : Type} : List α → (Nat → Prop) → Prop
  | [], k => k 0
  | [_], k => k 1
  | [_, _], k => k 2
  | [_, _, _], k => k 3
  | [_, _, _, _], k => k 4
  | [_, _, _, _, _], k => k 5
  | [_, _, _, _, _, _], k => k 6
  | [_, _, _, _, _, _, _], k => k 7
  | [_, _, _, _, _, _, _, _], k => k 8
  | [_, _, _, _, _, _, _, _, _], k => k 9
  | [_, _, _, _, _, _, _, _, _, _], k => k 10
  | [_, _, _, _, _, _, _, _, _, _, _], k => k 11
  | [_, _, _, _, _, _, _, _, _, _, _, _], k => k 12
  | xs, k => k xs.length
theorem lenK_iff {α : Type} {xs : List α} {k : Nat → Prop} : lenK xs k ↔ k xs.length := by
  unfold lenK
  split <;> exact Iff.rfl
/-- a new object -/
def pushK (st : Sto) (o : O) (Q : QT) : Prop := snoc st o fun st2 => lenK st fun n => Q (.loc n) st2
theorem pushK_iff {st : Sto} {o : O} {Q : QT} : pushK st o Q ↔ Q (.loc st.length) (st ++ [o]) := by
  unfold pushK; rw [snoc_iff, lenK_iff]
def rdL (j : Nat) (st : Sto) (Q : QT) : Option O → Prop
  | some (.fz xs) => Q (.d (.lst xs)) st
  | _ => Q (.loc j) st
def rdV (st : Sto) (Q : QT) : Option (Option T) → Prop
  | some (some (.d x)) => Q (.d x) st
  | some (some (.loc j)) => rdL j st Q (nth st j)
  | some (some (.tup ts)) => Q (.tup ts) st
  | some (some (.exn c v)) => Q (.exn c v) st
  | some (some (.scr xs)) => Q (.scr xs) st
  | _ => False
theorem rdL_mono {j : Nat} {st : Sto} {Q Q' : QT} {o : Option O} (m : ∀ v s, Q v s → Q' v s) (h : rdL j st Q o) : rdL j st Q' o := by
  unfold rdL at *
  split at h <;> exact m _ _ h
theorem rdV_mono {st : Sto} {Q Q' : QT} {o : Option (Option T)} (m : ∀ v s, Q v s → Q' v s) (h : rdV st Q o) : rdV st Q' o := by
  unfold rdV at *
  split at h
  · exact m _ _ h
  · exact rdL_mono m h
  · exact m _ _ h
  · exact m _ _ h
  · exact m _ _ h
  · exact h
def eVar (i : Nat) : Ex where
  run := fun env st Q _ => rdV st Q (nth env i)
  mono := fun m _ h => rdV_mono m h
def eD (x : D) : Ex where
  run := fun _ st Q _ => Q (.d x) st
  mono := fun m _ h => m _ _ h
section
variable {c : Ct} {e a b : Expr} {es : List Expr} {A B : Ex} {As : Exs} {pos : Pos}
theorem snd_var {x : Str} (i : Nat) (h : nmB c.N c.sc i x = true) : SndE c (.Name x pos) (eVar i) where
  run := fun dc wi he hs z => by
    refine se_see ?_
    change rdV _ _ _ at z
    unfold rdV at z
    rw [nth_eq] at z
    split at z
    · rename_i x hx
      obtain ⟨s, h1, h2⟩ := he.get hx
      cases h2
      exact dn_name dc.dn i h h1 (.inl (z _ _ _ Up.refl (.d x) hs))
    · rename_i j hx
      obtain ⟨s, h1, h2⟩ := he.get hx
      cases h2 with
      | loc ea =>
      refine dn_name dc.dn i h h1 ?_
      unfold rdL at z
      rw [nth_eq] at z
      split at z
      · rename_i xs hxs
        obtain ⟨m, hm, hr⟩ := hs.at ea hxs
        cases hr
        exact .inr (.inl ⟨_, _, rfl, hm, z _ _ _ Up.refl (.d (.lst xs)) hs⟩)
      · exact .inl (z _ _ _ Up.refl (.loc ea) hs)
    · rename_i ts hx
      obtain ⟨s, h1, h2⟩ := he.get hx
      exact dn_name dc.dn i h h1 (.inl (z _ _ _ Up.refl h2 hs))
    · rename_i cc v hx
      obtain ⟨s, h1, h2⟩ := he.get hx
      exact dn_name dc.dn i h h1 (.inl (z _ _ _ Up.refl h2 hs))
    · rename_i xs hx
      obtain ⟨s, h1, h2⟩ := he.get hx
      exact dn_name dc.dn i h h1 (.inl (z _ _ _ Up.refl h2 hs))
    · exact z.elim
theorem snd_int {i : Int} {j} : SndE c (.Constant (.int i) j pos) (eD (.int i)) := ⟨fun _ _ _ hs z => se_int (z _ _ _ Up.refl (.d _) hs)⟩
theorem snd_bl {i : Bool} {j} : SndE c (.Constant (.bool i) j pos) (eD (.bl i)) := ⟨fun _ _ _ hs z => se_bl (z _ _ _ Up.refl (.d _) hs)⟩
theorem snd_non {j} : SndE c (.Constant .none j pos) (eD .non) := ⟨fun _ _ _ hs z => se_non (z _ _ _ Up.refl (.d _) hs)⟩
theorem snd_str {x : Str} {j} : SndE c (.Constant (.str x) j pos) (eD (.str x)) := ⟨fun _ _ _ hs z => se_str (z _ _ _ Up.refl (.d _) hs)⟩

def aNil : Exs where
  run := fun _ st Q _ => Q [] st
  mono := fun m _ h => m _ _ h
def aCons (A : Ex) (As : Exs) : Exs where
  run := fun env st Q Z => A.run env st (fun x st1 => As.run env st1 (fun xs st2 => Q (x :: xs) st2) Z) Z
  mono := fun m n h => A.mono (fun _ _ h1 => As.mono (fun _ _ => m _ _) n h1) n h
theorem snd_nil : SndA c [] aNil := ⟨fun _ _ _ hs z => sa_nil (z _ _ _ Up.refl .nil hs)⟩
theorem snd_cons (ha : SndE c e A) (hb : SndA c es As) (hst : ∀ env, starEach (e :: es) env = (false, eval e env) :: starEach es env := by intro _; rfl) : SndA c (e :: es) (aCons A As) := ⟨fun dc wi he hs z => by
  refine sa_cons (ha.run dc wi he hs (A.mono (fun x st1 h1 ρ1 s M1 u1 r1 s1 => ?_) (fun _ _ _ q => q) z)) (hst _)
  refine hb.run dc wi (he.up u1) s1 (As.mono (fun xs st2 h2 ρ2 t M2 u2 r2 s2 => ?_) (liftZ_up u1) h1)
  exact h2 _ _ _ (u1.trans u2) (.cons (TR.up u2 _ _ r1) r2) s2⟩

def eBin (f : Op2) (A B : Ex) : Ex where
  run := fun env st Q Z => A.run env st (fun x st1 => B.run env st1 (fun y st2 => f.run x y st2 Q) Z) Z
  mono := fun m n h => A.mono (fun _ _ h1 => B.mono (fun _ _ h2 => f.mono m h2) n h1) n h
theorem snd_bin {op : Operator} {f : Op2} (hf : SndO c op f) (ha : SndE c a A) (hb : SndE c b B) : SndE c (.BinOp a op b pos) (eBin f A B) := ⟨fun dc wi he hs z => by
  refine se_bin (ha.run dc wi he hs (A.mono (fun x st1 h1 ρ1 s M1 u1 r1 s1 => ?_) (fun _ _ _ q => q) z))
  refine hb.run dc wi (he.up u1) s1 (B.mono (fun y st2 h2 ρ2 t M2 u2 r2 s2 => ?_) (liftZ_up u1) h1)
  exact hf.run dc (TR.up u2 _ _ r1) r2 s2 (f.mono (liftQ_up (u1.trans u2)) h2)⟩
theorem snd_cmp {op : CmpOp} {f : Op2} (hf : SndC c op f) (ha : SndE c a A) (hb : SndE c b B) (hm : behindInMarks op b = false := by first | exact nomark _ | rfl) : SndE c (.Compare a [op] [b] pos) (eBin f A B) := ⟨fun dc wi he hs z => by
  refine se_cmp (ha.run dc wi he hs (A.mono (fun x st1 h1 ρ1 s M1 u1 r1 s1 => ?_) (fun _ _ _ q => q) z)) hm
  refine hb.run dc wi (he.up u1) s1 (B.mono (fun y st2 h2 ρ2 t M2 u2 r2 s2 => ?_) (liftZ_up u1) h1)
  exact hf.run dc (TR.up u2 _ _ r1) r2 s2 (f.mono (liftQ_up (u1.trans u2)) h2)⟩
theorem snd_ix {f : Op2} (hf : SndX c f) (ha : SndE c a A) (hb : SndE c b B) (hp : PlainIx b := by exact fun _ _ => rfl) : SndE c (.Subscript a b pos) (eBin f A B) := ⟨fun dc wi he hs z => by
  refine se_ix (ha.run dc wi he hs (A.mono (fun x st1 h1 ρ1 s M1 u1 r1 s1 => ?_) (fun _ _ _ q => q) z)) hp
  refine hb.run dc wi (he.up u1) s1 (B.mono (fun y st2 h2 ρ2 t M2 u2 r2 s2 => ?_) (liftZ_up u1) h1)
  exact hf.run dc (TR.up u2 _ _ r1) r2 s2 (f.mono (liftQ_up (u1.trans u2)) h2)⟩
def eUn (f : Op1) (A : Ex) : Ex where
  run := fun env st Q Z => A.run env st (fun x st1 => f.run x st1 Q) Z
  mono := fun m n h => A.mono (fun _ _ h1 => f.mono m h1) n h
theorem snd_un {op : UnaryOp} {f : Op1} (hf : SndU c op f) (ha : SndE c a A) : SndE c (.UnaryOp op a pos) (eUn f A) := ⟨fun dc wi he hs z => by
  refine se_un (ha.run dc wi he hs (A.mono (fun x st1 h1 ρ1 s M1 u1 r1 s1 => ?_) (fun _ _ _ q => q) z))
  exact hf.run dc r1 s1 (f.mono (liftQ_up u1) h1)⟩

/-- on a truth value -/
def isB (st : Sto) (k : Bool → Sto → Prop) : T → Prop
  | .d (.bl b) => k b st
  | _ => False
theorem isB_mono {st : Sto} {k k' : Bool → Sto → Prop} {t : T} (m : ∀ b s, k b s → k' b s) (h : isB st k t) : isB st k' t := by
  unfold isB at *
  split at h
  · exact m _ _ h
  · exact h
theorem isB_inv {st : Sto} {k : Bool → Sto → Prop} {t : T} (h : isB st k t) : ∃ b, t = .d (.bl b) ∧ k b st := by
  unfold isB at h
  split at h
  · exact ⟨_, rfl, h⟩
  · exact h.elim
def eAnd (A B : Ex) : Ex where
  run := fun env st Q Z => A.run env st (fun x st1 => isB st1 (fun b st1 => (b = true → B.run env st1 Q Z) ∧ (b = false → Q (.d (.bl false)) st1)) x) Z
  mono := fun m n h => A.mono (fun _ _ h1 => isB_mono (fun _ _ h2 => ⟨fun z => B.mono m n (h2.1 z), fun z => m _ _ (h2.2 z)⟩) h1) n h
def eOr (A B : Ex) : Ex where
  run := fun env st Q Z => A.run env st (fun x st1 => isB st1 (fun b st1 => (b = true → Q (.d (.bl true)) st1) ∧ (b = false → B.run env st1 Q Z)) x) Z
  mono := fun m n h => A.mono (fun _ _ h1 => isB_mono (fun _ _ h2 => ⟨fun z => m _ _ (h2.1 z), fun z => B.mono m n (h2.2 z)⟩) h1) n h
def eNot (A : Ex) : Ex where
  run := fun env st Q Z => A.run env st (fun x st1 => isB st1 (fun b st1 => Q (.d (.bl (!b))) st1) x) Z
  mono := fun m n h => A.mono (fun _ _ h1 => isB_mono (fun _ _ h2 => m _ _ h2) h1) n h
theorem snd_one {op} (ha : SndE c a A) : SndE c (.BoolOp op [a] pos) A := ⟨fun dc wi he hs z => se_one (ha.run dc wi he hs z)⟩
theorem snd_and (ha : SndE c a A) (hb : SndE c (.BoolOp .And (b :: es) pos) B) : SndE c (.BoolOp .And (a :: b :: es) pos) (eAnd A B) := ⟨fun dc wi he hs z => by
  refine se_and (ha.run dc wi he hs (A.mono (fun x st1 h1 ρ1 s M1 u1 r1 s1 => ?_) (fun _ _ _ q => q) z))
  obtain ⟨k, rfl, y1, y2⟩ := isB_inv h1
  cases r1
  exact ⟨k, rfl, fun e => hb.run dc wi (he.up u1) s1 (B.mono (liftQ_up u1) (liftZ_up u1) (y1 e)), fun e => y2 e _ _ _ u1 (.d _) s1⟩⟩
theorem snd_or (ha : SndE c a A) (hb : SndE c (.BoolOp .Or (b :: es) pos) B) : SndE c (.BoolOp .Or (a :: b :: es) pos) (eOr A B) := ⟨fun dc wi he hs z => by
  refine se_or (ha.run dc wi he hs (A.mono (fun x st1 h1 ρ1 s M1 u1 r1 s1 => ?_) (fun _ _ _ q => q) z))
  obtain ⟨k, rfl, y1, y2⟩ := isB_inv h1
  cases r1
  exact ⟨k, rfl, fun e => y1 e _ _ _ u1 (.d _) s1, fun e => hb.run dc wi (he.up u1) s1 (B.mono (liftQ_up u1) (liftZ_up u1) (y2 e))⟩⟩
theorem snd_not (ha : SndE c a A) : SndE c (.UnaryOp .Not a pos) (eNot A) := ⟨fun dc wi he hs z => by
  refine se_not (ha.run dc wi he hs (A.mono (fun x st1 h1 ρ1 s M1 u1 r1 s1 => ?_) (fun _ _ _ q => q) z))
  obtain ⟨k, rfl, y1⟩ := isB_inv h1
  cases r1
  exact ⟨k, rfl, y1 _ _ _ u1 (.d _) s1⟩⟩
end
end Sy

set_option Elab.async false
set_option linter.all false
set_option maxRecDepth 100000
namespace Sy
open PySem PySem.Spec PyProof.Rows L2

section
variable (mg : Str → Option Value) (ρ : List Addr) (M0 : Mem)
def liftT (Q : Bool → Mem → Prop) : Bool → Sto → Prop := fun v st' => ∀ ρ' M', Up ρ ρ' → StT mg ρ' st' M0 M' → Q v M'
end
/-- e as a test is run as m says -/
structure SndT (c : Ct) (e : Expr) (m : Ex) : Prop where
  run : ∀ {X : Cx} {G : Hp} {ZX : Ev → Addr → S → Mem → Prop} {ρ : List Addr} {env : En} {E : Ev} {st : Sto} {M0 M : Mem} {Q : Bool → Mem → Prop}, DC c X → WishO X G ZX → EnvT c.mg ρ env E → StT c.mg ρ st M0 M →
    m.run env st (fun v st' => isB st' (liftT c.mg ρ M0 Q) v) (liftZ c.mg ρ M0 (ZX E)) → ST X G e E M Q
structure SndW (c : Ct) (e : Expr) (m : Ex) : Prop where
  run : ∀ {X : Cx} {G : Hp} {ZX : Ev → Addr → S → Mem → Prop} {ρ : List Addr} {env : En} {E : Ev} {st : Sto} {M0 M : Mem} {Q : Bool → Mem → Prop}, DC c X → WishO X G ZX → EnvT c.mg ρ env E → StT c.mg ρ st M0 M →
    m.run env st (fun v st' => isB st' (liftT c.mg ρ M0 Q) v) (liftZ c.mg ρ M0 (ZX E)) → SW X G e E M Q
section
variable {mg : Str → Option Value} {ρ ρ1 : List Addr} {M0 : Mem}
theorem liftT_up {Q : Bool → Mem → Prop} (u : Up ρ ρ1) : ∀ v st, liftT mg ρ M0 Q v st → liftT mg ρ1 M0 Q v st := fun _ _ h ρ' M' u' => h ρ' M' (u.trans u')
theorem isBT_up {Q : Bool → Mem → Prop} (u : Up ρ ρ1) : ∀ v st, isB st (liftT mg ρ M0 Q) v → isB st (liftT mg ρ1 M0 Q) v := fun _ _ h => isB_mono (liftT_up u) h
/-- a truth value there -/
theorem isB_QB {Q : Bool → Mem → Prop} {v : T} {st : Sto} (h : isB st (liftT mg ρ M0 Q) v) : liftQ mg ρ M0 (QB Q) v st := by
  obtain ⟨b, rfl, q⟩ := isB_inv h
  intro ρ' s M' u r t
  cases r
  exact ⟨b, rfl, q _ _ u t⟩
end
section
variable {c : Ct} {e a b o : Expr} {es : List Expr} {A B C : Ex} {As : Exs} {pos : Pos}
theorem sndt_val (ha : SndE c e A) (hv : ∀ env whole, isTrue e env whole = (do let v ← whole; standAt e.pos; holding [v] (truthy v)) := by intro _ _; rfl) : SndT c e A := ⟨fun dc wi he hs z =>
  st_val (ha.run dc wi he hs (A.mono (fun _ _ h1 => isB_QB h1) (fun _ _ _ q => q) z)) (hv _)⟩
theorem sndt_cmp {op : CmpOp} {f : Op2} (hf : SndC c op f) (ha : SndE c a A) (hb : SndE c b B) (hm : behindInMarks op b = false := by first | exact nomark _ | rfl) : SndT c (.Compare a [op] [b] pos) (eBin f A B) := ⟨fun dc wi he hs z => by
  refine st_cmp (ha.run dc wi he hs (A.mono (fun x st1 h1 ρ1 s M1 u1 r1 s1 => ?_) (fun _ _ _ q => q) z)) hm
  refine hb.run dc wi (he.up u1) s1 (B.mono (fun y st2 h2 ρ2 t M2 u2 r2 s2 => ?_) (liftZ_up u1) h1)
  exact hf.run dc (TR.up u2 _ _ r1) r2 s2 (f.mono (fun v st h => liftQ_up (u1.trans u2) v st (isB_QB h)) h2)⟩
theorem sndt_not (ha : SndT c a A) : SndT c (.UnaryOp .Not a pos) (eNot A) := ⟨fun dc wi he hs z => by
  refine st_not (ha.run dc wi he hs (A.mono (fun x st1 h1 => ?_) (fun _ _ _ q => q) z))
  exact isB_mono (fun b s h => h) h1⟩
theorem sndw_and1 (ha : SndT c a A) : SndW c (.BoolOp .And [a] pos) A := ⟨fun dc wi he hs z => sw_and1 (ha.run dc wi he hs z)⟩
theorem sndw_or1 (ha : SndT c a A) : SndW c (.BoolOp .Or [a] pos) A := ⟨fun dc wi he hs z => sw_or1 (ha.run dc wi he hs z)⟩
theorem sndw_and (ha : SndT c a A) (hb : SndW c (.BoolOp .And (b :: es) pos) B) : SndW c (.BoolOp .And (a :: b :: es) pos) (eAnd A B) := ⟨fun dc wi he hs z => by
  refine sw_and (ha.run dc wi he hs (A.mono (fun x st1 h1 => isB_mono (fun k st2 h2 ρ1 M1 u1 s1 => ?_) h1) (fun _ _ _ q => q) z))
  exact ⟨fun e => hb.run dc wi (he.up u1) s1 (B.mono (isBT_up u1) (liftZ_up u1) (h2.1 e)), fun e => (h2.2 e) _ _ u1 s1⟩⟩
theorem sndw_or (ha : SndT c a A) (hb : SndW c (.BoolOp .Or (b :: es) pos) B) : SndW c (.BoolOp .Or (a :: b :: es) pos) (eOr A B) := ⟨fun dc wi he hs z => by
  refine sw_or (ha.run dc wi he hs (A.mono (fun x st1 h1 => isB_mono (fun k st2 h2 ρ1 M1 u1 s1 => ?_) h1) (fun _ _ _ q => q) z))
  exact ⟨fun e => (h2.1 e) _ _ u1 s1, fun e => hb.run dc wi (he.up u1) s1 (B.mono (isBT_up u1) (liftZ_up u1) (h2.2 e))⟩⟩
theorem sndt_w (h : SndW c e A) (_ : True := True.intro) : SndT c e A := ⟨fun dc wi he hs z => st_of (h.run dc wi he hs z)⟩
def eIf (C A B : Ex) : Ex where
  run := fun env st Q Z => C.run env st (fun x st1 => isB st1 (fun b st1 => (b = true → A.run env st1 Q Z) ∧ (b = false → B.run env st1 Q Z)) x) Z
  mono := fun m n h => C.mono (fun _ _ h1 => isB_mono (fun _ _ h2 => ⟨fun z => A.mono m n (h2.1 z), fun z => B.mono m n (h2.2 z)⟩) h1) n h
theorem snd_if {t : Expr} (hc : SndT c t C) (ha : SndE c a A) (hb : SndE c b B) : SndE c (.IfExp t a b pos) (eIf C A B) := ⟨fun dc wi he hs z => by
  refine se_if (hc.run dc wi he hs (C.mono (fun x st1 h1 => isB_mono (fun k st2 h2 ρ1 M1 u1 s1 => ?_) h1) (fun _ _ _ q => q) z))
  exact ⟨fun e => ha.run dc wi (he.up u1) s1 (A.mono (liftQ_up u1) (liftZ_up u1) (h2.1 e)), fun e => hb.run dc wi (he.up u1) s1 (B.mono (liftQ_up u1) (liftZ_up u1) (h2.2 e))⟩⟩

/-- the first comparison has b's value left for the second -/
def eChain (f g : Op2) (A B C : Ex) : Ex where
  run := fun env st Q Z => A.run env st (fun x st1 => B.run env st1 (fun y st2 => f.run x y st2 (fun v st3 => isB st3 (fun k st3 => (k = true → C.run env st3 (fun u st4 => g.run y u st4 Q) Z) ∧ (k = false → Q (.d (.bl false)) st3)) v)) Z) Z
  mono := fun m n h => A.mono (fun _ _ h1 => B.mono (fun _ _ h2 => f.mono (fun _ _ h3 => isB_mono (fun _ _ h4 => ⟨fun z => C.mono (fun _ _ h5 => g.mono m h5) n (h4.1 z), fun z => m _ _ (h4.2 z)⟩) h3) h2) n h1) n h
theorem chain_step {X : Cx} {G : Hp} {ZX : Ev → Addr → S → Mem → Prop} {op op' : CmpOp} {f g : Op2} {env : En} {E : Ev} {ρ2 : List Addr} {st2 : Sto} {M0 M2 : Mem} {x y : T} {s t : S} {Q0 : QT} {Q : QS} {cc : Expr} (hf : SndC c op f) (hg : SndC c op' g) (hc : SndE c cc C) (dc : DC c X) (wi : WishO X G ZX)
    (he : EnvT c.mg ρ2 env E) (hs : StT c.mg ρ2 st2 M0 M2) (r1 : TR c.mg ρ2 x s) (r2 : TR c.mg ρ2 y t) (hq : ∀ v st, Q0 v st → liftQ c.mg ρ2 M0 Q v st)
    (h : f.run x y st2 (fun v st3 => isB st3 (fun k st3 => (k = false → Q0 (.d (.bl false)) st3) ∧ (k = true → C.run env st3 (fun u st4 => g.run y u st4 Q0) (liftZ c.mg ρ2 M0 (ZX E)))) v)) : RCh X G op op' cc E s t M2 Q := by
  refine hf.run dc r1 r2 hs (f.mono (fun v st3 h3 ρ3 z M3 u3 rz s3 => ?_) h)
  obtain ⟨k, rfl, y1, y2⟩ := isB_inv h3
  cases rz
  refine ⟨k, rfl, fun e => hq _ _ (y1 e) _ _ _ u3 (.d _) s3, fun e => ?_⟩
  refine hc.run dc wi (he.up u3) s3 (C.mono (fun u st4 h4 ρ4 w M4 u4 r4 s4 => ?_) (liftZ_up u3) (y2 e))
  exact hg.run dc (TR.up (u3.trans u4) _ _ r2) r4 s4 (g.mono (fun v st q => liftQ_up (u3.trans u4) v st (hq v st q)) h4)
theorem snd_chain {op op' : CmpOp} {f g : Op2} {cc : Expr} (hf : SndC c op f) (hg : SndC c op' g) (ha : SndE c a A) (hb : SndE c b B) (hc : SndE c cc C)
    (hm : ∀ {X : Cx} {G : Hp} {E : Ev} {M : Mem} {Q : QS}, (SE X G a E M fun x M1 => SE X G b E M1 fun y M2 => RCh X G op op' cc E x y M2 Q) → SE X G (.Compare a [op, op'] [b, cc] pos) E M Q := by exact fun h => se_chain h) : SndE c (.Compare a [op, op'] [b, cc] pos) (eChain f g A B C) := ⟨fun dc wi he hs z => by
  refine hm (ha.run dc wi he hs (A.mono (fun x st1 h1 ρ1 s M1 u1 r1 s1 => ?_) (fun _ _ _ q => q) z))
  refine hb.run dc wi (he.up u1) s1 (B.mono (fun y st2 h2 ρ2 t M2 u2 r2 s2 => ?_) (liftZ_up u1) h1)
  refine chain_step (Q0 := _) hf hg hc dc wi (he.up (u1.trans u2)) s2 (TR.up u2 _ _ r1) r2 (liftQ_up (u1.trans u2)) (f.mono (fun v st3 h3 => isB_mono (fun k st h4 => ⟨h4.2, fun e => C.mono (fun _ _ q => q) (liftZ_up (u1.trans u2)) (h4.1 e)⟩) h3) h2)⟩
theorem sndt_chain {op op' : CmpOp} {f g : Op2} {cc : Expr} (hf : SndC c op f) (hg : SndC c op' g) (ha : SndE c a A) (hb : SndE c b B) (hc : SndE c cc C)
    (hm : ∀ {X : Cx} {G : Hp} {E : Ev} {M : Mem} {Q : Bool → Mem → Prop}, (SE X G a E M fun x M1 => SE X G b E M1 fun y M2 => RCh X G op op' cc E x y M2 (QB Q)) → ST X G (.Compare a [op, op'] [b, cc] pos) E M Q := by exact fun h => st_chain h) : SndT c (.Compare a [op, op'] [b, cc] pos) (eChain f g A B C) := ⟨fun dc wi he hs z => by
  refine hm (ha.run dc wi he hs (A.mono (fun x st1 h1 ρ1 s M1 u1 r1 s1 => ?_) (fun _ _ _ q => q) z))
  refine hb.run dc wi (he.up u1) s1 (B.mono (fun y st2 h2 ρ2 t M2 u2 r2 s2 => ?_) (liftZ_up u1) h1)
  refine chain_step (Q0 := _) hf hg hc dc wi (he.up (u1.trans u2)) s2 (TR.up u2 _ _ r1) r2 (fun v st q => liftQ_up (u1.trans u2) v st (isB_QB q)) (f.mono (fun v st3 h3 => isB_mono (fun k st h4 => ⟨h4.2, fun e => C.mono (fun _ _ q => q) (liftZ_up (u1.trans u2)) (h4.1 e)⟩) h3) h2)⟩

/-- what gives the items of a new list -/
structure ExL where
  run : En → Sto → (List D → Sto → Prop) → ZT → Prop
  mono : ∀ {env st Q Q' Z Z'}, (∀ v s, Q v s → Q' v s) → (∀ c v s, Z c v s → Z' c v s) → run env st Q Z → run env st Q' Z'
/-- a new list at p, which the store does not know -/
structure NewL (mg : Str → Option Value) (ρ : List Addr) (st : Sto) (M0 M : Mem) (p : Addr) (xs : List D) : Prop where
  st : StT mg ρ st M0 M
  at_p : M p = some (.lst (D.sl xs))
  off : p ∉ ρ
  out : M0 p = none
def liftL (mg : Str → Option Value) (ρ : List Addr) (M0 : Mem) (Q : QS) : List D → Sto → Prop := fun xs st' => ∀ ρ' p M', Up ρ ρ' → NewL mg ρ' st' M0 M' p xs → Q (.ptr p) M'
structure SndL (c : Ct) (e : Expr) (m : ExL) : Prop where
  run : ∀ {X : Cx} {G : Hp} {ZX : Ev → Addr → S → Mem → Prop} {ρ : List Addr} {env : En} {E : Ev} {st : Sto} {M0 M : Mem} {Q : QS}, DC c X → WishO X G ZX → EnvT c.mg ρ env E → StT c.mg ρ st M0 M →
    m.run env st (liftL c.mg ρ M0 Q) (liftZ c.mg ρ M0 (ZX E)) → SE X G e E M Q
theorem StT.skip {mg : Str → Option Value} {ρ : List Addr} {st : Sto} {M0 M : Mem} {p : Addr} {o : MO} (h : StT mg ρ st M0 M) (hp : p ∉ ρ) (ho : M0 p = none) : StT mg ρ st M0 (updM M p o) :=
  ⟨h.len, h.nd, fun i a x e1 e2 => by obtain ⟨m, h1, h2⟩ := h.cell i a x e1 e2; exact ⟨m, (updM_ne fun z => hp (by rw [← z]; exact List.mem_of_getElem? e1)).trans h1, h2⟩, h.out, fun a o ha z => (updM_ne fun q => by rw [q, ho] at z; cases z).trans (h.keep a o ha z)⟩
/-- a fresh place lies outside -/
theorem StT.outF {mg : Str → Option Value} {ρ : List Addr} {st : Sto} {M0 M : Mem} {p : Addr} (h : StT mg ρ st M0 M) (e : M p = none) : M0 p = none := by
  cases z : M0 p with
  | none => rfl
  | some o => rw [h.keep p o (h.fresh e) z] at e; cases e
theorem NewL.of {mg : Str → Option Value} {ρ : List Addr} {st : Sto} {M0 M : Mem} {p : Addr} {xs : List D} (h : StT mg ρ st M0 M) (e : M p = none) : NewL mg ρ st M0 (updM M p (.lst (D.sl xs))) p xs :=
  ⟨h.skip (h.fresh e) (h.outF e), updM_same, h.fresh e, h.outF e⟩
/-- it is taken into the store -/
theorem NewL.take {mg : Str → Option Value} {ρ : List Addr} {st : Sto} {M0 M : Mem} {p : Addr} {xs : List D} (n : NewL mg ρ st M0 M p xs) : StT mg (ρ ++ [p]) (st ++ [.lst xs]) M0 M where
  len := by rw [List.length_append, List.length_append, n.st.len]; rfl
  nd := by
    rw [List.nodup_append]
    exact ⟨n.st.nd, List.nodup_cons.mpr ⟨List.not_mem_nil, List.nodup_nil⟩, fun a ha b hb => by
      rw [List.mem_singleton] at hb; subst hb; intro z; subst z; exact n.off ha⟩
  cell := fun i a x e1 e2 => by
    by_cases hi : i < ρ.length
    · rw [List.getElem?_append_left hi] at e1
      rw [List.getElem?_append_left (by rw [← n.st.len]; exact hi)] at e2
      obtain ⟨m, h1, h2⟩ := n.st.cell i a x e1 e2
      exact ⟨m, h1, h2.up Up.app⟩
    · have hl := (List.getElem?_eq_some_iff.mp e1).1
      rw [List.length_append, List.length_singleton] at hl
      have : i = ρ.length := by omega
      subst this
      rw [List.getElem?_append_right (Nat.le_refl _), Nat.sub_self] at e1
      rw [List.getElem?_append_right (by rw [n.st.len]; exact Nat.le_refl _), n.st.len, Nat.sub_self] at e2
      cases e1; cases e2
      exact ⟨_, n.at_p, .lst xs⟩
  out := fun a ha => by
    rcases List.mem_append.mp ha with ha | ha
    · exact n.st.out a ha
    · rw [List.mem_singleton] at ha; subst ha; exact n.out
  keep := fun a o ha z => n.st.keep a o (fun q => ha (List.mem_append_left _ q)) z
/-- .. or stays as it is from now on -/
def eF (m : ExL) : Ex where
  run := fun env st Q Z => m.run env st (fun xs st' => Q (.d (.lst xs)) st') Z
  mono := fun mm n h => m.mono (fun _ _ h1 => mm _ _ h1) n h
def eM (m : ExL) : Ex where
  run := fun env st Q Z => m.run env st (fun xs st' => pushK st' (.lst xs) Q) Z
  mono := fun mm n h => m.mono (fun _ _ h1 => pushK_iff.mpr (mm _ _ (pushK_iff.mp h1))) n h
theorem snd_F {m : ExL} (h : SndL c e m) : SndE c e (eF m) := ⟨fun dc wi he hs z => by
  refine se_see (h.run dc wi he hs (m.mono (fun xs st' q ρ' p M' u n => ?_) (fun _ _ _ q => q) z))
  exact .inr (.inr ⟨p, _, rfl, n.at_p, q _ _ _ u (.d (.lst xs)) (n.st.skip n.off n.out)⟩)⟩
theorem snd_M {m : ExL} (h : SndL c e m) : SndE c e (eM m) := ⟨fun dc wi he hs z => by
  refine h.run dc wi he hs (m.mono (fun xs st' q ρ' p M' u n => ?_) (fun _ _ _ q => q) z)
  refine pushK_iff.mp q _ _ _ (u.trans Up.app) (.loc ?_) n.take
  rw [← n.st.len, List.getElem?_append_right (Nat.le_refl _), Nat.sub_self]
  rfl⟩

/-- all of them values that stay -/
def allD : List T → (List D → Prop) → Prop → Prop
  | [], k, _ => k []
  | .d x :: ts, k, e => allD ts (fun xs => k (x :: xs)) e
  | .loc _ :: _, _, e => e
  | .tup _ :: _, _, e => e
  | .exn _ _ :: _, _, e => e
  | .scr _ :: _, _, e => e
theorem allD_mono : ∀ {ts : List T} {k k' : List D → Prop} {e e' : Prop}, (∀ xs, k xs → k' xs) → (e → e') → allD ts k e → allD ts k' e'
  | [], _, _, _, _, m, _, h => m _ h
  | .d x :: ts, _, _, _, _, m, n, h => allD_mono (ts := ts) (fun _ h1 => m _ h1) n h
  | .loc _ :: _, _, _, _, _, _, n, h => n h
  | .tup _ :: _, _, _, _, _, _, n, h => n h
  | .exn _ _ :: _, _, _, _, _, _, n, h => n h
  | .scr _ :: _, _, _, _, _, _, n, h => n h
theorem allD_inv : ∀ {ts : List T} {k : List D → Prop} {e : Prop}, allD ts k e → (∃ xs, ts = xs.map T.d ∧ k xs) ∨ e
  | [], _, _, h => .inl ⟨[], rfl, h⟩
  | .d x :: ts, k, e, h => by
    rcases allD_inv (ts := ts) h with ⟨xs, rfl, q⟩ | q
    · exact .inl ⟨x :: xs, rfl, q⟩
    · exact .inr q
  | .loc _ :: _, _, _, h => .inr h
  | .tup _ :: _, _, _, h => .inr h
  | .exn _ _ :: _, _, _, h => .inr h
  | .scr _ :: _, _, _, h => .inr h
theorem allD_ds {k : List D → Prop} {e : Prop} : ∀ (xs : List D), allD (xs.map T.d) k e = k xs := by
  intro xs
  induction xs generalizing k with
  | nil => rfl
  | cons x xs ih => exact ih
/-- a display of values that stay -/
def lDisp (As : Exs) : ExL where
  run := fun env st Q Z => As.run env st (fun ts st1 => allD ts (fun xs => xs.length ≤ sizeLine ∧ Q xs st1) False) Z
  mono := fun m n h => As.mono (fun _ _ h1 => allD_mono (fun _ h2 => ⟨h2.1, m _ _ h2.2⟩) (fun z => z) h1) n h
theorem snd_disp (ha : SndA c es As) : SndL c (.List es pos) (lDisp As) := ⟨fun dc wi he hs z => by
  refine se_lst (ha.run dc wi he hs (As.mono (fun ts st1 h1 ρ1 ss M1 u1 r1 s1 => ?_) (fun _ _ _ q => q) z))
  rcases allD_inv h1 with ⟨xs, rfl, hl, q⟩ | q
  · rw [r1.d_inv]
    exact ⟨by rw [D.sl_len]; exact hl, fun p hp => q _ p _ u1 (.of s1 hp)⟩
  · exact q.elim⟩
/-- a display of values, some with places -/
def eDispT (As : Exs) : Ex where
  run := fun env st Q Z => As.run env st (fun ts st1 => ts.length ≤ sizeLine ∧ pushK st1 (.lsT ts) Q) Z
  mono := fun m n h => As.mono (fun _ _ h1 => ⟨h1.1, pushK_iff.mpr (m _ _ (pushK_iff.mp h1.2))⟩) n h
theorem snd_dispT (ha : SndA c es As) : SndE c (.List es pos) (eDispT As) := ⟨fun dc wi he hs z => by
  refine se_lst (ha.run dc wi he hs (As.mono (fun ts st1 h1 ρ1 ss M1 u1 r1 s1 => ?_) (fun _ _ _ q => q) z))
  refine ⟨by rw [← r1.len]; exact h1.1, fun p hp => pushK_iff.mp h1.2 _ _ _ (u1.trans Up.app) (.loc ?_) (s1.new hp (.lsT (TRs.up Up.app _ _ r1)))⟩
  rw [← s1.len, List.getElem?_append_right (Nat.le_refl _), Nat.sub_self]
  rfl⟩
/-- a tuple -/
def eTup (As : Exs) : Ex where
  run := fun env st Q Z => As.run env st (fun ts st1 => ts.length ≤ sizeLine ∧ allD ts (fun xs => Q (.d (.tup xs)) st1) (Q (.tup ts) st1)) Z
  mono := fun m n h => As.mono (fun _ _ h1 => ⟨h1.1, allD_mono (fun _ h2 => m _ _ h2) (fun z => m _ _ z) h1.2⟩) n h
theorem snd_tup {x1} (ha : SndA c es As) : SndE c (.Tuple es x1 pos) (eTup As) := ⟨fun dc wi he hs z => by
  refine se_tup (ha.run dc wi he hs (As.mono (fun ts st1 h1 ρ1 ss M1 u1 r1 s1 => ?_) (fun _ _ _ q => q) z))
  refine ⟨by rw [← r1.len]; exact h1.1, ?_⟩
  rcases allD_inv h1.2 with ⟨xs, rfl, q⟩ | q
  · rw [r1.d_inv]
    exact q _ _ _ u1 (.d (.tup xs)) s1
  · exact q _ _ _ u1 (.tup r1) s1⟩
end
end Sy

set_option Elab.async false
set_option linter.all false
set_option maxRecDepth 100000
namespace Sy
open PySem PySem.Spec PyProof.Rows L2

/-- a number of fewer bits than any that stands here -/
def bigB : Nat := 60000000
def Sm (i : Int) : Prop := i.natAbs < 2 ^ bigB
theorem Sm.of {i : Int} (n : Nat) (h : i.natAbs < 2 ^ n) (hn : n ≤ 60000000 := by decide) : Sm i := Nat.lt_of_lt_of_le h (Nat.pow_le_pow_right (by decide) hn)
def oInt (C : Int → Int → Prop) (g : Int → Int → D) : Op2 where
  run := fun x y st Q => match x, y with
    | .d (.int i), .d (.int j) => C i j ∧ Q (.d (g i j)) st
    | _, _ => False
  mono := fun {x y st Q Q'} m h => by
    split at h
    · exact ⟨h.1, m _ _ h.2⟩
    · exact h
theorem oInt_inv {C : Int → Int → Prop} {g : Int → Int → D} {x y : T} {st : Sto} {Q : QT} (h : (oInt C g).run x y st Q) : ∃ i j, x = .d (.int i) ∧ y = .d (.int j) ∧ C i j ∧ Q (.d (g i j)) st := by
  dsimp only [oInt] at h
  split at h
  · exact ⟨_, _, rfl, rfl, h.1, h.2⟩
  · exact h.elim
section
variable {c : Ct}
def oSub : Op2 := oInt (fun _ _ => True) fun i j => .int (i - j)
def oDiv : Op2 := oInt (fun _ j => 0 < j ∧ j.natAbs < 2 ^ 9000) fun i j => .int (i / j)
def oMod : Op2 := oInt (fun _ j => 0 < j) fun i j => .int (i % j)
def oPow : Op2 := oInt (fun i j => 0 ≤ j ∧ (Builtin.Int.intBits i : Int) * j ≤ 2 ^ 27) fun i j => .int (i ^ j.toNat)
theorem snd_sub : SndO c .Sub oSub := ⟨fun dc r1 r2 s h => by
  obtain ⟨i, j, rfl, rfl, _, q⟩ := oInt_inv h
  cases r1; cases r2
  exact ro_subI (q _ _ _ Up.refl (.d _) s)⟩
theorem snd_div : SndO c .FloorDiv oDiv := ⟨fun dc r1 r2 s h => by
  obtain ⟨i, j, rfl, rfl, ⟨c1, c2⟩, q⟩ := oInt_inv h
  cases r1; cases r2
  exact ro_divI c1 c2 (by decide) (by decide) (q _ _ _ Up.refl (.d _) s)⟩
theorem snd_mod : SndO c .Mod oMod := ⟨fun dc r1 r2 s h => by
  obtain ⟨i, j, rfl, rfl, c1, q⟩ := oInt_inv h
  cases r1; cases r2
  exact ro_modI c1 (q _ _ _ Up.refl (.d _) s)⟩
theorem snd_pow : SndO c .Pow oPow := ⟨fun dc r1 r2 s h => by
  obtain ⟨i, j, rfl, rfl, c1, q⟩ := oInt_inv h
  cases r1; cases r2
  intro v w H m r1 r2
  cases r1; cases r2
  exact ⟨_, op_powX, i, j, rfl, rfl, c1, pack (.int _) m (q _ _ _ Up.refl (.d _) s)⟩⟩
theorem pow_lit {i j : Int} (h : (decide (0 ≤ j) && decide ((Builtin.Int.intBits i : Int) * j ≤ 2 ^ 27)) = true) : 0 ≤ j ∧ (Builtin.Int.intBits i : Int) * j ≤ 2 ^ 27 := by
  simpa using h
theorem pow_small {i j : Int} {a : Nat} (h : i.natAbs < 2 ^ a) (h0 : 0 < a) (h1 : 0 ≤ j) (hk : (a : Int) * j ≤ 2 ^ 27) : 0 ≤ j ∧ (Builtin.Int.intBits i : Int) * j ≤ 2 ^ 27 := by
  refine ⟨h1, Int.le_trans (Int.mul_le_mul_of_nonneg_right ?_ h1) hk⟩
  exact_mod_cast bits_of h h0
def oAdd : Op2 where
  run := fun x y st Q => match x, y with
    | .d (.int i), .d (.int j) => Q (.d (.int (i + j))) st
    | .d (.str i), .d (.str j) => i.length + j.length ≤ sizeLine ∧ Q (.d (.str (i ++ j))) st
    | .d (.tup i), .d (.tup j) => i.length + j.length ≤ sizeLine ∧ Q (.d (.tup (i ++ j))) st
    | _, _ => False
  mono := fun {x y st Q Q'} m h => by
    split at h
    · exact m _ _ h
    · exact ⟨h.1, m _ _ h.2⟩
    · exact ⟨h.1, m _ _ h.2⟩
    · exact h
theorem snd_add : SndO c .Add oAdd := ⟨fun {X ρ x y s t st M0 M Q} dc r1 r2 hs h => by
  dsimp only [oAdd] at h
  split at h
  · cases r1; cases r2; exact ro_addI (h _ _ _ Up.refl (.d _) hs)
  · cases r1; cases r2; exact ro_addS h.1 (h.2 _ _ _ Up.refl (.d _) hs)
  · rename_i i j
    cases r1; cases r2
    refine ro_catT (by rw [D.sl_len, D.sl_len]; exact h.1) ?_
    rw [← D.sl_app]
    exact h.2 _ _ _ Up.refl (.d (.tup (i ++ j))) hs
  · exact h.elim⟩
theorem D.sl_rep (xs : List D) : ∀ n : Nat, (List.replicate n (D.sl xs)).flatten = D.sl (List.replicate n xs).flatten
  | 0 => rfl
  | n + 1 => by rw [List.replicate_succ, List.replicate_succ, List.flatten_cons, List.flatten_cons, D.sl_app, D.sl_rep xs n]
def oMul : Op2 where
  run := fun x y st Q => match x, y with
    | .d (.int i), .d (.int j) => (Sm i ∧ Sm j) ∧ Q (.d (.int (i * j))) st
    | .d (.tup xs), .d (.int k) => (xs ≠ [] ∧ 2 ≤ k ∧ k ≤ 1000 ∧ xs.length ≤ 1000) ∧ Q (.d (.tup (List.replicate k.toNat xs).flatten)) st
    | _, _ => False
  mono := fun {x y st Q Q'} m h => by
    split at h
    · exact ⟨h.1, m _ _ h.2⟩
    · exact ⟨h.1, m _ _ h.2⟩
    · exact h
theorem snd_mul : SndO c .Mult oMul := ⟨fun {X ρ x y s t st M0 M Q} dc r1 r2 hs h => by
  dsimp only [oMul] at h
  split at h
  · cases r1; cases r2; exact ro_mulW h.1.1 h.1.2 (by decide) (h.2 _ _ _ Up.refl (.d _) hs)
  · rename_i xs k
    cases r1; cases r2
    obtain ⟨⟨a1, a2, a3, a4⟩, q⟩ := h
    refine ro_repT (fun z => a1 ?_) a2 a3 (by rw [D.sl_len]; exact a4) ?_
    · rw [D.sl_map] at z; exact List.map_eq_nil_iff.mp z
    · rw [D.sl_rep]; exact q _ _ _ Up.refl (.d (.tup _)) hs
  · exact h.elim⟩

/-- a list's items, of those that stay or may change -/
def lsV (st : Sto) (k : List D → Prop) : T → Prop
  | .d (.lst xs) => k xs
  | .loc j => match nth st j with
    | some (.lst xs) => k xs
    | some (.fz xs) => k xs
    | _ => False
  | _ => False
theorem lsV_mono {st : Sto} {k k' : List D → Prop} {t : T} (m : ∀ xs, k xs → k' xs) (h : lsV st k t) : lsV st k' t := by
  unfold lsV at *
  split at h
  · exact m _ h
  · split at h
    · exact m _ h
    · exact m _ h
    · exact h
  · exact h
/-- a list at hand -/
def LsM (M : Mem) (s : S) (xs : List S) : Prop := (∃ p, s = .ptr p ∧ (M p = some (.lst xs) ∨ M p = some (.fz xs))) ∨ s = .fzl xs
theorem lsV_inv {ρ : List Addr} {st : Sto} {M0 M : Mem} {k : List D → Prop} {t : T} {s : S} (r : TR c.mg ρ t s) (hs : StT c.mg ρ st M0 M) (h : lsV st k t) : ∃ xs, LsM M s (D.sl xs) ∧ k xs := by
  unfold lsV at h
  split at h
  · cases r; exact ⟨_, .inr rfl, h⟩
  · rename_i j
    rw [nth_eq] at h
    cases r with
    | loc e =>
      split at h
      · rename_i xs e2
        obtain ⟨m, h1, h2⟩ := hs.at e e2
        cases h2
        exact ⟨_, .inl ⟨_, rfl, .inl h1⟩, h⟩
      · rename_i xs e2
        obtain ⟨m, h1, h2⟩ := hs.at e e2
        cases h2
        exact ⟨_, .inl ⟨_, rfl, .inr h1⟩, h⟩
      · exact h.elim
  · exact h.elim
theorem lsm_get {K : PySem.W.Frag} {M : Mem} {H : Hp} {s : S} {xs : List S} {v : V} (i : LsM M s xs) (m : MemR K M H) (r : RV K H s v) : ∃ a vs, v = .ref a ∧ Rd H a (.lst vs) ∧ RVs K H xs vs := by
  rcases i with ⟨p, rfl, h | h⟩ | rfl
  · cases r
    obtain ⟨vs, h1, h2⟩ := m p _ h
    exact ⟨p, vs, rfl, .inl h1, h2⟩
  · cases r
    obtain ⟨o, vs, h1, h2⟩ := m p _ h
    exact ⟨p, vs, rfl, .inr ⟨o, h1⟩, h2⟩
  · cases r with
    | fzl a b => exact ⟨_, _, rfl, .inr ⟨_, a⟩, b⟩
/-- a list's or tuple's items -/
def sqV (st : Sto) (k : List D → Prop) : T → Prop
  | .d (.tup xs) => k xs
  | .d (.lst xs) => k xs
  | .loc j => match nth st j with
    | some (.lst xs) => k xs
    | _ => False
  | .scr xs => k (xs.map D.int)
  | _ => False
theorem sqV_mono {st : Sto} {k k' : List D → Prop} {t : T} (m : ∀ xs, k xs → k' xs) (h : sqV st k t) : sqV st k' t := by
  unfold sqV at *
  split at h
  · exact m _ h
  · exact m _ h
  · split at h
    · exact m _ h
    · exact h
  · exact m _ h
  · exact h
theorem sqV_inv {ρ : List Addr} {st : Sto} {M0 M : Mem} {k : List D → Prop} {t : T} {s : S} (r : TR c.mg ρ t s) (hs : StT c.mg ρ st M0 M) (h : sqV st k t) : ∃ xs, ItS M s (D.sl xs) ∧ k xs := by
  unfold sqV at h
  split at h
  · cases r; exact ⟨_, its_tup, h⟩
  · cases r; exact ⟨_, its_fzl, h⟩
  · rename_i j
    rw [nth_eq] at h
    cases r with
    | loc e =>
      split at h
      · rename_i xs e2
        obtain ⟨m, h1, h2⟩ := hs.at e e2
        cases h2
        exact ⟨_, its_lst h1, h⟩
      · exact h.elim
  · cases r; exact ⟨_, its_rdl, h⟩
  · exact h.elim

theorem op_catR {X : Cx} : OpR X (binaryOp .Add) (fun x y H Q => ∃ l b xs zs, x = .ref l ∧ y = .ref b ∧ Rd H l (.lst xs) ∧ Rd H b (.lst zs) ∧ xs.length + zs.length ≤ sizeLine ∧ ∀ p, H p = none → Q (.ref p) (upd H p (.lst (xs ++ zs)))) := by
  intro pins s σ H x y v u Q I rx ry h
  obtain ⟨l, b, xs, zs, rfl, rfl, hH, hB, hz, q⟩ := h
  cases rx
  cases ry
  obtain ⟨z, its, n, r, e⟩ := hH.ok I.hok
  obtain ⟨z2, its2, n2, r2, e2⟩ := hB.ok I.hok
  have hl := r.length
  have hl2 := r2.length
  refine PySem.P.add_list e e2 ?_ (by rw [List.size_toArray, List.size_toArray]; omega)
  have ea : its.toArray ++ its2.toArray = (its ++ its2).toArray := by simp
  rw [ea]
  exact ⟨.ref _, _, I.lnew (t' := s.toks) (r.append r2) (by rw [List.length_append]; omega), rfl, q _ I.fresh⟩
def lCat (A B : Ex) : ExL where
  run := fun env st Q Z => A.run env st (fun x st1 => B.run env st1 (fun y st2 => lsV st2 (fun xs => lsV st2 (fun ys => xs.length + ys.length ≤ sizeLine ∧ Q (xs ++ ys) st2) y) x) Z) Z
  mono := fun m n h => A.mono (fun _ _ h1 => B.mono (fun _ _ h2 => lsV_mono (fun _ h3 => lsV_mono (fun _ h4 => ⟨h4.1, m _ _ h4.2⟩) h3) h2) n h1) n h
theorem snd_cat {a b : Expr} {A B : Ex} {pos : Pos} (ha : SndE c a A) (hb : SndE c b B) : SndL c (.BinOp a .Add b pos) (lCat A B) := ⟨fun dc wi he hs z => by
  refine se_bin (ha.run dc wi he hs (A.mono (fun x st1 h1 ρ1 s M1 u1 r1 s1 => ?_) (fun _ _ _ q => q) z))
  refine hb.run dc wi (he.up u1) s1 (B.mono (fun y st2 h2 ρ2 t M2 u2 r2 s2 => ?_) (liftZ_up u1) h1)
  obtain ⟨xs, i1, h3⟩ := lsV_inv (TR.up u2 _ _ r1) s2 h2
  obtain ⟨ys, i2, hl, q⟩ := lsV_inv r2 s2 h3
  intro v w H m rv rw'
  obtain ⟨a, vs, rfl, d1, e1⟩ := lsm_get i1 m rv
  obtain ⟨b, ws, rfl, d2, e2⟩ := lsm_get i2 m rw'
  refine ⟨_, op_catR, a, b, vs, ws, rfl, rfl, d1, d2, by rw [← e1.length, ← e2.length, D.sl_len, D.sl_len]; exact hl, fun p hp => ?_⟩
  refine new_lst m (e1.append e2) hp fun p hp => ?_
  rw [← D.sl_app]
  exact q _ p _ (u1.trans u2) (.of s2 hp)⟩
def lRep (A B : Ex) : ExL where
  run := fun env st Q Z => A.run env st (fun x st1 => B.run env st1 (fun y st2 => match x, y with
    | .loc j, .d (.int k) => (match nth st2 j with
      | some (.lst xs) => (-(2 ^ 63) ≤ k ∧ k < 2 ^ 63 ∧ xs.length * k.toNat ≤ sizeLine) ∧ Q (List.replicate k.toNat xs).flatten st2
      | _ => False)
    | _, _ => False) Z) Z
  mono := fun {env st Q Q' Z Z'} m n h => A.mono (fun x _ h1 => B.mono (fun y st2 h2 => by
    split at h2
    · split at h2
      · exact ⟨h2.1, m _ _ h2.2⟩
      · exact h2
    · exact h2) n h1) n h
theorem snd_rep {a b : Expr} {A B : Ex} {pos : Pos} (ha : SndE c a A) (hb : SndE c b B) : SndL c (.BinOp a .Mult b pos) (lRep A B) := ⟨fun dc wi he hs z => by
  refine se_bin (ha.run dc wi he hs (A.mono (fun x st1 h1 ρ1 s M1 u1 r1 s1 => ?_) (fun _ _ _ q => q) z))
  refine hb.run dc wi (he.up u1) s1 (B.mono (fun y st2 h2 ρ2 t M2 u2 r2 s2 => ?_) (liftZ_up u1) h1)
  split at h2
  · rename_i j k
    rw [nth_eq] at h2
    cases r2
    cases (TR.up u2 _ _ r1) with
    | loc e =>
      split at h2
      · rename_i xs e2
        obtain ⟨m, h3, h4⟩ := s2.at e e2
        cases h4
        obtain ⟨⟨a1, a2, a3⟩, q⟩ := h2
        refine ro_repL h3 a1 a2 (by rw [D.sl_len]; exact a3) fun p hp => ?_
        rw [D.sl_rep]
        exact q _ p _ (u1.trans u2) (.of s2 hp)
      · exact h2.elim
  · exact h2.elim⟩

/-- the i-th, counted from the end below 0 -/
def atD {α : Type} (xs : List α) (i : Int) : Option α := match ixN xs.length i with
  | some k => xs[k]?
  | none => none
theorem atD_map {α β : Type} (f : α → β) (xs : List α) (i : Int) : atD (xs.map f) i = (atD xs i).map f := by
  unfold atD
  rw [List.length_map]
  cases ixN xs.length i with
  | none => rfl
  | some k => simp
theorem atI_D (xs : List D) (i : Int) : atI (D.sl xs) i = (atD xs i).map D.s := by
  rw [D.sl_map, ← atD_map]
  unfold atI atD
  cases ixN (xs.map D.s).length i <;> rfl
def oIx : Op2 where
  run := fun x y st Q => match y with
    | .d (.int i) => (match x with
      | .d (.tup xs) => ∃ v, atD xs i = some v ∧ Q (.d v) st
      | .d (.lst xs) => ∃ v, atD xs i = some v ∧ Q (.d v) st
      | .tup ts => ∃ v, atD ts i = some v ∧ Q v st
      | .scr xs => ∃ v, atD xs i = some v ∧ Q (.d (.int v)) st
      | .loc j => (match nth st j with
        | some (.lst xs) => ∃ v, atD xs i = some v ∧ Q (.d v) st
        | some (.lsT ts) => ∃ v, atD ts i = some v ∧ Q v st
        | _ => False)
      | _ => False)
    | _ => False
  mono := fun {x y st Q Q'} m h => by
    split at h
    · split at h
      · obtain ⟨v, e, q⟩ := h; exact ⟨v, e, m _ _ q⟩
      · obtain ⟨v, e, q⟩ := h; exact ⟨v, e, m _ _ q⟩
      · obtain ⟨v, e, q⟩ := h; exact ⟨v, e, m _ _ q⟩
      · obtain ⟨v, e, q⟩ := h; exact ⟨v, e, m _ _ q⟩
      · split at h
        · obtain ⟨v, e, q⟩ := h; exact ⟨v, e, m _ _ q⟩
        · obtain ⟨v, e, q⟩ := h; exact ⟨v, e, m _ _ q⟩
        · exact h
      · exact h
    · exact h
theorem atD_TR {ρ : List Addr} {ts : List T} {ss : List S} {i : Int} {t : T} (r : TRs c.mg ρ ts ss) (h : atD ts i = some t) : ∃ s, atI ss i = some s ∧ TR c.mg ρ t s := by
  unfold atD at h
  unfold atI
  rw [← r.len]
  cases e : ixN ts.length i with
  | none => rw [e] at h; cases h
  | some k =>
    rw [e] at h
    obtain ⟨s, h1, h2⟩ := r.getT h
    exact ⟨s, h1, h2⟩
theorem snd_oIx : SndX c oIx := ⟨fun {X ρ x y s t st M0 M Q} dc r1 r2 hs h => by
  have key : ∀ (xs : List D) (i : Int) (v : D), atD xs i = some v → atI (D.sl xs) i = some v.s := fun xs i v e => by rw [atI_D, e]; rfl
  dsimp only [oIx] at h
  split at h
  · rename_i i
    cases r2
    split at h
    · obtain ⟨v, e, q⟩ := h; cases r1; exact rx_tup (key _ _ _ e) (q _ _ _ Up.refl (.d v) hs)
    · obtain ⟨v, e, q⟩ := h; cases r1; exact rx_fzl (key _ _ _ e) (q _ _ _ Up.refl (.d v) hs)
    · obtain ⟨v, e, q⟩ := h
      cases r1 with
      | tup r1 =>
        obtain ⟨w, e1, e2⟩ := atD_TR r1 e
        exact rx_tup e1 (q _ _ _ Up.refl e2 hs)
    · obtain ⟨v, e, q⟩ := h
      cases r1
      exact rx_rdl (key _ _ _ (by rw [atD_map, e]; rfl)) (q _ _ _ Up.refl (.d (.int v)) hs)
    · rename_i j
      rw [nth_eq] at h
      cases r1 with
      | loc ea =>
        split at h
        · rename_i xs e2
          obtain ⟨v, e, q⟩ := h
          obtain ⟨m, h3, h4⟩ := hs.at ea e2
          cases h4
          exact rx_lst h3 (key _ _ _ e) (q _ _ _ Up.refl (.d v) hs)
        · rename_i ts e2
          obtain ⟨v, e, q⟩ := h
          obtain ⟨m, h3, h4⟩ := hs.at ea e2
          cases h4 with
          | lsT r =>
            obtain ⟨w, e1, e3⟩ := atD_TR r e
            exact rx_lst h3 e1 (q _ _ _ Up.refl e3 hs)
        · exact h.elim
    · exact h.elim
  · exact h.elim⟩

def oCmp (g : Int → Int → Bool) : Op2 := oInt (fun _ _ => True) fun i j => .bl (g i j)
def oLt : Op2 := oCmp fun i j => decide (i < j)
def oLe : Op2 := oCmp fun i j => decide (i ≤ j)
def oGt : Op2 := oCmp fun i j => decide (j < i)
def oGe : Op2 := oCmp fun i j => decide (j ≤ i)
theorem snd_lt : SndC c .Lt oLt := ⟨fun dc r1 r2 s h => by
  obtain ⟨i, j, rfl, rfl, _, q⟩ := oInt_inv h
  cases r1; cases r2; exact rc_ltI (q _ _ _ Up.refl (.d _) s)⟩
theorem snd_le : SndC c .LtE oLe := ⟨fun dc r1 r2 s h => by
  obtain ⟨i, j, rfl, rfl, _, q⟩ := oInt_inv h
  cases r1; cases r2; exact rc_leI (q _ _ _ Up.refl (.d _) s)⟩
theorem snd_gt : SndC c .Gt oGt := ⟨fun dc r1 r2 s h => by
  obtain ⟨i, j, rfl, rfl, _, q⟩ := oInt_inv h
  cases r1; cases r2; exact rc_gtI (q _ _ _ Up.refl (.d _) s)⟩
theorem snd_ge : SndC c .GtE oGe := ⟨fun dc r1 r2 s h => by
  obtain ⟨i, j, rfl, rfl, _, q⟩ := oInt_inv h
  cases r1; cases r2; exact rc_geI (q _ _ _ Up.refl (.d _) s)⟩
mutual
theorem dat_of (M : Mem) : ∀ x : D, x.py.canLay0 = true → Dat M x.s x.py
  | .non, _ => .non
  | .bl b, _ => .bl b
  | .int i, _ => .int i
  | .str x, _ => .str x
  | .tup xs, h => .tup (dats_of M xs h)
  | .lst xs, h => .fzl (dats_of M xs h)
  | .dct, h => by cases h
theorem dats_of (M : Mem) : ∀ xs : List D, PyData.canLayAll0 (D.pyl xs) = true → Dats M (D.sl xs) (D.pyl xs)
  | [], _ => .nil
  | x :: xs, h => by
    have h : (x.py.canLay0 && PyData.canLayAll0 (D.pyl xs)) = true := h
    obtain ⟨h1, h2⟩ := Bool.and_eq_true_iff.mp h
    exact .cons (dat_of M x h1) (dats_of M xs h2)
end
/-- == of two values -/
def D.eqq : D → D → Bool
  | .int i, .int j => decide (i = j)
  | x, y => PyData.eqv x.py y.py
theorem D.eqq_py (x y : D) : x.eqq y = PyData.eqv x.py y.py := by
  unfold D.eqq
  split
  · rename_i i j
    show decide (i = j) = (i == j)
    by_cases h : i = j <;> simp [h]
  · rfl
/-- shallow enough to be compared -/
def D.shp (x : D) : Prop := SeqAt.shaped x.py = true
theorem shp_int {i : Int} : D.shp (.int i) := by unfold D.shp D.py; rfl
/-- a value or a list at a place, as a value -/
def vwD (st : Sto) (k : D → Prop) : T → Prop
  | .d x => k x
  | .loc j => match nth st j with
    | some (.lst xs) => k (.lst xs)
    | _ => False
  | _ => False
theorem vwD_mono {st : Sto} {k k' : D → Prop} {t : T} (m : ∀ x, k x → k' x) (h : vwD st k t) : vwD st k' t := by
  unfold vwD at *
  split at h
  · exact m _ h
  · split at h
    · exact m _ h
    · exact h
  · exact h
theorem vwD_inv {ρ : List Addr} {st : Sto} {M0 M : Mem} {k : D → Prop} {t : T} {s : S} (r : TR c.mg ρ t s) (hs : StT c.mg ρ st M0 M) (h : vwD st k t) : ∃ x : D, (x.py.canLay0 = true → Dat M s x.py) ∧ k x := by
  unfold vwD at h
  split at h
  · cases r; exact ⟨_, dat_of M _, h⟩
  · rename_i j
    rw [nth_eq] at h
    cases r with
    | loc e =>
      split at h
      · rename_i xs e2
        obtain ⟨m, h1, h2⟩ := hs.at e e2
        cases h2
        exact ⟨.lst xs, fun h => .lst h1 (dats_of M xs h), h⟩
      · exact h.elim
  · exact h.elim
def oEq : Op2 where
  run := fun x y st Q => vwD st (fun a => vwD st (fun b => (D.shp a ∧ D.shp b) ∧ Q (.d (.bl (D.eqq a b))) st) y) x
  mono := fun m h => vwD_mono (fun _ h1 => vwD_mono (fun _ h2 => ⟨h2.1, m _ _ h2.2⟩) h1) h
def oNe : Op2 where
  run := fun x y st Q => vwD st (fun a => vwD st (fun b => (D.shp a ∧ D.shp b) ∧ Q (.d (.bl (!D.eqq a b))) st) y) x
  mono := fun m h => vwD_mono (fun _ h1 => vwD_mono (fun _ h2 => ⟨h2.1, m _ _ h2.2⟩) h1) h
theorem snd_eq : SndC c .Eq oEq := ⟨fun {X ρ x y s t st M0 M Q} dc r1 r2 hs h => by
  obtain ⟨a, d1, h1⟩ := vwD_inv r1 hs h
  obtain ⟨b, d2, ⟨h2, h3⟩, q⟩ := vwD_inv r2 hs h1
  refine rc_eqD dc.dn (d1 (SeqAt.canLay_of_shaped h2)) (d2 (SeqAt.canLay_of_shaped h3)) h2 h3 ?_
  rw [← D.eqq_py]
  exact q _ _ _ Up.refl (.d _) hs⟩
theorem snd_ne : SndC c .NotEq oNe := ⟨fun {X ρ x y s t st M0 M Q} dc r1 r2 hs h => by
  obtain ⟨a, d1, h1⟩ := vwD_inv r1 hs h
  obtain ⟨b, d2, ⟨h2, h3⟩, q⟩ := vwD_inv r2 hs h1
  refine rc_neD dc.dn (d1 (SeqAt.canLay_of_shaped h2)) (d2 (SeqAt.canLay_of_shaped h3)) h2 h3 ?_
  rw [← D.eqq_py]
  exact q _ _ _ Up.refl (.d _) hs⟩
def isNonT : T → Bool
  | .d .non => true
  | _ => false
theorem isNonT_s {ρ : List Addr} {t : T} {s : S} (r : TR c.mg ρ t s) : isNone s = isNonT t := by
  cases r with
  | d x => cases x <;> rfl
  | loc _ => rfl
  | tup _ => rfl
  | exn _ _ => rfl
  | scr _ => rfl
def oIsN : Op2 where
  run := fun x y st Q => match y with
    | .d .non => Q (.d (.bl (isNonT x))) st
    | _ => False
  mono := fun m h => by
    split at h
    · exact m _ _ h
    · exact h
def oNotN : Op2 where
  run := fun x y st Q => match y with
    | .d .non => Q (.d (.bl (!isNonT x))) st
    | _ => False
  mono := fun m h => by
    split at h
    · exact m _ _ h
    · exact h
theorem snd_isN : SndC c .Is oIsN := ⟨fun {X ρ x y s t st M0 M Q} dc r1 r2 hs h => by
  dsimp only [oIsN] at h
  split at h
  · cases r2
    refine rc_isN ?_
    rw [isNonT_s r1]
    exact h _ _ _ Up.refl (.d _) hs
  · exact h.elim⟩
theorem snd_notN : SndC c .IsNot oNotN := ⟨fun {X ρ x y s t st M0 M Q} dc r1 r2 hs h => by
  dsimp only [oNotN] at h
  split at h
  · cases r2
    refine rc_notN ?_
    rw [isNonT_s r1]
    exact h _ _ _ Up.refl (.d _) hs
  · exact h.elim⟩
def oNeg : Op1 where
  run := fun x st Q => match x with
    | .d (.int i) => Q (.d (.int (-i))) st
    | _ => False
  mono := fun m h => by
    split at h
    · exact m _ _ h
    · exact h
theorem snd_neg : SndU c .USub oNeg := ⟨fun {X ρ x s st M0 M Q} dc r1 hs h => by
  dsimp only [oNeg] at h
  split at h
  · cases r1; exact ru_neg (h _ _ _ Up.refl (.d _) hs)
  · exact h.elim⟩
end
end Sy

set_option Elab.async false
set_option linter.all false
set_option maxRecDepth 100000
namespace Sy
open PySem PySem.Spec PyProof.Rows L2

structure Kont where
  nx : En → Sto → Prop
  rt : T → Sto → Prop
  bk : En → Sto → Prop
  ct : En → Sto → Prop
  ex : En → Nat → D → Sto → Prop
structure Kont.Le (k k' : Kont) : Prop where
  nx : ∀ e s, k.nx e s → k'.nx e s
  rt : ∀ e s, k.rt e s → k'.rt e s
  bk : ∀ e s, k.bk e s → k'.bk e s
  ct : ∀ e s, k.ct e s → k'.ct e s
  ex : ∀ e c v s, k.ex e c v s → k'.ex e c v s
theorem Kont.Le.refl {k : Kont} : k.Le k := ⟨fun _ _ h => h, fun _ _ h => h, fun _ _ h => h, fun _ _ h => h, fun _ _ _ _ h => h⟩
/-- a statement, a block -/
structure Cmd where
  run : En → Sto → Kont → Prop
  mono : ∀ {env st k k'}, Kont.Le k k' → run env st k → run env st k'
structure DS (c : Ct) (X : Cx) : Prop extends DC c X where
  dx : DX X c.N c.sc c.k
  de : DE X
/-- how the ends stand to the symbolic ones -/
def kon (mg : Str → Option Value) (ρ : List Addr) (M0 : Mem) (D : SD) (ZX : Ev → Addr → S → Mem → Prop) : Kont where
  nx := fun env' st' => ∀ ρ' E' M', Up ρ ρ' → EnvT mg ρ' env' E' → StT mg ρ' st' M0 M' → D.nx E' M'
  rt := fun v st' => ∀ ρ' s M', Up ρ ρ' → TR mg ρ' v s → StT mg ρ' st' M0 M' → D.rt s M'
  bk := fun env' st' => ∀ ρ' E' M', Up ρ ρ' → EnvT mg ρ' env' E' → StT mg ρ' st' M0 M' → D.bk E' M'
  ct := fun env' st' => ∀ ρ' E' M', Up ρ ρ' → EnvT mg ρ' env' E' → StT mg ρ' st' M0 M' → D.ct E' M'
  ex := fun env' c v st' => ∀ ρ' E' M', Up ρ ρ' → EnvT mg ρ' env' E' → StT mg ρ' st' M0 M' → ZX E' (clOf mg c) v.s M'
theorem kon_up {mg : Str → Option Value} {ρ ρ1 : List Addr} {M0 : Mem} {D : SD} {ZX : Ev → Addr → S → Mem → Prop} (u : Up ρ ρ1) : (kon mg ρ M0 D ZX).Le (kon mg ρ1 M0 D ZX) :=
  ⟨fun _ _ h ρ' E' M' u' => h ρ' E' M' (u.trans u'), fun _ _ h ρ' E' M' u' => h ρ' E' M' (u.trans u'), fun _ _ h ρ' E' M' u' => h ρ' E' M' (u.trans u'), fun _ _ h ρ' E' M' u' => h ρ' E' M' (u.trans u'), fun _ _ _ _ h ρ' E' M' u' => h ρ' E' M' (u.trans u')⟩
structure SndS (c : Ct) (s : Stmt) (m : Cmd) : Prop where
  run : ∀ {X : Cx} {G : Hp} {ZX : Ev → Addr → S → Mem → Prop} {ρ : List Addr} {env : En} {E : Ev} {st : Sto} {M0 M : Mem} {D : SD}, DS c X → WishO X G ZX → EnvT c.mg ρ env E → StT c.mg ρ st M0 M →
    m.run env st (kon c.mg ρ M0 D ZX) → SS X G s E M D
structure SndSs (c : Ct) (s : List Stmt) (m : Cmd) : Prop where
  run : ∀ {X : Cx} {G : Hp} {ZX : Ev → Addr → S → Mem → Prop} {ρ : List Addr} {env : En} {E : Ev} {st : Sto} {M0 M : Mem} {D : SD}, DS c X → WishO X G ZX → EnvT c.mg ρ env E → StT c.mg ρ st M0 M →
    m.run env st (kon c.mg ρ M0 D ZX) → SSs X G s E M D

structure Tg where
  run : T → En → Sto → (En → Sto → Prop) → Prop
  mono : ∀ {v env st k k'}, (∀ e s, k e s → k' e s) → run v env st k → run v env st k'
structure Tgs where
  run : List T → En → Sto → (En → Sto → Prop) → Prop
  mono : ∀ {v env st k k'}, (∀ e s, k e s → k' e s) → run v env st k → run v env st k'
def konN (mg : Str → Option Value) (ρ : List Addr) (M0 : Mem) (n : Ev → Mem → Prop) : En → Sto → Prop := fun env' st' => ∀ ρ' E' M', Up ρ ρ' → EnvT mg ρ' env' E' → StT mg ρ' st' M0 M' → n E' M'
structure SndG (c : Ct) (tg : Expr) (m : Tg) : Prop where
  run : ∀ {X : Cx} {G : Hp} {ρ : List Addr} {env : En} {E : Ev} {st : Sto} {M0 M : Mem} {v : T} {s : S} {n : Ev → Mem → Prop}, DS c X → EnvT c.mg ρ env E → StT c.mg ρ st M0 M → TR c.mg ρ v s →
    m.run v env st (konN c.mg ρ M0 n) → SG X G tg s E M n
structure SndGs (c : Ct) (tg : List Expr) (m : Tgs) : Prop where
  run : ∀ {X : Cx} {G : Hp} {ρ : List Addr} {env : En} {E : Ev} {st : Sto} {M0 M : Mem} {v : List T} {s : List S} {n : Ev → Mem → Prop}, DS c X → EnvT c.mg ρ env E → StT c.mg ρ st M0 M → TRs c.mg ρ v s →
    m.run v env st (konN c.mg ρ M0 n) → SGs X G tg s E M n
def gName (i : Nat) : Tg where
  run := fun v env st k => putK env i (some v) fun e => k e st
  mono := fun m h => putK_mono (fun _ h1 => m _ _ h1) h
def gNil : Tgs where
  run := fun vs env st k => match vs with
    | [] => k env st
    | _ :: _ => False
  mono := fun m h => by
    split at h
    · exact m _ _ h
    · exact h
def gCons (g : Tg) (gs : Tgs) : Tgs where
  run := fun vs env st k => match vs with
    | [] => False
    | v :: vs => g.run v env st fun e s => gs.run vs e s k
  mono := fun m h => by
    split at h
    · exact h
    · exact g.mono (fun _ _ h1 => gs.mono m h1) h
/-- items as values -/
def dT : List D → List T
  | [] => []
  | x :: xs => .d x :: dT xs
theorem dT_map : ∀ xs : List D, dT xs = xs.map T.d
  | [] => rfl
  | x :: xs => by rw [dT, dT_map xs]; rfl
/-- n items, then k -/
def chkN {α : Type} : Nat → List α → Prop → Prop
  | 0, [], k => k
  | n + 1, _ :: xs, k => chkN n xs k
  | _, _, _ => False
theorem chkN_iff {α : Type} : ∀ {n : Nat} {xs : List α} {k : Prop}, chkN n xs k ↔ xs.length = n ∧ k
  | 0, [], k => by simp [chkN]
  | n + 1, _ :: xs, k => by rw [chkN, chkN_iff]; simp
  | 0, _ :: _, k => by simp [chkN]
  | n + 1, [], k => by simp [chkN]
def gTup (n : Nat) (gs : Tgs) : Tg where
  run := fun v env st k => match v with
    | .d (.tup xs) => chkN n xs (gs.run (dT xs) env st k)
    | .tup ts => chkN n ts (gs.run ts env st k)
    | _ => False
  mono := fun m h => by
    split at h
    · rw [chkN_iff] at h ⊢; exact ⟨h.1, gs.mono m h.2⟩
    · rw [chkN_iff] at h ⊢; exact ⟨h.1, gs.mono m h.2⟩
    · exact h
section
variable {c : Ct} {e a b o tg : Expr} {es tgs : List Expr} {A B C : Ex} {As : Exs} {pos : Pos} {g : Tg} {gs : Tgs} {sts : List Stmt} {s : Stmt} {A' B' : Cmd}
theorem sg_nm {x : Str} (i : Nat) (h : lcB c.N c.sc i x = true) : SndG c (.Name x pos) (gName i) := ⟨fun ds he hs r z => by
  obtain ⟨hi, q⟩ := putK_iff.mp z
  exact dx_tgt ds.dx i h (q _ _ _ Up.refl (he.set r i) hs)⟩
theorem sg_nl : SndGs c [] gNil := ⟨fun {X G ρ env E st M0 M v s n} ds he hs r z => by
  cases r with
  | nil => exact sgs_nil (z _ _ _ Up.refl he hs)
  | cons r1 r2 => exact absurd z id⟩
theorem sg_cn (h1 : SndG c tg g) (h2 : SndGs c tgs gs) (hst : ∀ env, (assignEach (tg :: tgs) env).map (·.2) = assign tg env :: (assignEach tgs env).map (·.2) := by intro _; rfl) : SndGs c (tg :: tgs) (gCons g gs) := ⟨fun {X G ρ env E st M0 M v s n} ds he hs r z => by
  cases r with
  | nil => exact absurd z id
  | cons r1 r2 =>
    refine sgs_cons (h1.run ds he hs r1 (g.mono (fun e1 s1 q ρ1 E1 M1 u1 he1 hs1 => ?_) z)) (hst _)
    exact h2.run ds he1 hs1 (TRs.up u1 _ _ r2) (gs.mono (fun e2 s2 q2 ρ2 E2 M2 u2 => q2 ρ2 E2 M2 (u1.trans u2)) q)⟩
theorem sg_tp {kk n : Nat} (h : SndGs c tgs gs) (hn : ∀ env, (assignEach tgs env).length = n := by intro _; rfl) (hst : ∀ env, (assignEach tgs env).findIdx? (·.1) = none := by intro _; rfl) : SndG c (.Tuple tgs kk pos) (gTup n gs) := ⟨fun {X G ρ env E st M0 M v s n} ds he hs r z => by
  dsimp only [gTup] at z
  split at z
  · rename_i xs
    obtain ⟨hl, z⟩ := chkN_iff.mp z
    rw [dT_map] at z
    cases r
    exact sg_tup (h.run ds he hs (TRs.ds xs) z) ds.dx.calm (by rw [hn, D.sl_len, hl]) (hst _)
  · obtain ⟨hl, z⟩ := chkN_iff.mp z
    cases r with
    | tup r => exact sg_tup (h.run ds he hs r z) ds.dx.calm (by rw [hn, ← r.len, hl]) (hst _)
  · exact z.elim⟩
def sNil : Cmd where
  run := fun env st k => k.nx env st
  mono := fun l h => l.nx _ _ h
def sCons (A B : Cmd) : Cmd where
  run := fun env st k => A.run env st { k with nx := fun e s => B.run e s k }
  mono := fun l h => by
    refine A.mono ?_ h
    exact ⟨fun _ _ h1 => B.mono l h1, l.rt, l.bk, l.ct, l.ex⟩
def sRet (A : Ex) : Cmd where
  run := fun env st k => A.run env st k.rt (k.ex env)
  mono := fun l h => A.mono l.rt (l.ex _) h
def sRetN : Cmd where
  run := fun _ st k => k.rt (.d .non) st
  mono := fun l h => l.rt _ _ h
def sPass : Cmd := sNil
def sBreak : Cmd where
  run := fun env st k => k.bk env st
  mono := fun l h => l.bk _ _ h
def sCont : Cmd where
  run := fun env st k => k.ct env st
  mono := fun l h => l.ct _ _ h
def sExpr (A : Ex) : Cmd where
  run := fun env st k => A.run env st (fun _ s => k.nx env s) (k.ex env)
  mono := fun l h => A.mono (fun _ _ h1 => l.nx _ _ h1) (l.ex _) h
def sSet (i : Nat) (A : Ex) : Cmd where
  run := fun env st k => A.run env st (fun v s => putK env i (some v) fun e => k.nx e s) (k.ex env)
  mono := fun l h => A.mono (fun _ _ h1 => putK_mono (fun _ h2 => l.nx _ _ h2) h1) (l.ex _) h
def sAsg (g : Tg) (A : Ex) : Cmd where
  run := fun env st k => A.run env st (fun v s => g.run v env s k.nx) (k.ex env)
  mono := fun l h => A.mono (fun _ _ h1 => g.mono l.nx h1) (l.ex _) h
def sPar (i j : Nat) (A : Exs) : Cmd where
  run := fun env st k => A.run env st (fun vs s => match vs with
    | [v, w] => putK env i (some v) fun e => putK e j (some w) fun e => k.nx e s
    | _ => False) (k.ex env)
  mono := fun l h => A.mono (fun _ _ h1 => by
    split at h1
    · exact putK_mono (fun _ h2 => putK_mono (fun _ h3 => l.nx _ _ h3) h2) h1
    · exact h1) (l.ex _) h
def sPar3 (i j n : Nat) (A : Exs) : Cmd where
  run := fun env st k => A.run env st (fun vs s => match vs with
    | [v, w, u] => putK env i (some v) fun e => putK e j (some w) fun e => putK e n (some u) fun e => k.nx e s
    | _ => False) (k.ex env)
  mono := fun l h => A.mono (fun _ _ h1 => by
    split at h1
    · exact putK_mono (fun _ h2 => putK_mono (fun _ h3 => putK_mono (fun _ h4 => l.nx _ _ h4) h3) h2) h1
    · exact h1) (l.ex _) h
def sIf (C : Ex) (A B : Cmd) : Cmd where
  run := fun env st k => C.run env st (fun x st1 => isB st1 (fun b st1 => (b = true → A.run env st1 k) ∧ (b = false → B.run env st1 k)) x) (k.ex env)
  mono := fun l h => C.mono (fun _ _ h1 => isB_mono (fun _ _ h2 => ⟨fun z => A.mono l (h2.1 z), fun z => B.mono l (h2.2 z)⟩) h1) (l.ex _) h
theorem sb_nl : SndSs c [] sNil := ⟨fun ds wi he hs z => sb_nil (z _ _ _ Up.refl he hs)⟩
theorem sb_cn (h1 : SndS c s A') (h2 : SndSs c sts B') : SndSs c (s :: sts) (sCons A' B') := ⟨fun ds wi he hs z => by
  refine sb_cons (h1.run ds wi he hs ?_)
  refine A'.mono ?_ z
  refine ⟨fun e1 s1 q ρ1 E1 M1 u1 he1 hs1 => ?_, fun _ _ h => h, fun _ _ h => h, fun _ _ h => h, fun _ _ _ _ h => h⟩
  exact h2.run ds wi he1 hs1 (B'.mono (kon_up u1) q)⟩
theorem sb_on (h1 : SndS c s A') : SndSs c [s] A' := ⟨fun ds wi he hs z => sb_one (h1.run ds wi he hs z)⟩
section
variable {mg : Str → Option Value} {ρ : List Addr} {M0 : Mem} {D : SD} {ZX : Ev → Addr → S → Mem → Prop} {env : En} {E : Ev}
theorem kexZ (he : EnvT mg ρ env E) : ∀ cc v s, (kon mg ρ M0 D ZX).ex env cc v s → liftZ mg ρ M0 (ZX E) cc v s := fun _ _ _ h ρ' M' u hs => h ρ' E M' u (he.up u) hs
end
theorem ss_rt (ha : SndE c e A) : SndS c (.Return (some e) pos) (sRet A) := ⟨fun ds wi he hs z => ss_ret (ha.run ds.toDC wi he hs (A.mono (fun _ _ h => h) (kexZ he) z))⟩
theorem ss_rtN : SndS c (.Return none pos) sRetN := ⟨fun ds wi he hs z => ss_retN (z _ _ _ Up.refl (.d .non) hs)⟩
theorem ss_ps : SndS c (.Pass pos) sPass := ⟨fun ds wi he hs z => ss_pass (z _ _ _ Up.refl he hs)⟩
theorem ss_br : SndS c (.Break pos) sBreak := ⟨fun ds wi he hs z => ss_break (z _ _ _ Up.refl he hs)⟩
theorem ss_cn : SndS c (.Continue pos) sCont := ⟨fun ds wi he hs z => ss_cont (z _ _ _ Up.refl he hs)⟩
theorem ss_ex (ha : SndE c e A) (hw : ∀ env, swapsWith e none pos.line env = pure false := by intro _; rfl) : SndS c (.Expr e pos) (sExpr A) := ⟨fun ds wi he hs z => ss_expr (ha.run ds.toDC wi he hs (A.mono (fun _ _ h1 ρ1 _ M1 u1 _ s1 => h1 _ _ _ u1 (he.up u1) s1) (kexZ he) z)) (hw _)⟩
theorem ss_st {x : Str} {pos' : Pos} (i : Nat) (h : lcB c.N c.sc i x = true) (ha : SndE c e A) (hw : ∀ env, swapsWith e (some (.Name x pos')) pos.line env = pure false := by intro _; rfl) : SndS c (.Assign [.Name x pos'] e pos) (sSet i A) := ⟨fun ds wi he hs z => by
  refine dx_set ds.dx i h (hw _) (ha.run ds.toDC wi he hs (A.mono (fun v s1 h1 ρ1 t M1 u1 r1 s1 => ?_) (kexZ he) z))
  obtain ⟨_, q⟩ := putK_iff.mp h1
  exact q _ _ _ u1 ((he.up u1).set r1 i) s1⟩
theorem ss_as (hg : SndG c tg g) (ha : SndE c e A) (hs' : ∀ env, swapsWithSole [tg] e pos.line env = pure false := by intro _; rfl) (hw : ∀ env, swappedStores [tg] e env = pure none := by intro _; rfl)
    (h1 : ∀ env, (assignEach [tg] env).map (·.2) = [assign tg env] := by intro _; rfl) : SndS c (.Assign [tg] e pos) (sAsg g A) := ⟨fun ds wi he hs z => by
  refine ss_asg (ha.run ds.toDC wi he hs (A.mono (fun v s1 h1 ρ1 t M1 u1 r1 s1 => ?_) (kexZ he) z)) (hs' _) (hw _) (h1 _)
  exact hg.run ds (he.up u1) s1 r1 (g.mono (fun _ _ q ρ2 E2 M2 u2 => q ρ2 E2 M2 (u1.trans u2)) h1)⟩
theorem ss_pr {x y : Str} {px py pt : Pos} {kt k2 pt2} (i j : Nat) (hi : loB c.N c.sc i x = true) (hj : loB c.N c.sc j y = true) (hij : i ≠ j) (ha : SndA c [a, b] As)
    (hw : ∀ env : PySem.Env, env.scope = c.sc → swappedStores [.Tuple [.Name x px, .Name y py] kt pt] (.Tuple [a, b] k2 pt2) env = pure (some [x, y])) (hs' : ∀ env, swapsWithSole [.Tuple [.Name x px, .Name y py] kt pt] (.Tuple [a, b] k2 pt2) pos.line env = pure false := by intro _; rfl) :
    SndS c (.Assign [.Tuple [.Name x px, .Name y py] kt pt] (.Tuple [a, b] k2 pt2) pos) (sPar i j As) := ⟨fun ds wi he hs z => by
  refine dx_par ds.dx i j hi hj hij (hw _ ds.dx.sc) (hs' _) (ha.run ds.toDC wi he hs (As.mono (fun vs s1 h1 ρ1 t M1 u1 r1 s1 => ?_) (kexZ he) z))
  split at h1
  · cases r1 with
    | cons r1 r2 => cases r2 with
      | cons r2 r3 => cases r3 with
        | nil =>
          obtain ⟨_, q⟩ := putK_iff.mp h1
          obtain ⟨_, q⟩ := putK_iff.mp q
          exact ⟨_, _, rfl, q _ _ _ u1 (((he.up u1).set r1 i).set r2 j) s1⟩
  · exact h1.elim⟩
theorem ss_pr3 {x y w : Str} {px py pw pt : Pos} {kt k2 pt2} (i j n : Nat) (hi : loB c.N c.sc i x = true) (hj : loB c.N c.sc j y = true) (hn : loB c.N c.sc n w = true) (hij : i ≠ j) (hin : i ≠ n) (hjn : j ≠ n) (ha : SndA c [a, b, o] As)
    (hw : ∀ env : PySem.Env, env.scope = c.sc → swappedStores [.Tuple [.Name x px, .Name y py, .Name w pw] kt pt] (.Tuple [a, b, o] k2 pt2) env = pure (some [x, y, w])) (hs' : ∀ env, swapsWithSole [.Tuple [.Name x px, .Name y py, .Name w pw] kt pt] (.Tuple [a, b, o] k2 pt2) pos.line env = pure false := by intro _; rfl) :
    SndS c (.Assign [.Tuple [.Name x px, .Name y py, .Name w pw] kt pt] (.Tuple [a, b, o] k2 pt2) pos) (sPar3 i j n As) := ⟨fun ds wi he hs z => by
  refine dx_par3 ds.dx i j n hi hj hn hij hin hjn (hw _ ds.dx.sc) (hs' _) (ha.run ds.toDC wi he hs (As.mono (fun vs s1 h1 ρ1 t M1 u1 r1 s1 => ?_) (kexZ he) z))
  split at h1
  · cases r1 with
    | cons r1 r2 => cases r2 with
      | cons r2 r3 => cases r3 with
        | cons r3 r4 => cases r4 with
          | nil =>
            obtain ⟨_, q⟩ := putK_iff.mp h1
            obtain ⟨_, q⟩ := putK_iff.mp q
            obtain ⟨_, q⟩ := putK_iff.mp q
            exact ⟨_, _, _, rfl, q _ _ _ u1 ((((he.up u1).set r1 i).set r2 j).set r3 n) s1⟩
  · exact h1.elim⟩
theorem ss_fi {t : Expr} {S1 S2 : List Stmt} (hc : SndT c t C) (ha : SndSs c S1 A') (hb : SndSs c S2 B') : SndS c (.If t S1 S2 pos) (sIf C A' B') := ⟨fun ds wi he hs z => by
  refine ss_if (hc.run ds.toDC wi he hs (C.mono (fun x st1 h1 => isB_mono (fun k st2 h2 ρ1 M1 u1 s1 => ?_) h1) (kexZ he) z))
  exact ⟨fun e => ha.run ds wi (he.up u1) s1 (A'.mono (kon_up u1) (h2.1 e)), fun e => hb.run ds wi (he.up u1) s1 (B'.mono (kon_up u1) (h2.2 e))⟩⟩

def kilE : En → List Nat → En
  | e, [] => e
  | e, i :: is => kilE (e.set i none) is
def kilK : List Nat → En → (En → Prop) → Prop
  | [], e, k => k e
  | i :: is, e, k => putK e i none fun e => kilK is e k
theorem kilK_inv : ∀ {is : List Nat} {e : En} {k : En → Prop}, kilK is e k → k (kilE e is)
  | [], _, _, h => h
  | i :: is, e, k, h => by
    have h2 : i < e.length ∧ kilK is (e.set i none) k := putK_iff.mp h
    exact kilK_inv (is := is) h2.2
theorem kilK_mono : ∀ {is : List Nat} {e : En} {k k' : En → Prop}, (∀ e, k e → k' e) → kilK is e k → kilK is e k'
  | [], _, _, _, m, h => m _ h
  | i :: is, e, _, _, m, h => putK_mono (fun _ h1 => kilK_mono m h1) h
theorem EnvT.kil {mg : Str → Option Value} {ρ : List Addr} : ∀ {is : List Nat} {e : En} {E : Ev}, EnvT mg ρ e E → EnvT mg ρ (kilE e is) E
  | [], _, _, h => h
  | i :: is, _, _, h => EnvT.kil (is := is) (h.drop i)
/-- slots forgotten behind -/
def sKil (is : List Nat) (A : Cmd) : Cmd where
  run := fun env st k => A.run env st { k with nx := fun e s => kilK is e fun e => k.nx e s, ct := fun e s => kilK is e fun e => k.ct e s }
  mono := fun l h => by
    refine A.mono ?_ h
    exact ⟨fun _ _ h1 => kilK_mono (fun _ h2 => l.nx _ _ h2) h1, l.rt, l.bk, fun _ _ h1 => kilK_mono (fun _ h2 => l.ct _ _ h2) h1, l.ex⟩
/-- .. ahead -/
def sKil0 (is : List Nat) (A : Cmd) : Cmd where
  run := fun env st k => kilK is env fun e => A.run e st k
  mono := fun l h => kilK_mono (fun _ h1 => A.mono l h1) h
theorem kon_kil {mg : Str → Option Value} {ρ : List Addr} {M0 : Mem} {D : SD} {ZX : Ev → Addr → S → Mem → Prop} (is : List Nat) : Kont.Le { kon mg ρ M0 D ZX with nx := fun e s => kilK is e fun e => (kon mg ρ M0 D ZX).nx e s, ct := fun e s => kilK is e fun e => (kon mg ρ M0 D ZX).ct e s } (kon mg ρ M0 D ZX) :=
  ⟨fun _ _ h1 ρ1 E1 M1 u1 he1 hs1 => kilK_inv h1 _ _ _ u1 he1.kil hs1, fun _ _ h => h, fun _ _ h => h, fun _ _ h1 ρ1 E1 M1 u1 he1 hs1 => kilK_inv h1 _ _ _ u1 he1.kil hs1, fun _ _ _ _ h => h⟩
theorem sb_kil {is : List Nat} (h : SndSs c sts A') : SndSs c sts (sKil is A') := ⟨fun ds wi he hs z => h.run ds wi he hs (A'.mono (kon_kil is) z)⟩
theorem ss_kil {is : List Nat} (h : SndS c s A') : SndS c s (sKil is A') := ⟨fun ds wi he hs z => h.run ds wi he hs (A'.mono (kon_kil is) z)⟩
theorem ss_kil0 {is : List Nat} (h : SndS c s A') : SndS c s (sKil0 is A') := ⟨fun ds wi he hs z => h.run ds wi he.kil hs (kilK_inv z)⟩
end
end Sy

set_option Elab.async false
set_option linter.all false
set_option maxRecDepth 100000
namespace Sy
open PySem PySem.Spec PyProof.Rows L2

section
variable {mg : Str → Option Value} {ρ : List Addr}
mutual
theorem TR.fn : ∀ (t : T) (s s' : S), TR mg ρ t s → TR mg ρ t s' → s = s'
  | .d x, _, _, h, h' => by cases h; cases h'; rfl
  | .loc i, _, _, h, h' => by
    cases h with | loc e => cases h' with | loc e' => rw [e] at e'; cases e'; rfl
  | .tup ts, _, _, h, h' => by
    cases h with | tup e => cases h' with | tup e' => rw [TRs.fn ts _ _ e e']
  | .exn c v, _, _, h, h' => by cases h; cases h'; rfl
  | .scr xs, _, _, h, h' => by cases h; cases h'; rfl
theorem TRs.fn : ∀ (t : List T) (s s' : List S), TRs mg ρ t s → TRs mg ρ t s' → s = s'
  | [], _, _, h, h' => by cases h; cases h'; rfl
  | t :: ts, _, _, h, h' => by
    cases h with | cons a b => cases h' with | cons a' b' => rw [TR.fn t _ _ a a', TRs.fn ts _ _ b b']
end
end

/-- list or tuple, walked -/
def iSq (K : PySem.W.Frag) (tl : TE) : TI := fun σ H R => tl σ H fun x H1 => ∃ a, x = .ref a ∧ (((∃ xs, SqL K H1 a xs) ∧ R (Itl K a) H1) ∨ ((∃ xs, SqT K H1 a xs) ∧ R (Itt K a) H1))
theorem pi_sq {X : Cx} {tg l : Expr} {tl : TE} (hl : PE X l tl) : PI X tg l (iSq X.K tl) := by
  refine ⟨fun pins s σ H R I h => ?_⟩
  refine thn (hl.run pins s σ H _ I h) fun v s1 ⟨x, H1, I1, r1, q1⟩ => ?_
  obtain ⟨a, e, ⟨⟨xs, hq⟩, q⟩ | ⟨⟨xs, hq⟩, q⟩⟩ := q1
  · subst e
    cases r1
    obtain ⟨its, rv, p, hz⟩ := I1.list hq
    refine wpAny_pyIter_list p.isList ?_
    refine ⟨s1.heap.objs.size, [s1.heap.objs.size], _, _, H1, rfl, I1.kept (t' := s1.toks) fun b o e => Heap.get?_push_of_some _ e, turn_list a _, ⟨_, Heap.get?_push_size _ rfl, rfl, rfl⟩, fun b hb => ?_, q⟩
    have e : b = s1.heap.objs.size := by simpa using hb
    subst e
    exact I1.fpOk (Nat.le_refl _) (I1.hok.fresh (Nat.le_refl _))
  · subst e
    cases r1
    obtain ⟨its, rv, p, hz⟩ := I1.tuple hq
    refine wpAny_pyIter_tuple (show s1.heap.IsTuple a its.toArray from p) ?_
    refine ⟨s1.heap.objs.size, [s1.heap.objs.size], _, _, H1, rfl, I1.kept (t' := s1.toks) fun b o e => Heap.get?_push_of_some _ e, turn_tuple a _, ⟨_, Heap.get?_push_size _ rfl, rfl, rfl⟩, fun b hb => ?_, q⟩
    have e : b = s1.heap.objs.size := by simpa using hb
    subst e
    exact I1.fpOk (Nat.le_refl _) (I1.hok.fresh (Nat.le_refl _))
/-- what is at hand to be walked -/
def WkM (M : Mem) (s : S) (xs : List S) (Gd : Mem → Prop) : Prop := (s = .tup xs ∧ Gd = fun _ => True) ∨ (s = .fzl xs ∧ Gd = fun _ => True) ∨ (s = .rdl xs ∧ Gd = fun _ => True) ∨ ∃ p, s = .ptr p ∧ M p = some (.lst xs) ∧ Gd = fun M' => M' p = some (.lst xs)
theorem gives_sq {X : Cx} {M : Mem} {H : Hp} {s : S} {v : V} {xs : List S} {Gd : Mem → Prop} (w : WkM M s xs Gd) (m : MemR X.K M H) (r : RV X.K H s v) : ∃ a, v = .ref a ∧ (((∃ vs, SqL X.K H a vs) ∧ Gives X.K (Itl X.K a) H xs Gd) ∨ ((∃ vs, SqT X.K H a vs) ∧ Gives X.K (Itt X.K a) H xs Gd)) := by
  have lst : ∀ (a : Addr) (vs : List V), RVs X.K H xs vs → (∀ M' H', MemR X.K M' H' → Keep X.K H H' → Gd M' → ∃ ws, SqL X.K H' a ws ∧ RVs X.K H' xs ws) → Gives X.K (Itl X.K a) H xs Gd := fun a vs rv sq => by
    refine ⟨fun i M' H' m k' g hi => ?_, fun i M' H' v H'' m k' g hi y => ?_, fun M' H' m k' g => ?_⟩
    · obtain ⟨ws, q, rw'⟩ := sq M' H' m k' g
      have hi' : i < ws.length := by rw [← rw'.length]; exact hi
      exact ⟨ws, ws[i], q, by simp [hi']⟩
    · obtain ⟨ws, q, rw'⟩ := sq M' H' m k' g
      obtain ⟨rfl, y⟩ := y
      obtain ⟨s, e1, r1⟩ := rw'.getV (y _ q)
      exact ⟨s, e1, r1, Keep.refl, m⟩
    · obtain ⟨ws, q, rw'⟩ := sq M' H' m k' g
      exact ⟨ws, q, by rw [rw'.length]; exact Nat.le_refl _⟩
  rcases w with ⟨rfl, rfl⟩ | ⟨rfl, rfl⟩ | ⟨rfl, rfl⟩ | ⟨p, rfl, hp, rfl⟩
  · cases r with
    | @tup a vs _ h1 h2 =>
      refine ⟨a, rfl, .inr ⟨⟨_, h1.sq⟩, ⟨fun i M' H' m k' _ hi => ?_, fun i M' H' v H'' m k' _ hi y => ?_, fun M' H' m k' _ => ?_⟩⟩⟩
      · have hi' : i < vs.length := by rw [← h2.length]; exact hi
        exact ⟨vs, vs[i], (k'.tup _ _ h1).sq, by simp [hi']⟩
      · obtain ⟨rfl, y⟩ := y
        obtain ⟨s, e1, r1⟩ := h2.getV (y _ (k'.tup _ _ h1).sq)
        exact ⟨s, e1, r1.up k', Keep.refl, m⟩
      · exact ⟨vs, (k'.tup _ _ h1).sq, by rw [h2.length]; exact Nat.le_refl _⟩
  · cases r with
    | @fzl a o vs _ h1 h2 =>
      exact ⟨a, rfl, .inl ⟨⟨_, FzL.sq (.inl ⟨_, h1⟩)⟩, lst a vs h2 fun M' H' m k' _ => ⟨vs, FzL.sq (.inl ⟨_, k'.frz _ _ _ h1⟩), h2.up k'⟩⟩⟩
  · cases r with
    | @rdl a vs _ h1 h2 =>
      exact ⟨a, rfl, .inl ⟨⟨_, h1.sq⟩, lst a vs h2 fun M' H' m k' _ => ⟨vs, (k'.fzl _ _ h1).sq, h2.up k'⟩⟩⟩
  · cases r
    obtain ⟨vs, h1, h2⟩ := m p _ hp
    refine ⟨p, rfl, .inl ⟨⟨_, SqL.of h1⟩, lst p vs h2 fun M' H' m k' g => ?_⟩⟩
    obtain ⟨ws, h3, h4⟩ := m p _ g
    exact ⟨ws, SqL.of h3, h4⟩
theorem si_sq {X : Cx} {G : Hp} {tg e : Expr} {env : Ev} {M : Mem} {Q : List S → (Mem → Prop) → Mem → Prop} (h : SE X G e env M fun s M1 => ∃ xs Gd, WkM M1 s xs Gd ∧ Q xs Gd M1) : SI X G tg e env M Q := fun σ H R =>
  ⟨_, pi_sq pe_S, tS_go R h fun s M1 v H1 k rv R1 ⟨xs, Gd, w, q⟩ => by
    obtain ⟨a, rfl, ⟨e, g⟩ | ⟨e, g⟩⟩ := gives_sq (X := X) w R1.mem rv
    · exact ⟨a, rfl, .inl ⟨e, xs, Gd, M1, k, R1.mem, g, q⟩⟩
    · exact ⟨a, rfl, .inr ⟨e, xs, Gd, M1, k, R1.mem, g, q⟩⟩⟩

/-- what is walked: its items, and what must stand while it is walked -/
structure Wk where
  run : En → Sto → (List T → (Sto → Prop) → Sto → Prop) → ZT → Prop
  mono : ∀ {env st Q Q' Z Z'}, (∀ v g s, Q v g s → Q' v g s) → (∀ c v s, Z c v s → Z' c v s) → run env st Q Z → run env st Q' Z'
def liftI (mg : Str → Option Value) (ρ : List Addr) (M0 : Mem) (Q : List S → (Mem → Prop) → Mem → Prop) : List T → (Sto → Prop) → Sto → Prop := fun ts gd st' => ∀ ρ' ss M' Gd, Up ρ ρ' → TRs mg ρ' ts ss → StT mg ρ' st' M0 M' →
  (∀ ρ'' st'' M'', Up ρ' ρ'' → StT mg ρ'' st'' M0 M'' → gd st'' → Gd M'') → Q ss Gd M'
structure SndI (c : Ct) (tg e : Expr) (m : Wk) : Prop where
  run : ∀ {X : Cx} {G : Hp} {ZX : Ev → Addr → S → Mem → Prop} {ρ : List Addr} {env : En} {E : Ev} {st : Sto} {M0 M : Mem} {Q : List S → (Mem → Prop) → Mem → Prop}, DC c X → WishO X G ZX → EnvT c.mg ρ env E → StT c.mg ρ st M0 M →
    m.run env st (liftI c.mg ρ M0 Q) (liftZ c.mg ρ M0 (ZX E)) → SI X G tg e E M Q
def wkV (st : Sto) (Q : List T → (Sto → Prop) → Sto → Prop) : T → Prop
  | .d (.tup xs) => Q (dT xs) (fun _ => True) st
  | .d (.lst xs) => Q (dT xs) (fun _ => True) st
  | .tup ts => Q ts (fun _ => True) st
  | .scr xs => Q (dT (xs.map D.int)) (fun _ => True) st
  | .loc j => match nth st j with
    | some (.lst xs) => Q (dT xs) (fun st' => nth st' j = some (.lst xs)) st
    | some (.lsT ts) => Q ts (fun st' => nth st' j = some (.lsT ts)) st
    | _ => False
  | _ => False
theorem wkV_mono {st : Sto} {Q Q' : List T → (Sto → Prop) → Sto → Prop} {t : T} (m : ∀ v g s, Q v g s → Q' v g s) (h : wkV st Q t) : wkV st Q' t := by
  unfold wkV at *
  split at h
  · exact m _ _ _ h
  · exact m _ _ _ h
  · exact m _ _ _ h
  · exact m _ _ _ h
  · split at h
    · exact m _ _ _ h
    · exact m _ _ _ h
    · exact h
  · exact h
def wSeq (A : Ex) : Wk where
  run := fun env st Q Z => A.run env st (fun v st1 => wkV st1 Q v) Z
  mono := fun m n h => A.mono (fun _ _ h1 => wkV_mono m h1) n h
theorem snd_wSeq {c : Ct} {tg e : Expr} {A : Ex} (ha : SndE c e A) : SndI c tg e (wSeq A) := ⟨fun dc wi he hs z => by
  refine si_sq (ha.run dc wi he hs (A.mono (fun v st1 h1 ρ1 s M1 u1 r1 s1 => ?_) (fun _ _ _ q => q) z))
  unfold wkV at h1
  have tr : ∀ (xs : List D), TRs c.mg ρ1 (dT xs) (D.sl xs) := fun xs => by rw [dT_map]; exact TRs.ds xs
  split at h1
  · cases r1; exact ⟨_, _, .inl ⟨rfl, rfl⟩, h1 _ _ _ _ u1 (tr _) s1 fun _ _ _ _ _ _ => True.intro⟩
  · cases r1; exact ⟨_, _, .inr (.inl ⟨rfl, rfl⟩), h1 _ _ _ _ u1 (tr _) s1 fun _ _ _ _ _ _ => True.intro⟩
  · cases r1 with
    | tup r => exact ⟨_, _, .inl ⟨rfl, rfl⟩, h1 _ _ _ _ u1 r s1 fun _ _ _ _ _ _ => True.intro⟩
  · cases r1; exact ⟨_, _, .inr (.inr (.inl ⟨rfl, rfl⟩)), h1 _ _ _ _ u1 (tr _) s1 fun _ _ _ _ _ _ => True.intro⟩
  · rename_i j
    rw [nth_eq] at h1
    cases r1 with
    | loc ea =>
      split at h1
      · rename_i xs e2
        obtain ⟨m, h3, h4⟩ := s1.at ea e2
        cases h4
        refine ⟨_, _, .inr (.inr (.inr ⟨_, rfl, h3, rfl⟩)), h1 _ _ _ _ u1 (tr _) s1 fun ρ2 st2 M2 u2 s2 g => ?_⟩
        have g := (nth_eq _ _).symm.trans g
        obtain ⟨m, h3, h4⟩ := s2.at (u2 _ _ ea) g
        cases h4
        exact h3
      · rename_i ts e2
        obtain ⟨m, h3, h4⟩ := s1.at ea e2
        cases h4 with
        | lsT r =>
        refine ⟨_, _, .inr (.inr (.inr ⟨_, rfl, h3, rfl⟩)), h1 _ _ _ _ u1 r s1 fun ρ2 st2 M2 u2 s2 g => ?_⟩
        have g := (nth_eq _ _).symm.trans g
        obtain ⟨m, h3, h4⟩ := s2.at (u2 _ _ ea) g
        cases h4 with
        | lsT r' => rw [TRs.fn ts _ _ (TRs.up u2 _ _ r) r']; exact h3
      · exact h1.elim
  · exact h1.elim⟩
/-- lo, lo + 1, .. -/
def rgT (lo : Int) (n : Nat) : List T := (List.range n).map fun (k : Nat) => T.d (.int (lo + (k : Int)))
theorem rgT_TR {mg : Str → Option Value} {ρ : List Addr} (lo : Int) (n : Nat) : TRs mg ρ (rgT lo n) (rgS lo n) := by
  unfold rgT rgS
  generalize List.range n = l
  induction l with
  | nil => exact .nil
  | cons k l ih => exact .cons (.d _) ih
theorem rgT_len {lo : Int} {n : Nat} : (rgT lo n).length = n := by unfold rgT; simp
theorem rgT_get {lo : Int} {n i : Nat} {s : T} (h : (rgT lo n)[i]? = some s) : i < n ∧ s = .d (.int (lo + i)) := by
  unfold rgT at h
  rw [List.getElem?_map] at h
  obtain ⟨k, h1, rfl⟩ := Option.map_eq_some_iff.mp h
  obtain ⟨h2, h3⟩ := List.getElem?_eq_some_iff.mp h1
  rw [List.length_range] at h2
  rw [List.getElem_range] at h3
  subst h3
  exact ⟨h2, rfl⟩
def wRange1 (A : Ex) : Wk where
  run := fun env st Q Z => A.run env st (fun v st1 => match v with
    | .d (.int j) => (-(2 ^ 62) ≤ j ∧ j < 2 ^ 62) ∧ Q (rgT 0 j.toNat) (fun _ => True) st1
    | _ => False) Z
  mono := fun m n h => A.mono (fun _ _ h1 => by
    split at h1
    · exact ⟨h1.1, m _ _ _ h1.2⟩
    · exact h1) n h
def wRange2 (A B : Ex) : Wk where
  run := fun env st Q Z => A.run env st (fun v st1 => B.run env st1 (fun w st2 => match v, w with
    | .d (.int i), .d (.int j) => (-(2 ^ 62) ≤ i ∧ i < 2 ^ 62 ∧ -(2 ^ 62) ≤ j ∧ j < 2 ^ 62) ∧ Q (rgT i (j - i).toNat) (fun _ => True) st2
    | _, _ => False) Z) Z
  mono := fun m n h => A.mono (fun _ _ h1 => B.mono (fun _ _ h2 => by
    split at h2
    · exact ⟨h2.1, m _ _ _ h2.2⟩
    · exact h2) n h1) n h
/-- ends of any size -/
def wRange2B (A B : Ex) : Wk where
  run := fun env st Q Z => A.run env st (fun v st1 => B.run env st1 (fun w st2 => match v, w with
    | .d (.int i), .d (.int j) => i ≤ j ∧ Q (rgT i (j - i).toNat) (fun _ => True) st2
    | _, _ => False) Z) Z
  mono := fun m n h => A.mono (fun _ _ h1 => B.mono (fun _ _ h2 => by
    split at h2
    · exact ⟨h2.1, m _ _ _ h2.2⟩
    · exact h2) n h1) n h
section
variable {c : Ct} {tg a b : Expr} {A B : Ex} {p pos : Pos}
theorem snd_range1 (hm : c.mg "range" = none) (hg : glB c.sc "range" = true) (ha : SndE c a A) (hs' : ∀ env, starEach [a] env = [(false, eval a env)] := by intro _; rfl) : SndI c tg (.Call (.Name "range" p) [a] [] pos) (wRange1 A) := ⟨fun dc wi he hs z => by
  refine si_range1 (gl_of dc.dn hg) (by rw [dc.mg]; exact hm) (ha.run dc wi he hs (A.mono (fun v st1 h1 ρ1 s M1 u1 r1 s1 => ?_) (fun _ _ _ q => q) z)) (hs' _)
  split at h1
  · cases r1
    exact ⟨_, rfl, h1.1.2, h1.1.1, h1.2 _ _ _ _ u1 (rgT_TR _ _) s1 fun _ _ _ _ _ _ => True.intro⟩
  · exact h1.elim⟩
theorem snd_range2 (hm : c.mg "range" = none) (hg : glB c.sc "range" = true) (ha : SndE c a A) (hb : SndE c b B) (hs' : ∀ env, starEach [a, b] env = [(false, eval a env), (false, eval b env)] := by intro _; rfl) (hs2 : ∀ env, starEach [b] env = [(false, eval b env)] := by intro _; rfl) :
    SndI c tg (.Call (.Name "range" p) [a, b] [] pos) (wRange2 A B) := ⟨fun dc wi he hs z => by
  refine si_range2 (gl_of dc.dn hg) (by rw [dc.mg]; exact hm) (ha.run dc wi he hs (A.mono (fun v st1 h1 ρ1 s M1 u1 r1 s1 => ?_) (fun _ _ _ q => q) z)) (hs' _) (hs2 _)
  refine hb.run dc wi (he.up u1) s1 (B.mono (fun w st2 h2 ρ2 t M2 u2 r2 s2 => ?_) (liftZ_up u1) h1)
  split at h2
  · cases r1; cases r2
    exact ⟨_, _, rfl, rfl, h2.1, h2.2 _ _ _ _ (u1.trans u2) (rgT_TR _ _) s2 fun _ _ _ _ _ _ => True.intro⟩
  · exact h2.elim⟩
theorem snd_range2B (hm : c.mg "range" = none) (hg : glB c.sc "range" = true) (ha : SndE c a A) (hb : SndE c b B) (hs' : ∀ env, starEach [a, b] env = [(false, eval a env), (false, eval b env)] := by intro _; rfl) (hs2 : ∀ env, starEach [b] env = [(false, eval b env)] := by intro _; rfl) :
    SndI c tg (.Call (.Name "range" p) [a, b] [] pos) (wRange2B A B) := ⟨fun dc wi he hs z => by
  refine si_range2B (gl_of dc.dn hg) (by rw [dc.mg]; exact hm) (ha.run dc wi he hs (A.mono (fun v st1 h1 ρ1 s M1 u1 r1 s1 => ?_) (fun _ _ _ q => q) z)) (hs' _) (hs2 _)
  refine hb.run dc wi (he.up u1) s1 (B.mono (fun w st2 h2 ρ2 t M2 u2 r2 s2 => ?_) (liftZ_up u1) h1)
  split at h2
  · rename_i i j
    cases r1; cases r2
    refine ⟨i, (j - i).toNat, rfl, ?_, h2.2 _ _ _ _ (u1.trans u2) (rgT_TR _ _) s2 fun _ _ _ _ _ _ => True.intro⟩
    have := h2.1
    show S.int j = _
    congr 1
    omega
  · exact h2.elim⟩
end

def forL (g : Tg) (B : Cmd) (gd : Sto → Prop) : List T → En → Sto → Kont → Prop
  | [], env, st, k => gd st ∧ k.nx env st
  | x :: xs, env, st, k => gd st ∧ g.run x env st fun e s => B.run e s { nx := fun e s => forL g B gd xs e s k, rt := k.rt, bk := k.nx, ct := fun e s => forL g B gd xs e s k, ex := k.ex }
theorem forL_mono {g : Tg} {B : Cmd} {gd : Sto → Prop} : ∀ {xs : List T} {env : En} {st : Sto} {k k' : Kont}, k.Le k' → forL g B gd xs env st k → forL g B gd xs env st k'
  | [], _, _, _, _, l, h => ⟨h.1, l.nx _ _ h.2⟩
  | x :: xs, _, _, k, k', l, h => ⟨h.1, g.mono (fun e s h1 => by
      refine B.mono ?_ h1
      exact ⟨fun _ _ h2 => forL_mono l h2, l.rt, l.nx, fun _ _ h2 => forL_mono l h2, l.ex⟩) h.2⟩
def sFor (g : Tg) (W : Wk) (B : Cmd) : Cmd where
  run := fun env st k => W.run env st (fun xs gd s => forL g B gd xs env s k) (k.ex env)
  mono := fun l h => W.mono (fun _ _ _ h1 => forL_mono l h1) (l.ex _) h
theorem ss_fr {c : Ct} {tg iter : Expr} {body : List Stmt} {g : Tg} {W : Wk} {B : Cmd} {pos : Pos} (hg : SndG c tg g) (hi : SndI c tg iter W) (hb : SndSs c body B) (hf : ∀ env x, foldedSetIterable iter env x = pure x := by intro _ _; rfl) : SndS c (.For tg iter body [] pos) (sFor g W B) := ⟨fun {X G ZX ρ env E st M0 M D} ds wi he hs z => by
  refine dx_for ds.dx (hf _) (hi.run ds.toDC wi he hs (W.mono (fun ts gd st1 h1 ρ1 ss M1 Gd u1 r1 s1 hgd => ?_) (kexZ he) z))
  refine ⟨fun j E' M' => ∃ ρ' env' st', Up ρ1 ρ' ∧ EnvT c.mg ρ' env' E' ∧ StT c.mg ρ' st' M0 M' ∧ forL g B gd (ts.drop j) env' st' (kon c.mg ρ' M0 D ZX), ⟨ρ1, env, st1, Up.refl, he.up u1, s1, forL_mono (kon_up u1) h1⟩, ?_, ?_, ?_⟩
  · rintro j E' M' ⟨ρ', env', st', u', he', hs', h⟩
    have g0 : gd st' := by
      cases hd : ts.drop j with
      | nil => rw [hd] at h; exact h.1
      | cons _ _ => rw [hd] at h; exact h.1
    exact hgd _ _ _ u' hs' g0
  · rintro j x E' M' hx ⟨ρ', env', st', u', he', hs', h⟩
    obtain ⟨t, e1, r2⟩ := TRs.get (TRs.up u' _ _ r1) hx
    have hlt := (List.getElem?_eq_some_iff.mp e1).1
    have hd : ts.drop j = t :: ts.drop (j + 1) := by
      rw [List.drop_eq_getElem_cons hlt]
      rw [List.getElem?_eq_getElem hlt] at e1
      cases e1; rfl
    rw [hd] at h
    refine hg.run ds he' hs' r2 (g.mono (fun e s h2 ρ2 E2 M2 u2 he2 hs2 => ?_) h.2)
    refine hb.run ds wi he2 hs2 (B.mono ?_ h2)
    exact ⟨fun e s h3 ρ3 E3 M3 u3 he3 hs3 => ⟨ρ3, e, s, u'.trans (u2.trans u3), he3, hs3, forL_mono (kon_up (u2.trans u3)) h3⟩, fun e s h3 => (kon_up (D := D) (ZX := ZX) u2).rt e s h3, fun e s h3 => (kon_up (D := D) (ZX := ZX) u2).nx e s h3,
      fun e s h3 ρ3 E3 M3 u3 he3 hs3 => ⟨ρ3, e, s, u'.trans (u2.trans u3), he3, hs3, forL_mono (kon_up (u2.trans u3)) h3⟩, fun e cc v s h3 => (kon_up (D := D) (ZX := ZX) u2).ex e cc v s h3⟩
  · rintro E' M' ⟨ρ', env', st', u', he', hs', h⟩
    rw [List.drop_of_length_le (by rw [r1.len]; exact Nat.le_refl _)] at h
    exact h.2 _ _ _ Up.refl he' hs'⟩
/-- what holds between two turns -/
theorem forL_inv {g : Tg} {B : Cmd} {gd : Sto → Prop} {xs : List T} {env : En} {st : Sto} {k : Kont} (I : Nat → En → Sto → Prop) (h0 : I 0 env st) (hg : ∀ j e s, I j e s → gd s)
    (turn : ∀ j x e s, xs[j]? = some x → I j e s → g.run x e s fun e s => B.run e s { nx := I (j + 1), rt := k.rt, bk := k.nx, ct := I (j + 1), ex := k.ex }) (fin : ∀ e s, I xs.length e s → k.nx e s) : forL g B gd xs env st k := by
  have key : ∀ (n j : Nat) (e : En) (s : Sto), n = xs.length - j → j ≤ xs.length → I j e s → forL g B gd (xs.drop j) e s k := by
    intro n
    induction n with
    | zero =>
      intro j e s hn hj h
      have : j = xs.length := by omega
      subst this
      rw [List.drop_of_length_le (Nat.le_refl _)]
      exact ⟨hg _ _ _ h, fin _ _ h⟩
    | succ n ih =>
      intro j e s hn hj h
      have hlt : j < xs.length := by omega
      rw [List.drop_eq_getElem_cons hlt]
      refine ⟨hg _ _ _ h, g.mono (fun e1 s1 h1 => B.mono ?_ h1) (turn j _ e s (List.getElem?_eq_getElem hlt) h)⟩
      exact ⟨fun e s h2 => ih (j + 1) e s (by omega) (by omega) h2, fun _ _ h => h, fun _ _ h => h, fun e s h2 => ih (j + 1) e s (by omega) (by omega) h2, fun _ _ _ _ h => h⟩
  exact key _ 0 env st rfl (Nat.zero_le _) h0

def whL (C : Ex) (B : Cmd) : Nat → En → Sto → Kont → Prop
  | 0, _, _, _ => False
  | n + 1, env, st, k => C.run env st (fun x st1 => isB st1 (fun b st1 => (b = true → B.run env st1 { nx := fun e s => whL C B n e s k, rt := k.rt, bk := k.nx, ct := fun e s => whL C B n e s k, ex := k.ex }) ∧ (b = false → k.nx env st1)) x) (k.ex env)
theorem whL_mono {C : Ex} {B : Cmd} : ∀ {n : Nat} {env : En} {st : Sto} {k k' : Kont}, k.Le k' → whL C B n env st k → whL C B n env st k'
  | 0, _, _, _, _, _, h => h
  | n + 1, _, _, k, k', l, h => C.mono (fun _ _ h1 => isB_mono (fun _ _ h2 => ⟨fun z => by
      refine B.mono ?_ (h2.1 z)
      exact ⟨fun _ _ h2 => whL_mono l h2, l.rt, l.nx, fun _ _ h2 => whL_mono l h2, l.ex⟩, fun z => l.nx _ _ (h2.2 z)⟩) h1) (l.ex _) h
def sWhile (C : Ex) (B : Cmd) : Cmd where
  run := fun env st k => ∃ n, whL C B n env st k
  mono := fun l h => by obtain ⟨n, h⟩ := h; exact ⟨n, whL_mono l h⟩
theorem ss_wh {c : Ct} {t : Expr} {body : List Stmt} {C : Ex} {B : Cmd} {pos : Pos} (hc : SndT c t C) (hb : SndSs c body B) : SndS c (.While t body [] pos) (sWhile C B) := ⟨fun {X G ZX ρ env E st M0 M D} ds wi he hs z => by
  obtain ⟨n, z⟩ := z
  refine ss_while (fun m E' M' => ∃ ρ' env' st', Up ρ ρ' ∧ EnvT c.mg ρ' env' E' ∧ StT c.mg ρ' st' M0 M' ∧ whL C B m env' st' (kon c.mg ρ' M0 D ZX)) ⟨n, ρ, env, st, Up.refl, he, hs, z⟩ ?_ ds.dx.own
  rintro m E' M' ⟨ρ', env', st', u', he', hs', h⟩
  cases m with
  | zero => exact h.elim
  | succ m =>
    refine hc.run ds.toDC wi he' hs' (C.mono (fun x st1 h1 => isB_mono (fun b st2 h2 ρ1 M1 u1 s1 => ?_) h1) (kexZ he') h)
    refine ⟨fun e => ?_, fun e => h2.2 e _ _ _ u1 (he'.up u1) s1⟩
    refine hb.run ds wi (he'.up u1) s1 (B.mono ?_ (h2.1 e))
    exact ⟨fun e s h3 ρ3 E3 M3 u3 he3 hs3 => ⟨m, Nat.lt_succ_self m, ρ3, e, s, u'.trans (u1.trans u3), he3, hs3, whL_mono (kon_up (u1.trans u3)) h3⟩, fun e s h3 => (kon_up (D := D) (ZX := ZX) u1).rt e s h3, fun e s h3 => (kon_up (D := D) (ZX := ZX) u1).nx e s h3,
      fun e s h3 ρ3 E3 M3 u3 he3 hs3 => ⟨m, Nat.lt_succ_self m, ρ3, e, s, u'.trans (u1.trans u3), he3, hs3, whL_mono (kon_up (u1.trans u3)) h3⟩, fun e cc v s h3 => (kon_up (D := D) (ZX := ZX) u1).ex e cc v s h3⟩⟩
/-- with a measure -/
theorem while_inv {C : Ex} {B : Cmd} {env : En} {st : Sto} {k : Kont} (I : Nat → En → Sto → Prop) (h0 : ∃ n, I n env st)
    (turn : ∀ n e s, I n e s → C.run e s (fun x s1 => isB s1 (fun b s1 => (b = true → B.run e s1 { nx := fun e s => ∃ m, m < n ∧ I m e s, rt := k.rt, bk := k.nx, ct := fun e s => ∃ m, m < n ∧ I m e s, ex := k.ex }) ∧ (b = false → k.nx e s1)) x) (k.ex e)) : (sWhile C B).run env st k := by
  obtain ⟨n, h0⟩ := h0
  have key : ∀ (m n : Nat) (e : En) (s : Sto), n < m → I n e s → whL C B m e s k := by
    intro m
    induction m with
    | zero => intro n e s hn; exact absurd hn (Nat.not_lt_zero _)
    | succ m ih =>
      intro n e s hn h
      refine C.mono (fun x s1 h1 => isB_mono (fun b s2 h2 => ⟨fun z => B.mono ?_ (h2.1 z), h2.2⟩) h1) (fun _ _ _ h => h) (turn n e s h)
      exact ⟨fun e s ⟨j, hj, q⟩ => ih j e s (by omega) q, fun _ _ h => h, fun _ _ h => h, fun e s ⟨j, hj, q⟩ => ih j e s (by omega) q, fun _ _ _ _ h => h⟩
  exact ⟨n + 1, key (n + 1) n env st (Nat.lt_succ_self n) h0⟩
end Sy

set_option Elab.async false
set_option linter.all false
set_option maxRecDepth 100000
namespace Sy
open PySem PySem.Spec PyProof.Rows L2

theorem wipe_get : ∀ (vs : List Nat) (τ : L2.St) (k : Nat), (wipe τ vs)[k]? = if k ∈ vs ∧ k < τ.length then some none else τ[k]? := by
  intro vs
  induction vs with
  | nil => intro τ k; show τ[k]? = _; simp
  | cons j vs ih =>
    intro τ k
    show ((wipe τ vs).set j none)[k]? = _
    rw [List.getElem?_set]
    by_cases hj : j = k
    · subst hj
      rw [wipe_length]
      by_cases hl : j < τ.length <;> simp [hl]
    · rw [if_neg hj, ih]
      simp [Ne.symm hj]
theorem wipe_set2 {σ : L2.St} {v : Option V} {vs : List Nat} {i : Nat} (h : i ∈ vs) : wipe (σ.set i v) vs = wipe σ vs := by
  apply List.ext_getElem?
  intro k
  rw [wipe_get, wipe_get, List.length_set]
  by_cases hk : k ∈ vs ∧ k < σ.length
  · rw [if_pos hk, if_pos hk]
  · rw [if_neg hk, if_neg hk]
    by_cases e : i = k
    · subst e
      have : ¬ i < σ.length := fun z => hk ⟨h, z⟩
      rw [List.getElem?_eq_none (by rw [List.length_set]; omega), List.getElem?_eq_none (by omega)]
    · rw [List.getElem?_set_ne e]
theorem wipe_wipe {σ : L2.St} {vs : List Nat} : wipe (wipe σ vs) vs = wipe σ vs := by
  apply List.ext_getElem?
  intro k
  rw [wipe_get, wipe_get, wipe_length]
  by_cases hk : k ∈ vs ∧ k < σ.length
  · rw [if_pos hk, if_pos hk]
  · rw [if_neg hk, if_neg hk]
theorem wipe_sub {σ : L2.St} {vs ws : List Nat} (h : ∀ i, i ∈ ws → i ∈ vs) : wipe (wipe σ ws) vs = wipe σ vs := by
  induction ws with
  | nil => rfl
  | cons i ws ih =>
    show wipe ((wipe σ ws).set i none) vs = _
    rw [wipe_set2 (h i List.mem_cons_self)]
    exact ih fun j hj => h j (List.mem_cons_of_mem _ hj)

/-- a comprehension's target: its own names, in the slots vs -/
structure OwnG (c : Ct) (vs : List Nat) (tg : Expr) (g : PySem.W.Frag → TG) (m : Tg) : Prop where
  pg : ∀ {X : Cx}, DC c X → PG X tg (g X.K)
  go : ∀ {K : PySem.W.Frag} {H : Hp} {ρ : List Addr} {t : T} {s : S} {v : V} {env : En} {E : Ev} {σ : L2.St} {st : Sto} {k : En → Sto → Prop}, RV K H s v → TR c.mg ρ t s → EnvT c.mg ρ env E → EnvR K H E σ → m.run t env st k →
    g K v σ H fun σ2 H2 => H2 = H ∧ wipe σ2 vs = wipe σ vs ∧ ∃ e' E', EnvT c.mg ρ e' E' ∧ EnvR K H E' σ2 ∧ k e' st
structure OwnGs (c : Ct) (vs : List Nat) (tgs : List Expr) (g : PySem.W.Frag → TGs) (m : Tgs) : Prop where
  pg : ∀ {X : Cx}, DC c X → PGs X tgs (g X.K)
  go : ∀ {K : PySem.W.Frag} {H : Hp} {ρ : List Addr} {t : List T} {s : List S} {v : List V} {env : En} {E : Ev} {σ : L2.St} {st : Sto} {k : En → Sto → Prop}, RVs K H s v → TRs c.mg ρ t s → EnvT c.mg ρ env E → EnvR K H E σ → m.run t env st k →
    g K v σ H fun σ2 H2 => H2 = H ∧ wipe σ2 vs = wipe σ vs ∧ ∃ e' E', EnvT c.mg ρ e' E' ∧ EnvR K H E' σ2 ∧ k e' st
theorem TG_mono_name {i : Nat} {v : V} {σ : L2.St} {H : Hp} {Q : L2.St → Hp → Prop} (h : Q (σ.set i (some v)) H) : L2.gName i v σ H Q := h
/-- a block's own name -/
def owB (N : List Str) (sc : Scope) (i : Nat) (x : Str) : Bool := decide (N[i]? = some x) && (match sc.names.lookup x with | some .local => true | _ => false)
theorem own_nm {c : Ct} {vs : List Nat} {x : Str} {pos : Pos} (i : Nat) (h : owB c.N c.sc i x = true) (hm : i ∈ vs) : OwnG c vs (.Name x pos) (fun _ => L2.gName i) (gName i) where
  pg := fun {X} dc => by
    unfold owB at h
    simp only [Bool.and_eq_true, decide_eq_true_eq] at h
    obtain ⟨h1, h2⟩ := h
    have h3 : X.env.scope.names.lookup x = some .local := by
      rw [dc.dn.sc]
      split at h2
      · assumption
      · cases h2
    exact L2.pg_name (by rw [dc.dn.hN]; exact dc.nd) (by rw [dc.dn.hN]; exact h1) (.inl h3) (.inr h3)
  go := fun rv r he re h => by
    obtain ⟨_, q⟩ := putK_iff.mp h
    exact ⟨rfl, wipe_set2 hm, _, _, he.set r i, re.set rv i, q⟩
theorem own_nl {c : Ct} {vs : List Nat} : OwnGs c vs [] (fun _ => L2.gNil) gNil where
  pg := fun _ => L2.pgs_nil
  go := fun {K H ρ t s v env E σ st k} rv r he re h => by
    cases r with
    | nil => cases rv; exact ⟨rfl, rfl, rfl, _, _, he, re, h⟩
    | cons _ _ => exact absurd h id
structure GM (g : PySem.W.Frag → TG) : Prop where
  m : ∀ {K v σ H Q Q'}, (∀ a b, Q a b → Q' a b) → g K v σ H Q → g K v σ H Q'
structure GMs (g : PySem.W.Frag → TGs) : Prop where
  m : ∀ {K v σ H Q Q'}, (∀ a b, Q a b → Q' a b) → g K v σ H Q → g K v σ H Q'
theorem own_cn {c : Ct} {vs : List Nat} {tg : Expr} {tgs : List Expr} {g : PySem.W.Frag → TG} {gs : PySem.W.Frag → TGs} {m : Tg} {ms : Tgs} (h1 : OwnG c vs tg g m) (h2 : OwnGs c vs tgs gs ms) (gm : GM g)
    (hst : ∀ env, (assignEach (tg :: tgs) env).map (·.2) = assign tg env :: (assignEach tgs env).map (·.2) := by intro _; rfl) (gms : GMs gs) : OwnGs c vs (tg :: tgs) (fun K => L2.gCons (g K) (gs K)) (gCons m ms) where
  pg := fun {X} dc => L2.pgs_cons (h1.pg dc) (h2.pg dc) (hst _)
  go := fun {K H ρ t s v env E σ st k} rv r he re h => by
    cases r with
    | nil => exact absurd h id
    | cons r1 r2 =>
      cases rv with
      | cons v1 v2 =>
        refine ⟨_, _, rfl, gm.m (fun σ1 H1 q => ?_) (h1.go v1 r1 he re h)⟩
        obtain ⟨rfl, w1, e1, E1, he1, re1, q⟩ := q
        refine gms.m (fun σ2 H2 q2 => ?_) (h2.go v2 r2 he1 re1 q)
        obtain ⟨a, w2, b⟩ := q2
        exact ⟨a, w2.trans w1, b⟩
theorem gm_name {i : Nat} : GM (fun _ => L2.gName i) := ⟨fun m h => m _ _ h⟩
theorem gm_nil : GMs (fun _ => L2.gNil) := ⟨fun m h => ⟨h.1, m _ _ h.2⟩⟩
theorem gm_cons {g : PySem.W.Frag → TG} {gs : PySem.W.Frag → TGs} (gm : GM g) (gms : GMs gs) : GMs (fun K => L2.gCons (g K) (gs K)) :=
  ⟨fun m ⟨a, b, e, h⟩ => ⟨a, b, e, gm.m (fun _ _ h1 => gms.m m h1) h⟩⟩
theorem gm_tup {n : Nat} {gs : PySem.W.Frag → TGs} (gms : GMs gs) : GM (fun K => L2.gTup K n (gs K)) := ⟨fun m ⟨a, b, e, f, l, h⟩ => ⟨a, b, e, f, l, gms.m m h⟩⟩
theorem own_tp {c : Ct} {vs : List Nat} {tgs : List Expr} {gs : PySem.W.Frag → TGs} {ms : Tgs} {kk n : Nat} {pos : Pos} (h : OwnGs c vs tgs gs ms) (hn : ∀ env, (assignEach tgs env).length = n := by intro _; rfl) (hst : ∀ env, (assignEach tgs env).findIdx? (·.1) = none := by intro _; rfl) : OwnG c vs (.Tuple tgs kk pos) (fun K => L2.gTup K n (gs K)) (gTup n ms) where
  pg := fun {X} dc => L2.pg_tup dc.dn.calm (h.pg dc) (hn _) (hst _)
  go := fun {K H ρ t s v env E σ st k} rv r he re z => by
    dsimp only [gTup] at z
    split at z
    · rename_i xs
      obtain ⟨hl, z⟩ := chkN_iff.mp z
      rw [dT_map] at z
      cases r
      cases rv with
      | tup h1 h2 => exact ⟨_, _, rfl, h1.sq, by rw [← h2.length, D.sl_len, hl], h.go h2 (TRs.ds xs) he re z⟩
    · obtain ⟨hl, z⟩ := chkN_iff.mp z
      cases r with
      | tup r =>
        cases rv with
        | tup h1 h2 => exact ⟨_, _, rfl, h1.sq, by rw [← h2.length, ← r.len, hl], h.go h2 r he re z⟩
    · exact z.elim

def STs (X : Cx) (G : Hp) (ifs : List Expr) (env : Ev) (M : Mem) (Q : Bool → Mem → Prop) : Prop := ∀ σ H, Rel X.K G env M σ H → ∃ t, PTs X ifs t ∧ t σ H (PostT X H Q)
def STsb (X : Cx) (G : Hp) (scope : Scope) (e : List Expr) (env : Ev) (M : Mem) (Q : Bool → Mem → Prop) : Prop := ∀ (s : Shared) (H : Hp) (C : Addr) (cl : List (Str × Addr)) (fp : List Addr), STs (X.blk s H scope (compEnvC scope cl C X.env) fp) G e env M Q
def tSTsb (X : Cx) (G : Hp) (scope : Scope) (e : List Expr) : TT := fun σ H R => ∃ env M Q, Rel X.K G env M σ H ∧ STsb X G scope e env M Q ∧ ∀ v H', PostT X H Q v H' → R v H'
theorem pts_Sb {X : Cx} {G : Hp} {scope : Scope} {e : List Expr} {s : Shared} {H : Hp} {C : Addr} {cl : List (Str × Addr)} {fp : List Addr} : PTs (X.blk s H scope (compEnvC scope cl C X.env) fp) e (tSTsb X G scope e) := ⟨fun pins s1 σ H1 R I h => by
  obtain ⟨env, M, Q, r, hs, k⟩ := h
  obtain ⟨t, pt, ht⟩ := hs s H C cl fp σ H1 r
  refine wpAny_mono (pt.run pins s1 σ H1 _ I ht) (fun b s2 z => ?_) fun _ _ q => q
  obtain ⟨H2, I2, q⟩ := z
  exact ⟨H2, I2, k _ _ q⟩⟩
structure SndTs (c : Ct) (ifs : List Expr) (m : Ex) : Prop where
  run : ∀ {X : Cx} {G : Hp} {ρ : List Addr} {env : En} {E : Ev} {st : Sto} {M0 M : Mem} {Q : Bool → Mem → Prop}, DC c X → EnvT c.mg ρ env E → StT c.mg ρ st M0 M →
    m.run env st (fun v st' => isB st' (liftT c.mg ρ M0 Q) v) (fun _ _ _ => False) → STs X G ifs E M Q
theorem wishN {X : Cx} {G : Hp} : WishO X G (fun _ _ _ _ => False) := .inl fun _ _ _ _ h => h
theorem liftZ_no {mg : Str → Option Value} {ρ : List Addr} {M0 : Mem} {c : Nat} {v : D} {st : Sto} (h : False) : liftZ mg ρ M0 (fun _ _ _ => False) c v st := h.elim
theorem sts_nil {c : Ct} : SndTs c [] (eD (.bl true)) := ⟨fun dc he hs z σ H R => ⟨_, pts_nil, _, Keep.refl, R.mem, (show liftT _ _ _ _ true _ from z) _ _ Up.refl hs⟩⟩
theorem sts_one {c : Ct} {e : Expr} {C : Ex} (h : SndT c e C) : SndTs c [e] C := ⟨fun {X G ρ env E st M0 M Q} dc he hs z σ H R => by
  obtain ⟨t, pt, ht⟩ := h.run dc (wishN (G := G)) he hs (C.mono (fun _ _ q => q) (fun _ _ _ q => q.elim) z) σ H R
  exact ⟨t, pts_one pt, ht⟩⟩

abbrev noZ : ZT := fun _ _ _ => False
def cmpL (m : Tg) (C A : Ex) (vs : List Nat) (gd : Sto → Prop) : List T → En → Sto → List T → (List T → Sto → Prop) → Prop
  | [], _, st, acc, Q => gd st ∧ Q acc st
  | x :: xs, env, st, acc, Q => gd st ∧ kilK vs env fun e0 => m.run x e0 st fun e s => C.run e s (fun b s1 => isB s1 (fun b s1 => (b = true → A.run e s1 (fun v s2 => acc.length < sizeLine ∧ cmpL m C A vs gd xs env s2 (acc ++ [v]) Q) noZ) ∧ (b = false → cmpL m C A vs gd xs env s1 acc Q)) b) noZ
theorem cmpL_mono {m : Tg} {C A : Ex} {vs : List Nat} {gd : Sto → Prop} : ∀ {xs : List T} {env : En} {st : Sto} {acc : List T} {Q Q' : List T → Sto → Prop}, (∀ a s, Q a s → Q' a s) → cmpL m C A vs gd xs env st acc Q → cmpL m C A vs gd xs env st acc Q'
  | [], _, _, _, _, _, l, h => ⟨h.1, l _ _ h.2⟩
  | x :: xs, _, _, _, _, _, l, h => ⟨h.1, kilK_mono (fun _ h1 => m.mono (fun _ _ h2 => C.mono (fun _ _ h3 => isB_mono (fun _ _ h4 => ⟨fun z => A.mono (fun _ _ h5 => ⟨h5.1, cmpL_mono l h5.2⟩) (fun _ _ _ q => q) (h4.1 z), fun z => cmpL_mono l (h4.2 z)⟩) h3) (fun _ _ _ q => q) h2) h1) h.2⟩
theorem EnvT.wipe {mg : Str → Option Value} {ρ : List Addr} : ∀ {vs : List Nat} {e : En} {E : Ev}, EnvT mg ρ e E → EnvT mg ρ (kilE e vs) (wipeE E vs)
  | vs, e, E, h => by
    have key : ∀ (vs : List Nat) (E : Ev), EnvT mg ρ (kilE e vs) E → EnvT mg ρ (kilE e vs) (wipeE E vs) := by
      intro vs E h1
      have g : ∀ (ws : List Nat), (∀ i, i ∈ ws → i ∈ vs) → EnvT mg ρ (kilE e vs) (wipeE E ws) := by
        intro ws
        induction ws with
        | nil => intro _; exact h1
        | cons i ws ih =>
          intro hw
          have h2 := ih fun j hj => hw j (List.mem_cons_of_mem _ hj)
          have h3 : (kilE e vs).set i none = kilE e vs := by
            have k2 : ∀ (us : List Nat) (f : En), (∀ j : Nat, (f[j]? = some none ∨ f[j]? = none) → ((kilE f us)[j]? = some none ∨ (kilE f us)[j]? = none)) := by
              intro us
              induction us with
              | nil => intro f j z; exact z
              | cons a us ih2 =>
                intro f j z
                refine ih2 (f.set a none) j ?_
                by_cases ea : a = j
                · subst ea
                  by_cases hl : a < f.length
                  · rw [List.getElem?_set_self hl]; exact .inl rfl
                  · rw [List.getElem?_eq_none (by rw [List.length_set]; omega)]; exact .inr rfl
                · rw [List.getElem?_set_ne ea]; exact z
            have k3 : ∀ (us : List Nat) (f : En) (j : Nat), j ∈ us → (kilE f us)[j]? = some none ∨ (kilE f us)[j]? = none := by
              intro us
              induction us with
              | nil => intro f j z; exact absurd z List.not_mem_nil
              | cons a us ih2 =>
                intro f j z
                rcases List.mem_cons.mp z with rfl | z
                · refine k2 us (f.set j none) j ?_
                  by_cases hl : j < f.length
                  · rw [List.getElem?_set_self hl]; exact .inl rfl
                  · rw [List.getElem?_eq_none (by rw [List.length_set]; omega)]; exact .inr rfl
                · exact ih2 (f.set a none) j z
            apply List.ext_getElem?
            intro k
            by_cases ek : i = k
            · subst ek
              rcases k3 vs e i (hw i List.mem_cons_self) with q | q
              · rw [List.getElem?_set_self (List.getElem?_eq_some_iff.mp q).1, q]
              · rw [List.getElem?_eq_none (by rw [List.length_set]; exact List.getElem?_eq_none_iff.mp q), q]
            · rw [List.getElem?_set_ne ek]
          show EnvT mg ρ (kilE e vs) ((wipeE E ws).set i none)
          rw [← h3]
          exact h2.kill i
      exact g vs fun _ h => h
    exact key vs E h.kil

/-- what stands in a turn: the list so far at D -/
structure CmpI (mg : Str → Option Value) (ρ1 : List Addr) (M0 : Mem) (D : Addr) (ss : List S) (ρ : List Addr) (st : Sto) (M' : Mem) (acc : List T) : Prop where
  at_d : M' D = some (.lst ss)
  acc : TRs mg ρ acc ss
  up : Up ρ1 ρ
  st : StT mg ρ st M0 M'
  off : D ∉ ρ
  out : M0 D = none
/-- .. told of the store without D -/
theorem StT.without {mg : Str → Option Value} {ρ : List Addr} {st : Sto} {M0 M : Mem} {p : Addr} {o : MO} (h : StT mg ρ st M0 M) (hp : p ∉ ρ) (e : M p = some o) (ho : M0 p = none) : StT mg ρ st (updM M0 p o) M where
  len := h.len
  nd := h.nd
  cell := h.cell
  out := fun a ha => (updM_ne fun q => hp (by rw [← q]; exact ha)).trans (h.out a ha)
  keep := fun a x ha z => by
    by_cases q : a = p
    · subst q; rw [updM_same] at z; cases z; exact e
    · rw [updM_ne q] at z; exact h.keep a x ha z
theorem StT.within {mg : Str → Option Value} {ρ : List Addr} {st : Sto} {M0 M : Mem} {p : Addr} {o : MO} (h : StT mg ρ st (updM M0 p o) M) (ho : M0 p = none) : StT mg ρ st M0 M ∧ p ∉ ρ ∧ M p = some o := by
  have hp : p ∉ ρ := fun q => by have := h.out p q; rw [updM_same] at this; cases this
  refine ⟨⟨h.len, h.nd, h.cell, fun a ha => ?_, fun a x ha z => ?_⟩, hp, h.keep p o hp updM_same⟩
  · have := h.out a ha
    by_cases q : a = p
    · subst q; exact ho
    · rw [updM_ne q] at this; exact this
  · have q : a ≠ p := fun q => by rw [q, ho] at z; cases z
    exact h.keep a x ha ((updM_ne q).trans z)
section
variable {c c1 : Ct} {X : Cx} {G : Hp} {ZX : Ev → Addr → S → Mem → Prop} {ρ : List Addr} {env : En} {E : Ev} {st : Sto} {M0 M : Mem} {scope : Scope} {elt tg iter : Expr} {ifs : List Expr} {W : Wk} {m : Tg} {C A : Ex} {vs : List Nat} {g : PySem.W.Frag → TG} {pos : Pos}
/-- the block's surroundings -/
theorem DC.blk (dc : DC c X) {s : Shared} {H : Hp} {C : Addr} {cl : List (Str × Addr)} {fp : List Addr} : DC { c with sc := blkS c.sc scope } (X.blk s H scope (compEnvC scope cl C X.env) fp) := ⟨dc.dn.blk, dc.nd, dc.prog, dc.ww, dc.kk, dc.mg, dc.base⟩
theorem tlc_run (dc : DC c X) (wi : WishO X G ZX) (hi : SndI c tg iter W) (hg : OwnG { c with sc := blkS c.sc scope } vs tg g m) (gm : GM g) (ht : SndTs { c with sc := blkS c.sc scope } ifs C) (ha : SndE { c with sc := blkS c.sc scope } elt A)
    (he : EnvT c.mg ρ env E) (hs : StT c.mg ρ st M0 M) {Qf : List T → Sto → Prop} (h : W.run env st (fun ts gd st1 => cmpL m C A vs gd ts env st1 [] Qf) (liftZ c.mg ρ M0 (ZX E))) {T1 : VK} {Q : QS} {σ : L2.St} {H : Hp} (R : Rel X.K G E M σ H)
    (hQ : ∀ D acc ss ρ' st' M', CmpI c.mg ρ M0 D ss ρ' st' M' acc → Qf acc st' → Q (.ptr D) M') (hT : ∀ v H', PostE X H Q v H' → T1 v H') : tLc (tSI X G tg iter) (g X.K) (tSTsb X G scope ifs) (tSEb X G scope elt) vs σ H T1 := by
  refine ⟨E, M, fun ss Gd M1 => ∃ ρ1 ts gd st1, Up ρ ρ1 ∧ TRs c.mg ρ1 ts ss ∧ StT c.mg ρ1 st1 M0 M1 ∧ (∀ ρ'' st'' M'', Up ρ1 ρ'' → StT c.mg ρ'' st'' M0 M'' → gd st'' → Gd M'') ∧ cmpL m C A vs gd ts env st1 [] Qf, R, hi.run dc wi he hs (W.mono (fun ts gd st1 h1 ρ1 ss M1 Gd u1 r1 s1 hgd => ⟨ρ1, ts, gd, st1, u1, r1, s1, hgd, h1⟩) (fun _ _ _ q => q) h), fun J H1 ⟨xs, Gd, M1, k1, m1, gv, ρ1, ts, gd, st1, u1, r1, s1, hgd, h1⟩ D hD => ?_⟩
  have fr := m1.free hD
  refine ⟨fun j n H' => n = xs.length - j ∧ j ≤ xs.length ∧ ∃ acc ss ρ' st' M', MemR X.K M' H' ∧ Keep X.K H1 H' ∧ CmpI c.mg ρ1 M0 D ss ρ' st' M' acc ∧ cmpL m C A vs gd (ts.drop j) env st' acc Qf, ⟨xs.length, rfl, Nat.zero_le _, [], [], ρ1, st1, _, put_lst m1 hD .nil, keep_new hD, ⟨updM_same, .nil, Up.refl, s1.skip (s1.fresh fr) (s1.outF fr), s1.fresh fr, s1.outF fr⟩, h1⟩, ?_⟩
  rintro j n H' ⟨rfl, hj, acc, ss, ρ', st', M', m', k', ci, h2⟩
  have g0 : gd st' := by
    cases hd : ts.drop j with
    | nil => rw [hd] at h2; exact h2.1
    | cons _ _ => rw [hd] at h2; exact h2.1
  have g1 := hgd _ _ _ ci.up ci.st g0
  by_cases hlt : j < xs.length
  · refine .inr ⟨gv.go j M' H' m' k' g1 hlt, fun H2 => ∃ acc ss ρ' st' M', MemR X.K M' H2 ∧ Keep X.K H1 H2 ∧ CmpI c.mg ρ1 M0 D ss ρ' st' M' acc ∧ cmpL m C A vs gd (ts.drop (j + 1)) env st' acc Qf, fun H2 z => ⟨xs.length - (j + 1), by omega, rfl, hlt, z⟩, fun v H'' y => ?_⟩
    obtain ⟨s, es, rs, k2, m2⟩ := gv.yld j M' H' v H'' m' k' g1 hlt y
    obtain ⟨t, e1, r2⟩ := TRs.get (TRs.up ci.up _ _ r1) es
    have htl := (List.getElem?_eq_some_iff.mp e1).1
    have hd : ts.drop j = t :: ts.drop (j + 1) := by
      rw [List.drop_eq_getElem_cons htl]
      rw [List.getElem?_eq_getElem htl] at e1
      cases e1; rfl
    rw [hd] at h2
    have kk := k1.trans (k'.trans k2)
    have eE : EnvT c.mg ρ' (kilE env vs) (wipeE E vs) := (he.up (u1.trans ci.up)).wipe
    refine gm.m (fun σ2 H2 q => ?_) (hg.go rs r2 eE (((R.step kk m2).wipe vs).env) (kilK_inv h2.2))
    obtain ⟨rfl, w2, e', E', he', re', q⟩ := q
    refine ⟨w2.trans wipe_wipe, ?_⟩
    have R2 : Rel X.K G E' M' σ2 H2 := ⟨R.base.trans kk, re', m2⟩
    have stw := ci.st.without ci.off ci.at_d ci.out
    refine ⟨E', M', fun b M3 => ∃ ρ3 st3, Up ρ' ρ3 ∧ StT c.mg ρ3 st3 (updM M0 D (.lst ss)) M3 ∧ (b = true → A.run e' st3 (fun v s2 => acc.length < sizeLine ∧ cmpL m C A vs gd (ts.drop (j + 1)) env s2 (acc ++ [v]) Qf) noZ) ∧ (b = false → cmpL m C A vs gd (ts.drop (j + 1)) env st3 acc Qf), R2, fun s0 H0 C0 cl fp => ?_, fun b H3 ⟨M3, k3, m3, ρ3, st3, u3, s3, qa, qb⟩ => ?_⟩
    · exact ht.run (dc.blk (scope := scope)) he' stw (C.mono (fun b s1 h3 => isB_mono (fun b s1 h4 ρ3 M3 u3 s3 => ⟨ρ3, s1, u3, s3, h4.1, h4.2⟩) h3) (fun _ _ _ q => q) q)
    · cases b with
      | false =>
        rw [if_neg (by decide)]
        obtain ⟨s4, o4, a4⟩ := s3.within ci.out
        exact ⟨acc, ss, ρ3, st3, M3, m3, k'.trans (k2.trans k3), ⟨a4, TRs.up u3 _ _ ci.acc, ci.up.trans u3, s4, o4, ci.out⟩, qb rfl⟩
      | true =>
        rw [if_pos rfl]
        refine ⟨E', M3, fun y M4 => ∃ ρ4 t4 st4, Up ρ3 ρ4 ∧ TR c.mg ρ4 t4 y ∧ StT c.mg ρ4 st4 (updM M0 D (.lst ss)) M4 ∧ acc.length < sizeLine ∧ cmpL m C A vs gd (ts.drop (j + 1)) env st4 (acc ++ [t4]) Qf, R2.step k3 m3, fun s0 H0 C0 cl fp => ?_, fun y H4 ⟨sy, M4, k4, ry, m4, ρ4, t4, st4, u4, ty, s4, hl, q4⟩ => ?_⟩
        · exact ha.run (ZX := fun _ _ _ _ => False) (dc.blk (scope := scope)) wishN (he'.up u3) s3 (A.mono (fun v s2 h4 ρ4 y M4 u4 ty s4 => ⟨ρ4, v, s2, u4, ty, s4, h4.1, h4.2⟩) (fun _ _ _ q => liftZ_no q) (qa rfl))
        · obtain ⟨s5, o5, a5⟩ := s4.within ci.out
          obtain ⟨us, d1, d2⟩ := m4 D _ a5
          have kd := keep_lst (K := X.K) (o := .lst (us ++ [y])) d1
          refine ⟨us, d1, by rw [← d2.length, ← ci.acc.len]; exact hl, acc ++ [t4], ss ++ [sy], ρ4, st4, updM M4 D (.lst (ss ++ [sy])), m4.put (u := .lst (ss ++ [sy])) kd ⟨_, upd_same, (d2.append (.cons ry .nil)).up kd⟩, k'.trans (k2.trans (k3.trans (k4.trans kd))), ⟨updM_same, (TRs.up (u3.trans u4) _ _ ci.acc).app (.cons ty .nil), ci.up.trans (u3.trans u4), s5.skip o5 ci.out, o5, ci.out⟩, q4⟩
  · have e : j = xs.length := by omega
    subst e
    rw [List.drop_of_length_le (by rw [r1.len]; exact Nat.le_refl _)] at h2
    exact .inl ⟨gv.stop M' H' m' k' g1, hT _ _ ⟨.ptr D, M', k1.trans k', .ptr D, m', hQ D acc ss ρ' st' M' ⟨ci.at_d, ci.acc, u1.trans ci.up, ci.st, ci.off, ci.out⟩ h2.2⟩⟩
end
end Sy

set_option Elab.async false
set_option linter.all false
set_option maxRecDepth 100000
namespace Sy
open PySem PySem.Spec PyProof.Rows L2
def isD (k : D → Prop) : T → Prop
  | .d x => k x
  | _ => False
theorem isD_mono {k k' : D → Prop} {t : T} (m : ∀ x, k x → k' x) (h : isD k t) : isD k' t := by
  unfold isD at *
  split at h
  · exact m _ h
  · exact h
theorem isD_inv {k : D → Prop} {t : T} (h : isD k t) : ∃ x, t = .d x ∧ k x := by
  unfold isD at h
  split at h
  · exact ⟨_, rfl, h⟩
  · exact h.elim
def cmpD (m : Tg) (C A : Ex) (vs : List Nat) (gd : Sto → Prop) : List T → En → Sto → List D → (List D → Sto → Prop) → Prop
  | [], _, st, acc, Q => gd st ∧ Q acc st
  | x :: xs, env, st, acc, Q => gd st ∧ kilK vs env fun e0 => m.run x e0 st fun e s => C.run e s (fun b s1 => isB s1 (fun b s1 => (b = true → A.run e s1 (fun v s2 => isD (fun d => acc.length < sizeLine ∧ cmpD m C A vs gd xs env s2 (acc ++ [d]) Q) v) noZ) ∧ (b = false → cmpD m C A vs gd xs env s1 acc Q)) b) noZ
theorem cmpD_mono {m : Tg} {C A : Ex} {vs : List Nat} {gd : Sto → Prop} : ∀ {xs : List T} {env : En} {st : Sto} {acc : List D} {Q Q' : List D → Sto → Prop}, (∀ a s, Q a s → Q' a s) → cmpD m C A vs gd xs env st acc Q → cmpD m C A vs gd xs env st acc Q'
  | [], _, _, _, _, _, l, h => ⟨h.1, l _ _ h.2⟩
  | x :: xs, _, _, _, _, _, l, h => ⟨h.1, kilK_mono (fun _ h1 => m.mono (fun _ _ h2 => C.mono (fun _ _ h3 => isB_mono (fun _ _ h4 => ⟨fun z => A.mono (fun _ _ h5 => isD_mono (fun _ h6 => ⟨h6.1, cmpD_mono l h6.2⟩) h5) (fun _ _ _ q => q) (h4.1 z), fun z => cmpD_mono l (h4.2 z)⟩) h3) (fun _ _ _ q => q) h2) h1) h.2⟩
theorem cmpD_L {m : Tg} {C A : Ex} {vs : List Nat} {gd : Sto → Prop} : ∀ {xs : List T} {env : En} {st : Sto} {acc : List D} {Q : List D → Sto → Prop}, cmpD m C A vs gd xs env st acc Q → cmpL m C A vs gd xs env st (acc.map T.d) (fun ts st => ∃ ds, ts = ds.map T.d ∧ Q ds st)
  | [], _, _, acc, _, h => ⟨h.1, acc, rfl, h.2⟩
  | x :: xs, _, _, acc, _, h => ⟨h.1, kilK_mono (fun _ h1 => m.mono (fun _ _ h2 => C.mono (fun _ _ h3 => isB_mono (fun _ _ h4 => ⟨fun z => A.mono (fun _ _ h5 => by
      obtain ⟨d, rfl, hl, q⟩ := isD_inv h5
      refine ⟨by rw [List.length_map]; exact hl, ?_⟩
      have := cmpD_L q
      rw [List.map_append] at this
      exact this) (fun _ _ _ q => q) (h4.1 z), fun z => cmpD_L (h4.2 z)⟩) h3) (fun _ _ _ q => q) h2) h1) h.2⟩
/-- [A for m in W if C] -/
def lComp (m : Tg) (W : Wk) (C A : Ex) (vs : List Nat) : ExL where
  run := fun env st Q Z => W.run env st (fun ts gd st1 => cmpD m C A vs gd ts env st1 [] Q) Z
  mono := fun mm n h => W.mono (fun _ _ _ h1 => cmpD_mono mm h1) n h
/-- .. its items with places -/
def eCompT (m : Tg) (W : Wk) (C A : Ex) (vs : List Nat) : Ex where
  run := fun env st Q Z => W.run env st (fun ts gd st1 => cmpL m C A vs gd ts env st1 [] (fun acc st2 => pushK st2 (.lsT acc) Q)) Z
  mono := fun mm n h => W.mono (fun _ _ _ h1 => cmpL_mono (fun _ _ h2 => pushK_iff.mpr (mm _ _ (pushK_iff.mp h2))) h1) n h
theorem CmpI.newl {mg : Str → Option Value} {ρ1 ρ : List Addr} {M0 M' : Mem} {D : Addr} {ss : List S} {st : Sto} {ds : List Sy.D} (h : CmpI mg ρ1 M0 D ss ρ st M' (ds.map T.d)) : NewL mg ρ st M0 M' D ds := ⟨h.st, by rw [h.at_d, h.acc.d_inv], h.off, h.out⟩
theorem CmpI.newT {mg : Str → Option Value} {ρ1 ρ : List Addr} {M0 M' : Mem} {D : Addr} {ss : List S} {st : Sto} {ts : List T} (h : CmpI mg ρ1 M0 D ss ρ st M' ts) : StT mg (ρ ++ [D]) (st ++ [.lsT ts]) M0 M' where
  len := by rw [List.length_append, List.length_append, h.st.len]; rfl
  nd := by
    rw [List.nodup_append]
    exact ⟨h.st.nd, List.nodup_cons.mpr ⟨List.not_mem_nil, List.nodup_nil⟩, fun a ha b hb => by
      rw [List.mem_singleton] at hb; subst hb; intro z; subst z; exact h.off ha⟩
  cell := fun i a x e1 e2 => by
    by_cases hi : i < ρ.length
    · rw [List.getElem?_append_left hi] at e1
      rw [List.getElem?_append_left (by rw [← h.st.len]; exact hi)] at e2
      obtain ⟨m, h1, h2⟩ := h.st.cell i a x e1 e2
      exact ⟨m, h1, h2.up Up.app⟩
    · have hl := (List.getElem?_eq_some_iff.mp e1).1
      rw [List.length_append, List.length_singleton] at hl
      have : i = ρ.length := by omega
      subst this
      rw [List.getElem?_append_right (Nat.le_refl _), Nat.sub_self] at e1
      rw [List.getElem?_append_right (by rw [h.st.len]; exact Nat.le_refl _), h.st.len, Nat.sub_self] at e2
      cases e1; cases e2
      exact ⟨_, h.at_d, .lsT (TRs.up Up.app _ _ h.acc)⟩
  out := fun a ha => by
    rcases List.mem_append.mp ha with ha | ha
    · exact h.st.out a ha
    · rw [List.mem_singleton] at ha; subst ha; exact h.out
  keep := fun a o ha z => h.st.keep a o (fun q => ha (List.mem_append_left _ q)) z
section
variable {c : Ct} {scope : Scope} {elt tg iter : Expr} {ifs : List Expr} {W : Wk} {m : Tg} {C A : Ex} {own : List (Str × Nat)} {g : PySem.W.Frag → TG} {pos : Pos}
theorem snd_lc (own : List (Str × Nat)) (hb : blkC c.N c.sc scope own = true) (hi : SndI c tg iter W) (hg : OwnG { c with sc := blkS c.sc scope } (own.map (·.2)) tg g m) (gm : GM g)
    (ht : SndTs { c with sc := blkS c.sc scope } ifs C) (ha : SndE { c with sc := blkS c.sc scope } elt A) (hf : ∀ env x, foldedSetIterable iter env x = pure x := by intro _ _; rfl) : SndL c (.ListComp elt [⟨tg, iter, ifs, 0⟩] scope pos) (lComp m W C A (own.map (·.2))) := ⟨fun {X G ZX ρ env E st M0 M Q} dc wi he hs z σ H R =>
  ⟨_, pe_lc (g := g X.K) (own := own) dc.dn.calm (by rw [dc.dn.hN]; exact dc.nd) (pi_S (G := G)) (by rw [dc.dn.hN, dc.dn.sc]; exact blkOk_by hb) (fun s H C cl fp => hg.pg (dc.blk (s := s) (H := H) (C := C) (cl := cl) (fp := fp))) (fun _ _ _ _ _ => pts_Sb (G := G)) (fun _ _ _ _ _ => pe_Sb (G := G)) (hf _),
    tlc_run dc wi hi hg gm ht ha he hs (Qf := fun ts st => ∃ ds, ts = ds.map T.d ∧ liftL c.mg ρ M0 Q ds st) (W.mono (fun _ _ _ h1 => cmpD_L h1) (fun _ _ _ q => q) z) R
      (fun D acc ss ρ' st' M' ci q => by obtain ⟨ds, rfl, q⟩ := q; exact q _ _ _ ci.up ci.newl) (fun _ _ h => h)⟩⟩
theorem snd_lcT (own : List (Str × Nat)) (hb : blkC c.N c.sc scope own = true) (hi : SndI c tg iter W) (hg : OwnG { c with sc := blkS c.sc scope } (own.map (·.2)) tg g m) (gm : GM g)
    (ht : SndTs { c with sc := blkS c.sc scope } ifs C) (ha : SndE { c with sc := blkS c.sc scope } elt A) (hf : ∀ env x, foldedSetIterable iter env x = pure x := by intro _ _; rfl) : SndE c (.ListComp elt [⟨tg, iter, ifs, 0⟩] scope pos) (eCompT m W C A (own.map (·.2))) := ⟨fun {X G ZX ρ env E st M0 M Q} dc wi he hs z σ H R =>
  ⟨_, pe_lc (g := g X.K) (own := own) dc.dn.calm (by rw [dc.dn.hN]; exact dc.nd) (pi_S (G := G)) (by rw [dc.dn.hN, dc.dn.sc]; exact blkOk_by hb) (fun s H C cl fp => hg.pg (dc.blk (s := s) (H := H) (C := C) (cl := cl) (fp := fp))) (fun _ _ _ _ _ => pts_Sb (G := G)) (fun _ _ _ _ _ => pe_Sb (G := G)) (hf _),
    tlc_run dc wi hi hg gm ht ha he hs z R
      (fun D acc ss ρ' st' M' ci q => by
        refine pushK_iff.mp q _ _ _ (ci.up.trans Up.app) (.loc ?_) ci.newT
        rw [← ci.st.len, List.getElem?_append_right (Nat.le_refl _), Nat.sub_self]
        rfl) (fun _ _ h => h)⟩⟩
theorem ps_frz {X : Cx} {st : Stmt} {t : TS} (h : PS X st t) : PS X st (fun D σ H => t { D with nx := fun σ' H' => D.nx σ' H' ∨ ∃ a vs, H' a = some (.lst vs) ∧ ∀ o, D.nx σ' (upd H' a (.frz o (.lst vs))) } σ H) := ⟨fun pins s σ H D I z => by
  refine wpAny_mono (h.run pins s σ H _ I z) (fun f s' y => ?_) fun _ _ q => q
  cases f with
  | next =>
    obtain ⟨σ', H', I', q | ⟨a, vs, ha, q⟩⟩ := y
    · exact ⟨σ', H', I', q⟩
    · obtain ⟨o, I2⟩ := inv_frz I' ha
      exact ⟨σ', _, I2, q o⟩
  | ret u => exact y
  | brk => exact y
  | cont => exact y⟩
theorem ss_lcC {y : Str} {py spos : Pos} (j : Nat) (hy : loB c.N c.sc j y = true) (hl : (py.line == pos.line) = true) (hyb : (scope.names.any fun (n, k) => n == y && (k == .local || k == .cell)) = false) (hk : c.sc.kind = .function)
    (own : List (Str × Nat)) (hb : blkC c.N c.sc scope own = true) (hi : SndI c tg iter W) (hg : OwnG { c with sc := blkS c.sc scope } (own.map (·.2)) tg g m) (gm : GM g)
    (ht : SndTs { c with sc := blkS c.sc scope } ifs C) (ha : SndE { c with sc := blkS c.sc scope } elt A) (hf : ∀ env x, foldedSetIterable iter env x = pure x) {X : Cx} {G : Hp} {ZX : Ev → Addr → S → Mem → Prop} {ρ : List Addr} {env : En} {E : Ev} {st : Sto} {M0 M : Mem} {D : SD} (ds : DS c X) (wi : WishO X G ZX) (he : EnvT c.mg ρ env E) (hs : StT c.mg ρ st M0 M)
    {Qf : List T → Sto → Prop} (z : W.run env st (fun ts gd st1 => cmpL m C A (own.map (·.2)) gd ts env st1 [] Qf) (liftZ c.mg ρ M0 (ZX E)))
    (hQ : ∀ D1 acc ss ρ' st' M', CmpI c.mg ρ M0 D1 ss ρ' st' M' acc → Qf acc st' → D.nx (E.set j (some (.ptr D1))) M' ∨ D.nx (E.set j (some (.fzl ss))) (updM M' D1 (.fz ss))) : SS X G (.Assign [.Name y py] (.ListComp elt [⟨tg, iter, ifs, 0⟩] scope pos) spos) E M D := fun G1 kG σ H R => by
  have dc := ds.toDC
  refine ⟨_, ps_frz (ps_setLc (g := g X.K) (own := own) dc.dn.calm (by rw [dc.dn.hN]; exact dc.nd) (lo_of ds.dx hy).1 (lo_of ds.dx hy).2 (sw_true (by rw [dc.dn.sc]; exact hk) (lo_of ds.dx hy).2 hl hyb) (pi_S (G := G)) (by rw [dc.dn.hN, dc.dn.sc]; exact blkOk_by hb) (fun s H C cl fp => hg.pg (dc.blk (s := s) (H := H) (C := C) (cl := cl) (fp := fp))) (fun _ _ _ _ _ => pts_Sb (G := G)) (fun _ _ _ _ _ => pe_Sb (G := G)) (hf _)), ?_⟩
  refine tlc_run (Q := fun s M' => ∃ D1 ss, s = .ptr D1 ∧ M' D1 = some (.lst ss) ∧ (D.nx (E.set j (some (.ptr D1))) M' ∨ D.nx (E.set j (some (.fzl ss))) (updM M' D1 (.fz ss)))) dc wi hi hg gm ht ha he hs z (R.weak kG)
    (fun D1 acc ss ρ' st' M' ci q => ⟨D1, ss, rfl, ci.at_d, hQ D1 acc ss ρ' st' M' ci q⟩) (fun v H' ⟨s, M', k1, rv, m', D1, ss, e, eD, q⟩ => ?_)
  subst e
  rcases q with q | q
  · exact .inl ⟨_, M', (R.step k1 m').set rv j, q⟩
  · cases rv
    obtain ⟨vs, h1, h2⟩ := m' D1 _ eD
    refine .inr ⟨D1, vs, h1, fun o => ?_⟩
    have kk := keep_lst (K := X.K) (o := .frz o (.lst vs)) h1
    exact ⟨_, _, (R.step (k1.trans kk) (m'.put (u := .fz ss) kk ⟨o, vs, upd_same, h2.up kk⟩)).set (.fzl upd_same (h2.up kk)) j, q⟩
section
variable {y : Str} {py spos : Pos} (j : Nat) (hy : loB c.N c.sc j y = true) (hl : (py.line == pos.line) = true) (hyb : (scope.names.any fun (n, k) => n == y && (k == .local || k == .cell)) = false) (hk : c.sc.kind = .function)
    (own : List (Str × Nat)) (hb : blkC c.N c.sc scope own = true) (hi : SndI c tg iter W) (hg : OwnG { c with sc := blkS c.sc scope } (own.map (·.2)) tg g m) (gm : GM g)
    (ht : SndTs { c with sc := blkS c.sc scope } ifs C) (ha : SndE { c with sc := blkS c.sc scope } elt A)
include hy hl hyb hk hb hi hg gm ht ha
/-- y = [..], y a local name: the list may change -/
theorem ss_lcM (hf : ∀ env x, foldedSetIterable iter env x = pure x := by intro _ _; rfl) : SndS c (.Assign [.Name y py] (.ListComp elt [⟨tg, iter, ifs, 0⟩] scope pos) spos) (sSet j (eM (lComp m W C A (own.map (·.2))))) := ⟨fun {X G ZX ρ env E st M0 M D} ds wi he hs z => by
  refine ss_lcC j hy hl hyb hk own hb hi hg gm ht ha hf ds wi he hs (Qf := fun ts st => ∃ ds, ts = ds.map T.d ∧ pushK st (.lst ds) fun v st2 => putK env j (some v) fun e => (kon c.mg ρ M0 D ZX).nx e st2) (W.mono (fun _ _ _ h1 => cmpD_L h1) (fun cc v s q => kexZ he cc v s q) z) fun D1 acc ss ρ' st' M' ci q => ?_
  obtain ⟨ds', rfl, q⟩ := q
  obtain ⟨_, q⟩ := putK_iff.mp (pushK_iff.mp q)
  refine .inl (q _ _ _ (ci.up.trans Up.app) (((he.up ci.up).up Up.app).set (.loc ?_) j) ci.newl.take)
  rw [← ci.st.len, List.getElem?_append_right (Nat.le_refl _), Nat.sub_self]
  rfl⟩
/-- .. it stays -/
theorem ss_lcF (hf : ∀ env x, foldedSetIterable iter env x = pure x := by intro _ _; rfl) : SndS c (.Assign [.Name y py] (.ListComp elt [⟨tg, iter, ifs, 0⟩] scope pos) spos) (sSet j (eF (lComp m W C A (own.map (·.2))))) := ⟨fun {X G ZX ρ env E st M0 M D} ds wi he hs z => by
  refine ss_lcC j hy hl hyb hk own hb hi hg gm ht ha hf ds wi he hs (Qf := fun ts st => ∃ ds, ts = ds.map T.d ∧ putK env j (some (.d (.lst ds))) fun e => (kon c.mg ρ M0 D ZX).nx e st) (W.mono (fun _ _ _ h1 => cmpD_L h1) (fun cc v s q => kexZ he cc v s q) z) fun D1 acc ss ρ' st' M' ci q => ?_
  obtain ⟨ds', rfl, q⟩ := q
  obtain ⟨_, q⟩ := putK_iff.mp q
  rw [ci.acc.d_inv]
  exact .inr (q _ _ _ ci.up ((he.up ci.up).set (.d (.lst ds')) j) (ci.st.skip ci.off ci.out))⟩
/-- .. its items with places -/
theorem ss_lcT (hf : ∀ env x, foldedSetIterable iter env x = pure x := by intro _ _; rfl) : SndS c (.Assign [.Name y py] (.ListComp elt [⟨tg, iter, ifs, 0⟩] scope pos) spos) (sSet j (eCompT m W C A (own.map (·.2)))) := ⟨fun {X G ZX ρ env E st M0 M D} ds wi he hs z => by
  refine ss_lcC j hy hl hyb hk own hb hi hg gm ht ha hf ds wi he hs (W.mono (fun _ _ _ h1 => h1) (fun cc v s q => kexZ he cc v s q) z) fun D1 acc ss ρ' st' M' ci q => ?_
  obtain ⟨_, q⟩ := putK_iff.mp (pushK_iff.mp q)
  refine .inl (q _ _ _ (ci.up.trans Up.app) (((he.up ci.up).up Up.app).set (.loc ?_) j) ci.newT)
  rw [← ci.st.len, List.getElem?_append_right (Nat.le_refl _), Nat.sub_self]
  rfl⟩
end
end
end Sy

set_option Elab.async false
set_option linter.all false
set_option maxRecDepth 100000
namespace Sy
open PySem PySem.Spec PyProof.Rows L2

/-- a def -/
structure Fd where
  run : List T → Sto → QT → ZT → Prop
  mono : ∀ {ts st Q Q' Z Z'}, (∀ v s, Q v s → Q' v s) → (∀ c v s, Z c v s → Z' c v s) → run ts st Q Z → run ts st Q' Z'
/-- its promise -/
def C_of (mg : Str → Option Value) (f : Fd) : Con := fun ss M Q E => ∃ ρ ts st M0, TRs mg ρ ts ss ∧ StT mg ρ st M0 M ∧ f.run ts st (liftQ mg ρ M0 Q) (liftZ mg ρ M0 E)

def iniK : Nat → List T → (En → Prop) → Prop
  | 0, [], k => k []
  | n + 1, t :: ts, k => iniK n ts fun e => k (some t :: e)
  | _, _, _ => False
theorem iniK_inv : ∀ {n : Nat} {ts : List T} {k : En → Prop}, iniK n ts k → ts.length = n ∧ k (ts.map some)
  | 0, [], _, h => ⟨rfl, h⟩
  | n + 1, t :: ts, _, h => by
    obtain ⟨a, b⟩ := iniK_inv (n := n) (ts := ts) h
    exact ⟨by rw [List.length_cons, a], b⟩
  | 0, _ :: _, _, h => h.elim
  | _ + 1, [], _, h => h.elim
theorem iniK_mono : ∀ {n : Nat} {ts : List T} {k k' : En → Prop}, (∀ e, k e → k' e) → iniK n ts k → iniK n ts k'
  | 0, [], _, _, m, h => m _ h
  | n + 1, t :: ts, _, _, m, h => iniK_mono (n := n) (ts := ts) (fun _ h1 => m _ h1) h
  | 0, _ :: _, _, _, _, h => h
  | _ + 1, [], _, _, _, h => h
/-- free slots behind -/
def padN : List Unit → En
  | [] => []
  | _ :: us => none :: padN us
def padE : En → List Unit → En
  | [], us => padN us
  | x :: e, us => x :: padE e us
theorem padN_eq : ∀ (us : List Unit), padN us = List.replicate us.length none
  | [] => rfl
  | _ :: us => by rw [padN, padN_eq us]; rfl
theorem padE_eq : ∀ (e : En) (us : List Unit), padE e us = e ++ List.replicate us.length none
  | [], us => by rw [padE, padN_eq us]; rfl
  | x :: e, us => by rw [padE, padE_eq e us]; rfl
def fnD (np : Nat) (rest : List Unit) (body : Cmd) : Fd where
  run := fun ts st Q Z => iniK np ts fun e => body.run (padE e rest) st { nx := fun _ s => Q (.d .non) s, rt := Q, bk := fun _ _ => False, ct := fun _ _ => False, ex := fun _ c v s => Z c v s }
  mono := fun m n h => iniK_mono (fun _ h1 => by
    refine body.mono ?_ h1
    exact ⟨fun _ _ h2 => m _ _ h2, m, fun _ _ h => h, fun _ _ h => h, fun _ _ _ _ h2 => n _ _ _ h2⟩) h
theorem EnvT.none {mg : Str → Option Value} {ρ : List Addr} : ∀ {n : Nat}, EnvT mg ρ (List.replicate n Option.none) (List.replicate n Option.none)
  | 0 => .nil
  | n + 1 => .nah EnvT.none
theorem EnvT.of {mg : Str → Option Value} {ρ : List Addr} : ∀ {ts : List T} {ss : List S} {n : Nat}, TRs mg ρ ts ss → EnvT mg ρ (ts.map some ++ List.replicate n Option.none) (ss.map some ++ List.replicate n Option.none)
  | _, _, _, .nil => EnvT.none
  | _, _, _, .cons a b => .yea a (EnvT.of b)
section
variable {P : Program} {w : World} {K : PySem.W.Frag} {mg : Str → Option Value} {base : Heap}
theorem fd_ok {x qual : Str} {stm : Stmt} {f : Addr} {fd : FuncData} {N ps : List Str} {k : Nat} {rest : List Unit} {body : Cmd} (F : Fun K x qual stm f fd) (S1 : FnScope N ps (defScope stm)) (hr : N.length = ps.length + rest.length)
    (hb : SndSs ⟨P, w, K, mg, base, N, defScope stm, k⟩ (defBody stm) body) : FnOk P w K mg base (L2.CX P w) (k + 1) f fd ps (SpC K (C_of mg (fnD ps.length rest body))) := by
  refine def_okE F S1 (fun ss M Q E h => ?_) (fun X G eP ew eK em eb d de ss M Q E h wi => ?_)
  · obtain ⟨ρ, ts, st, M0, r, _, h⟩ := h
    have h : iniK ps.length ts _ := h
    rw [← r.len]; exact (iniK_inv h).1
  · obtain ⟨ρ, ts, st, M0, r, hs, h⟩ := h
    have h : iniK ps.length ts _ := h
    obtain ⟨hl, h⟩ := iniK_inv h
    have dc : DC ⟨P, w, K, mg, base, N, defScope stm, k⟩ X := ⟨d.dn, S1.nd, eP, ew, eK, em, eb⟩
    have he : EnvT mg ρ (padE (ts.map some) rest) (startE N ss) := by
      rw [padE_eq]
      unfold startE
      have e : N.length - ss.length = rest.length := by rw [← r.len, hl]; omega
      rw [e]
      exact EnvT.of r
    refine hb.run (ZX := fun _ c s M => E c s M) ⟨dc, d, de⟩ (.inr wi) he hs ?_
    refine body.mono ?_ h
    exact ⟨fun _ s q ρ' _ M' u _ hs => q _ _ _ u (.d .non) hs, fun _ _ q => q, fun _ _ q => q.elim, fun _ _ q => q.elim, fun _ _ _ _ q ρ' _ M' u _ hs => q _ _ u hs⟩
end

mutual
def renT (g : Nat → Option Nat) : T → (T → Prop) → Prop
  | .d x, k => k (.d x)
  | .loc i, k => match g i with
    | some j => k (.loc j)
    | none => False
  | .tup ts, k => renTs g ts fun us => k (.tup us)
  | .exn c v, k => k (.exn c v)
  | .scr xs, k => k (.scr xs)
def renTs (g : Nat → Option Nat) : List T → (List T → Prop) → Prop
  | [], k => k []
  | t :: ts, k => renT g t fun u => renTs g ts fun us => k (u :: us)
end
def renF (g : Nat → Option Nat) : List (Str × T) → (List (Str × T) → Prop) → Prop
  | [], k => k []
  | (n, t) :: ts, k => renT g t fun u => renF g ts fun us => k ((n, u) :: us)
def renO (g : Nat → Option Nat) : O → (O → Prop) → Prop
  | .lst xs, k => k (.lst xs)
  | .lsT ts, k => renTs g ts fun us => k (.lsT us)
  | .fz xs, k => k (.fz xs)
  | .dK kvs, k => k (.dK kvs)
  | .dT kvs, k => k (.dT kvs)
  | .ins c fs, k => renF g fs fun us => k (.ins c us)
def renOs (g : Nat → Option Nat) : List O → (List O → Prop) → Prop
  | [], k => k []
  | t :: ts, k => renO g t fun u => renOs g ts fun us => k (u :: us)
section
variable {mg : Str → Option Value} {ρ ρ2 : List Addr} {g : Nat → Option Nat} (hg : ∀ i j a, g i = some j → ρ[i]? = some a → ρ2[j]? = some a)
include hg
mutual
theorem renT_ok : ∀ {t : T} {s : S} {k : T → Prop}, TR mg ρ t s → renT g t k → ∃ u, TR mg ρ2 u s ∧ k u
  | .d x, _, _, r, h => by cases r; exact ⟨_, .d x, h⟩
  | .loc i, _, _, r, h => by
    cases r with
    | loc e =>
      unfold renT at h
      split at h
      · rename_i j ej; exact ⟨_, .loc (hg _ _ _ ej e), h⟩
      · exact h.elim
  | .tup ts, _, _, r, h => by
    cases r with
    | tup r =>
      obtain ⟨us, r', h'⟩ := renTs_ok r h
      exact ⟨_, .tup r', h'⟩
  | .exn c v, _, _, r, h => by cases r; exact ⟨_, .exn c v, h⟩
  | .scr xs, _, _, r, h => by cases r; exact ⟨_, .scr xs, h⟩
theorem renTs_ok : ∀ {t : List T} {s : List S} {k : List T → Prop}, TRs mg ρ t s → renTs g t k → ∃ u, TRs mg ρ2 u s ∧ k u
  | [], _, _, r, h => by cases r; exact ⟨[], .nil, h⟩
  | t :: ts, _, _, r, h => by
    cases r with
    | cons r1 r2 =>
      unfold renTs at h
      obtain ⟨u, a, h⟩ := renT_ok r1 h
      obtain ⟨us, b, h⟩ := renTs_ok r2 h
      exact ⟨_, .cons a b, h⟩
end
theorem renF_ok : ∀ {t : List (Str × T)} {s : List (Str × S)} {k : List (Str × T) → Prop}, FR mg ρ t s → renF g t k → ∃ u, FR mg ρ2 u s ∧ k u
  | [], _, _, r, h => by cases r; exact ⟨[], .nil, h⟩
  | (n, t) :: ts, _, _, r, h => by
    cases r with
    | cons r1 r2 =>
      unfold renF at h
      obtain ⟨u, a, h⟩ := renT_ok hg r1 h
      obtain ⟨us, b, h⟩ := renF_ok r2 h
      exact ⟨_, .cons a b, h⟩
theorem renO_ok {o : O} {k : O → Prop} (h : renO g o k) : ∃ u, (∀ m, OR mg ρ o m → OR mg ρ2 u m) ∧ k u := by
  cases o with
  | lst xs => exact ⟨_, fun m r => by cases r; exact .lst xs, h⟩
  | fz xs => exact ⟨_, fun m r => by cases r; exact .fz xs, h⟩
  | dK xs => exact ⟨_, fun m r => by cases r; exact .dK xs, h⟩
  | dT xs => exact ⟨_, fun m r => by cases r; exact .dT xs, h⟩
  | lsT ts =>
    have key : ∃ us, k (.lsT us) ∧ ∀ ss, TRs mg ρ ts ss → TRs mg ρ2 us ss := by
      have c2 : ∀ {ts : List T} {k : List T → Prop}, renTs g ts k → ∃ us, k us ∧ ∀ ss, TRs mg ρ ts ss → TRs mg ρ2 us ss := by
        intro ts
        induction ts with
        | nil => intro k h; exact ⟨[], h, fun ss r => by cases r; exact .nil⟩
        | cons t ts ih =>
          intro k h
          unfold renTs at h
          have c1 : ∀ {t : T} {k : T → Prop}, renT g t k → ∃ u, k u ∧ ∀ s, TR mg ρ t s → TR mg ρ2 u s := by
            intro t k h
            by_cases e : ∃ s, TR mg ρ t s
            · obtain ⟨s, r⟩ := e
              obtain ⟨u, r', h'⟩ := renT_ok hg r h
              refine ⟨u, h', fun s' r2 => ?_⟩
              rw [TR.fn t _ _ r2 r]; exact r'
            · have ne : ∃ u, k u := by
                have key : ∀ t : T, ∀ k : T → Prop, renT g t k → ∃ u, k u := by
                  have kk := @T.rec (fun t => ∀ k : T → Prop, renT g t k → ∃ u, k u) (fun ts => ∀ k : List T → Prop, renTs g ts k → ∃ u, k u)
                    (fun x k h => ⟨_, h⟩) (fun i k h => by unfold renT at h; split at h; exact ⟨_, h⟩; exact h.elim) (fun ts ih k h => by obtain ⟨u, h⟩ := ih _ h; exact ⟨_, h⟩) (fun c v k h => ⟨_, h⟩) (fun xs k h => ⟨_, h⟩)
                    (fun k h => ⟨_, h⟩) (fun t ts a b k h => by unfold renTs at h; obtain ⟨u, h⟩ := a _ h; obtain ⟨us, h⟩ := b _ h; exact ⟨_, h⟩)
                  exact kk
                exact key t k h
              obtain ⟨u, h'⟩ := ne
              exact ⟨u, h', fun s r => absurd ⟨s, r⟩ e⟩
          obtain ⟨u, h, a⟩ := c1 h
          obtain ⟨us, h, b⟩ := ih h
          exact ⟨_, h, fun ss r => by cases r with | cons r1 r2 => exact .cons (a _ r1) (b _ r2)⟩
      exact c2 (show renTs g ts fun us => k (.lsT us) from h)
    obtain ⟨us, h, a⟩ := key
    exact ⟨_, fun m r => by cases r with | lsT r => exact .lsT (a _ r), h⟩
  | ins c fs =>
    have c2 : ∀ {ts : List (Str × T)} {k : List (Str × T) → Prop}, renF g ts k → ∃ us, k us ∧ ∀ ss, FR mg ρ ts ss → FR mg ρ2 us ss := by
      intro ts
      induction ts with
      | nil => intro k h; exact ⟨[], h, fun ss r => by cases r; exact .nil⟩
      | cons t ts ih =>
        intro k h
        obtain ⟨n, t⟩ := t
        unfold renF at h
        have c1 : ∀ {t : T} {k : T → Prop}, renT g t k → ∃ u, k u ∧ ∀ s, TR mg ρ t s → TR mg ρ2 u s := by
          intro t k h
          by_cases e : ∃ s, TR mg ρ t s
          · obtain ⟨s, r⟩ := e
            obtain ⟨u, r', h'⟩ := renT_ok hg r h
            refine ⟨u, h', fun s' r2 => ?_⟩
            rw [TR.fn t _ _ r2 r]; exact r'
          · have key : ∀ t : T, ∀ k : T → Prop, renT g t k → ∃ u, k u := by
              have kk := @T.rec (fun t => ∀ k : T → Prop, renT g t k → ∃ u, k u) (fun ts => ∀ k : List T → Prop, renTs g ts k → ∃ u, k u)
                (fun x k h => ⟨_, h⟩) (fun i k h => by unfold renT at h; split at h; exact ⟨_, h⟩; exact h.elim) (fun ts ih k h => by obtain ⟨u, h⟩ := ih _ h; exact ⟨_, h⟩) (fun c v k h => ⟨_, h⟩) (fun xs k h => ⟨_, h⟩)
                (fun k h => ⟨_, h⟩) (fun t ts a b k h => by unfold renTs at h; obtain ⟨u, h⟩ := a _ h; obtain ⟨us, h⟩ := b _ h; exact ⟨_, h⟩)
              exact kk
            obtain ⟨u, h'⟩ := key t k h
            exact ⟨u, h', fun s r => absurd ⟨s, r⟩ e⟩
        obtain ⟨u, h, a⟩ := c1 h
        obtain ⟨us, h, b⟩ := ih h
        exact ⟨_, h, fun ss r => by cases r with | cons r1 r2 => exact .cons (a _ r1) (b _ r2)⟩
    obtain ⟨us, h, a⟩ := c2 (show renF g fs fun us => k (.ins c us) from h)
    exact ⟨_, fun m r => by cases r with | ins r => exact .ins (a _ r), h⟩
theorem renOs_ok : ∀ {os : List O} {k : List O → Prop}, renOs g os k → ∃ us, us.length = os.length ∧ (∀ (i : Nat) (o u : O), os[i]? = some o → us[i]? = some u → ∀ m, OR mg ρ o m → OR mg ρ2 u m) ∧ k us
  | [], k, h => ⟨[], rfl, fun i o u e => by simp at e, h⟩
  | o :: os, k, h => by
    unfold renOs at h
    obtain ⟨u, a, h⟩ := renO_ok hg h
    obtain ⟨us, hl, b, h⟩ := renOs_ok h
    refine ⟨u :: us, by rw [List.length_cons, List.length_cons, hl], fun i o' u' e1 e2 => ?_, h⟩
    cases i with
    | zero => simp at e1 e2; subst e1 e2; exact a
    | succ i => exact b i o' u' (by simpa using e1) (by simpa using e2)
end
section
variable {g : Nat → Option Nat}
mutual
theorem renT_mono : ∀ {t : T} {k k' : T → Prop}, (∀ u, k u → k' u) → renT g t k → renT g t k'
  | .d x, _, _, m, h => m _ h
  | .loc i, _, _, m, h => by
    unfold renT at *
    split at h
    · exact m _ h
    · exact h
  | .tup ts, _, _, m, h => renTs_mono (t := ts) (fun _ h1 => m _ h1) h
  | .exn c v, _, _, m, h => m _ h
  | .scr xs, _, _, m, h => m _ h
theorem renTs_mono : ∀ {t : List T} {k k' : List T → Prop}, (∀ u, k u → k' u) → renTs g t k → renTs g t k'
  | [], _, _, m, h => m _ h
  | t :: ts, _, _, m, h => renT_mono (t := t) (fun _ h1 => renTs_mono (t := ts) (fun _ h2 => m _ h2) h1) h
end
theorem renF_mono : ∀ {t : List (Str × T)} {k k' : List (Str × T) → Prop}, (∀ u, k u → k' u) → renF g t k → renF g t k'
  | [], _, _, m, h => m _ h
  | (n, t) :: ts, _, _, m, h => renT_mono (t := t) (fun _ h1 => renF_mono (t := ts) (fun _ h2 => m _ h2) h1) h
theorem renO_mono {o : O} {k k' : O → Prop} (m : ∀ u, k u → k' u) (h : renO g o k) : renO g o k' := by
  cases o with
  | lst xs => exact m _ h
  | fz xs => exact m _ h
  | dK xs => exact m _ h
  | dT xs => exact m _ h
  | lsT ts => exact renTs_mono (fun _ h1 => m _ h1) (show renTs g ts _ from h)
  | ins c fs => exact renF_mono (fun _ h1 => m _ h1) (show renF g fs _ from h)
theorem renOs_mono : ∀ {os : List O} {k k' : List O → Prop}, (∀ u, k u → k' u) → renOs g os k → renOs g os k'
  | [], _, _, m, h => m _ h
  | o :: os, _, _, m, h => renO_mono (o := o) (fun _ h1 => renOs_mono (os := os) (fun _ h2 => m _ h2) h1) h
end

mutual
def locsT : T → List Nat → List Nat
  | .loc i, acc => i :: acc
  | .tup ts, acc => locsTs ts acc
  | .d _, acc => acc
  | .exn _ _, acc => acc
  | .scr _, acc => acc
def locsTs : List T → List Nat → List Nat
  | [], acc => acc
  | t :: ts, acc => locsT t (locsTs ts acc)
end
def locsF : List (Str × T) → List Nat → List Nat
  | [], acc => acc
  | (_, t) :: ts, acc => locsT t (locsF ts acc)
def locsO : Option O → List Nat → List Nat
  | some (.lsT ts), acc => locsTs ts acc
  | some (.ins _ fs), acc => locsF fs acc
  | _, acc => acc
def locsOs : List O → List Nat → List Nat
  | [], acc => acc
  | o :: os, acc => locsO (some o) (locsOs os acc)
def elemN (i : Nat) : List Nat → Bool
  | [] => false
  | j :: js => match Nat.beq i j with
    | true => true
    | false => elemN i js
theorem elemN_iff {i : Nat} : ∀ {js : List Nat}, elemN i js = false ↔ i ∉ js
  | [] => by simp [elemN]
  | j :: js => by
    unfold elemN
    by_cases h : i = j
    · subst h; simp
    · have : Nat.beq i j = false := by
        cases e : Nat.beq i j with
        | false => rfl
        | true => exact absurd (Nat.eq_of_beq_eq_true e) h
      rw [this]
      simp only [List.mem_cons, not_or]
      rw [elemN_iff]
      exact ⟨fun z => ⟨h, z⟩, fun z => z.2⟩
def reach : Nat → List Nat → List Nat → Sto → List Nat
  | 0, _, seen, _ => seen
  | _ + 1, [], seen, _ => seen
  | f + 1, i :: todo, seen, st => match elemN i seen with
    | true => reach f todo seen st
    | false => reach f (locsO (nth st i) todo) (seen ++ [i]) st
theorem reach_nd : ∀ {f : Nat} {todo seen : List Nat} {st : Sto}, seen.Nodup → (reach f todo seen st).Nodup
  | 0, _, _, _, h => h
  | _ + 1, [], _, _, h => h
  | f + 1, i :: todo, seen, st, h => by
    unfold reach
    split
    · exact reach_nd h
    · rename_i e
      refine reach_nd ?_
      rw [List.nodup_append]
      refine ⟨h, List.nodup_cons.mpr ⟨List.not_mem_nil, List.nodup_nil⟩, fun a ha b hb => ?_⟩
      rw [List.mem_singleton] at hb
      subst hb
      intro z; subst z
      exact elemN_iff.mp e ha
def nums : List Nat := [0, 1, 2, 3, 4, 5, 6, 7, 8, 9, 10, 11, 12, 13, 14, 15, 16, 17, 18, 19, 20, 21, 22, 23, 24, 25, 26, 27, 28, 29, 30, 31, 32, 33, 34, 35, 36, 37, 38, 39, 40, 41, 42, 43, 44, 45, 46, 47, 48, 49, 50, 51, 52, 53, 54, 55, 56, 57, 58, 59, 60, 61, 62, 63]
/-- the place of i in js, as the number that stands there -/
def posN : List Nat → List Nat → Nat → Option Nat
  | j :: js, n :: ns, i => match Nat.beq i j with
    | true => some n
    | false => posN js ns i
  | _, _, _ => none
theorem posN_at : ∀ {js ns : List Nat} {i n : Nat}, posN js ns i = some n → ∃ k : Nat, js[k]? = some i ∧ ns[k]? = some n
  | j :: js, m :: ns, i, n, h => by
    unfold posN at h
    split at h
    · rename_i e
      cases h
      exact ⟨0, by simp [Nat.eq_of_beq_eq_true e], rfl⟩
    · obtain ⟨k, a, b⟩ := posN_at h
      exact ⟨k + 1, a, b⟩
  | [], _, _, _, h => by simp [posN] at h
  | _ :: _, [], _, _, h => by simp [posN] at h
theorem nums_at {k n : Nat} (h : nums[k]? = some n) : n = k := by
  have e : nums = List.range 64 := by decide
  rw [e] at h
  obtain ⟨a, b⟩ := List.getElem?_eq_some_iff.mp h
  rw [List.getElem_range] at b
  exact b.symm
/-- the objects at these places -/
def gath : List Nat → Sto → (List O → Prop) → Prop
  | [], _, k => k []
  | i :: is, st, k => match nth st i with
    | some o => gath is st fun os => k (o :: os)
    | none => False
theorem gath_inv : ∀ {is : List Nat} {st : Sto} {k : List O → Prop}, gath is st k → ∃ os, os.length = is.length ∧ (∀ (n i : Nat) (o : O), is[n]? = some i → os[n]? = some o → st[i]? = some o) ∧ k os
  | [], _, _, h => ⟨[], rfl, fun n i o e => by simp at e, h⟩
  | i :: is, st, k, h => by
    unfold gath at h
    rw [nth_eq] at h
    split at h
    · rename_i o e
      obtain ⟨os, a, b, c⟩ := gath_inv h
      refine ⟨o :: os, by rw [List.length_cons, List.length_cons, a], fun n j u e1 e2 => ?_, c⟩
      cases n with
      | zero => simp at e1 e2; subst e1 e2; exact e
      | succ n => exact b n j u (by simpa using e1) (by simpa using e2)
    · exact h.elim
theorem gath_mono : ∀ {is : List Nat} {st : Sto} {k k' : List O → Prop}, (∀ u, k u → k' u) → gath is st k → gath is st k'
  | [], _, _, _, m, h => m _ h
  | i :: is, st, _, _, m, h => by
    unfold gath at *
    split at h
    · exact gath_mono (fun _ h1 => m _ h1) h
    · exact h
def putAll : List Nat → List O → Sto → (Sto → Prop) → Prop
  | i :: is, o :: os, st, k => putK st i o fun st => putAll is os st k
  | _, _, st, k => k st
theorem putAll_mono : ∀ {is : List Nat} {os : List O} {st : Sto} {k k' : Sto → Prop}, (∀ u, k u → k' u) → putAll is os st k → putAll is os st k'
  | i :: is, o :: os, st, _, _, m, h => putK_mono (fun _ h1 => putAll_mono m h1) h
  | [], _, _, _, _, m, h => m _ h
  | _ :: _, [], _, _, _, m, h => m _ h
theorem putAll_inv : ∀ {is : List Nat} {os : List O} {st : Sto} {k : Sto → Prop}, os.length = is.length → is.Nodup → putAll is os st k → ∃ st2, st2.length = st.length ∧ (∀ (n i : Nat) (o : O), is[n]? = some i → os[n]? = some o → i < st.length ∧ st2[i]? = some o) ∧ (∀ i, i ∉ is → st2[i]? = st[i]?) ∧ k st2
  | [], os, st, k, hl, _, h => ⟨st, rfl, fun n i o e => by simp at e, fun _ _ => rfl, by
      cases os with
      | nil => exact h
      | cons _ _ => simp at hl⟩
  | _ :: _, [], _, _, hl, _, _ => by simp at hl
  | i :: is, o :: os, st, k, hl, nd, h => by
    obtain ⟨hi, h⟩ := putK_iff.mp (show putK st i o _ from h)
    obtain ⟨n1, n2⟩ := List.nodup_cons.mp nd
    obtain ⟨st2, a, b, c, d⟩ := putAll_inv (by simpa using hl) n2 h
    refine ⟨st2, by rw [a, List.length_set], fun n j u e1 e2 => ?_, fun j hj => ?_, d⟩
    · cases n with
      | zero =>
        simp at e1 e2; subst e1 e2
        exact ⟨hi, by rw [c _ n1, List.getElem?_set_self hi]⟩
      | succ n =>
        obtain ⟨x, y⟩ := b n j u (by simpa using e1) (by simpa using e2)
        rw [List.length_set] at x
        exact ⟨x, y⟩
    · have h1 : j ≠ i := fun z => hj (by rw [z]; exact List.mem_cons_self)
      have h2 : j ∉ is := fun z => hj (List.mem_cons_of_mem _ z)
      rw [c j h2, List.getElem?_set_ne (Ne.symm h1)]
def appK : Sto → List O → (Sto → Prop) → Prop
  | [], ns, k => k ns
  | x :: xs, ns, k => appK xs ns fun ys => k (x :: ys)
theorem appK_iff : ∀ {xs : Sto} {ns : List O} {k : Sto → Prop}, appK xs ns k ↔ k (xs ++ ns)
  | [], ns, k => Iff.rfl
  | x :: xs, ns, k => by rw [appK, appK_iff]; rfl
/-- the first n -/
def frst : List Nat → Sto → (List O → Prop) → Prop
  | [], _, k => k []
  | _ :: is, o :: os, k => frst is os fun us => k (o :: us)
  | _ :: _, [], _ => False
theorem frst_inv : ∀ {is : List Nat} {os : Sto} {k : List O → Prop}, frst is os k → is.length ≤ os.length ∧ k (os.take is.length)
  | [], os, k, h => ⟨Nat.zero_le _, h⟩
  | _ :: is, o :: os, k, h => by
    obtain ⟨a, b⟩ := frst_inv (is := is) (os := os) h
    exact ⟨Nat.succ_le_succ a, b⟩
  | _ :: _, [], _, h => h.elim
theorem frst_mono : ∀ {is : List Nat} {os : Sto} {k k' : List O → Prop}, (∀ u, k u → k' u) → frst is os k → frst is os k'
  | [], _, _, _, m, h => m _ h
  | _ :: is, o :: os, _, _, m, h => frst_mono (is := is) (os := os) (fun _ h1 => m _ h1) h
  | _ :: _, [], _, _, _, h => h
/-- those of n or more -/
def fltGe (n : Nat) : List Nat → List Nat
  | [] => []
  | j :: js => match Nat.ble n j with
    | true => j :: fltGe n js
    | false => fltGe n js
theorem fltGe_sub {n : Nat} : ∀ {js : List Nat}, (fltGe n js).Sublist js
  | [] => .slnil
  | j :: js => by
    unfold fltGe
    split
    · exact fltGe_sub.cons₂ j
    · exact fltGe_sub.cons j
theorem fltGe_ge {n i : Nat} : ∀ {js : List Nat}, i ∈ fltGe n js → n ≤ i
  | [], h => absurd h List.not_mem_nil
  | j :: js, h => by
    unfold fltGe at h
    split at h
    · rename_i e
      rcases List.mem_cons.mp h with rfl | h
      · exact Nat.le_of_ble_eq_true e
      · exact fltGe_ge h
    · exact fltGe_ge h
/-- numbers from b on -/
def numF (b : Nat) : List Nat := nums.map (b + ·)
/-- the places told back -/
def gBack (n : Nat) (ix js ns : List Nat) (i : Nat) : Option Nat := match Nat.ble n i with
  | true => posN js ns i
  | false => nth ix i
/-- new places: from b on -/
def numsF : Nat → List Nat
  | 0 => [0, 1, 2, 3, 4, 5, 6, 7]
  | 1 => [1, 2, 3, 4, 5, 6, 7, 8]
  | 2 => [2, 3, 4, 5, 6, 7, 8, 9]
  | 3 => [3, 4, 5, 6, 7, 8, 9, 10]
  | 4 => [4, 5, 6, 7, 8, 9, 10, 11]
  | 5 => [5, 6, 7, 8, 9, 10, 11, 12]
  | 6 => [6, 7, 8, 9, 10, 11, 12, 13]
  | 7 => [7, 8, 9, 10, 11, 12, 13, 14]
  | 8 => [8, 9, 10, 11, 12, 13, 14, 15]
  | 9 => [9, 10, 11, 12, 13, 14, 15, 16]
  | b => [b, b + 1, b + 2, b + 3, b + 4, b + 5, b + 6, b + 7]
theorem numsF_at {b k n : Nat} (h : (numsF b)[k]? = some n) : n = b + k := by
  have key : numsF b = [b, b + 1, b + 2, b + 3, b + 4, b + 5, b + 6, b + 7] := by
    unfold numsF
    split <;> rfl
  rw [key] at h
  match k, h with
  | 0, h => simpa using h.symm
  | 1, h => simpa using h.symm
  | 2, h => simpa using h.symm
  | 3, h => simpa using h.symm
  | 4, h => simpa using h.symm
  | 5, h => simpa using h.symm
  | 6, h => simpa using h.symm
  | 7, h => simpa using h.symm
  | k + 8, h => simp at h
/-- the caller's store behind a call that reached ix, v what is handed back -/
def backK (ix : List Nat) (v : List T) (st st2 : Sto) (k : List T → Sto → Prop) : Prop :=
  lenK ix fun n => lenK st fun b => frst ix st2 fun os =>
    let js := fltGe n (reach 1000 (locsTs v (locsOs os [])) [] st2)
    let g := gBack n ix js (numsF b)
    renTs g v fun v' => renOs g os fun os' => gath js st2 fun ns => renOs g ns fun ns' => putAll ix os' st fun st3 => appK st3 ns' fun st4 => k v' st4
theorem backK_mono {ix : List Nat} {v : List T} {st st2 : Sto} {k k' : List T → Sto → Prop} (m : ∀ v s, k v s → k' v s) (h : backK ix v st st2 k) : backK ix v st st2 k' := by
  unfold backK at *
  rw [lenK_iff] at *
  rw [lenK_iff] at *
  exact frst_mono (fun _ h => renTs_mono (fun _ h => renOs_mono (fun _ h => gath_mono (fun _ h => renOs_mono (fun _ h => putAll_mono (fun _ h => appK_iff.mpr (m _ _ (appK_iff.mp h))) h) h) h) h) h) h
def callL (f : Fd) (ts : List T) (st : Sto) (Q : QT) (Z : ZT) : Prop :=
  let ix := reach 1000 (locsTs ts []) [] st
  let g := posN ix nums
  renTs g ts fun ts' => gath ix st fun cs => renOs g cs fun st' =>
    f.run ts' st' (fun v st2 => backK ix [v] st st2 fun vs st4 => match vs with
      | [v'] => Q v' st4
      | _ => False) (fun c v st2 => backK ix [] st st2 fun _ st4 => Z c v st4)
theorem callL_mono {f : Fd} {ts : List T} {st : Sto} {Q Q' : QT} {Z Z' : ZT} (m : ∀ v s, Q v s → Q' v s) (n : ∀ c v s, Z c v s → Z' c v s) (h : callL f ts st Q Z) : callL f ts st Q' Z' :=
  renTs_mono (fun _ h => gath_mono (fun _ h => renOs_mono (fun _ h => f.mono (fun _ _ h => backK_mono (fun _ _ h => by
    split at h
    · exact m _ _ h
    · exact h) h) (fun _ _ _ h => backK_mono (fun _ _ h => n _ _ _ h) h) h) h) h) h
section
variable {mg : Str → Option Value} {ρ : List Addr} {st : Sto} {M0 M : Mem}
/-- the callee's frame: all but its own -/
def M0c (ρc : List Addr) (M : Mem) : Mem := fun a => if a ∈ ρc then none else M a
theorem callee_st {ix : List Nat} {cs st' : Sto} {g : Nat → Option Nat} (hs : StT mg ρ st M0 M) (nd : ix.Nodup) (hc : cs.length = ix.length) (hcs : ∀ (n i : Nat) (o : O), ix[n]? = some i → cs[n]? = some o → st[i]? = some o)
    (hl : st'.length = cs.length) (ρc : List Addr) (hρ : ρc.length = ix.length) (hρi : ∀ n i : Nat, ix[n]? = some i → ρc[n]? = ρ[i]?) (hr : ∀ (i : Nat) (o u : O), cs[i]? = some o → st'[i]? = some u → ∀ m, OR mg ρ o m → OR mg ρc u m) : StT mg ρc st' (M0c ρc M) M where
  len := by omega
  nd := by
    refine List.pairwise_iff_getElem.mpr fun a b ha hb hab z => ?_
    have ha' : a < ix.length := by omega
    have hb' : b < ix.length := by omega
    have e1 := hρi a _ (List.getElem?_eq_getElem ha')
    have e2 := hρi b _ (List.getElem?_eq_getElem hb')
    rw [List.getElem?_eq_getElem ha] at e1
    rw [List.getElem?_eq_getElem hb] at e2
    have e3 := nodup_get hs.nd e1.symm (by rw [z]; exact e2.symm)
    have := (List.getElem_inj nd).mp e3
    omega
  cell := fun i a o e1 e2 => by
    have hi : i < ix.length := by have := (List.getElem?_eq_some_iff.mp e1).1; omega
    have e3 := hρi i _ (List.getElem?_eq_getElem hi)
    rw [e1] at e3
    have hci : i < cs.length := by omega
    have e4 := hcs i _ _ (List.getElem?_eq_getElem hi) (List.getElem?_eq_getElem hci)
    obtain ⟨m, h1, h2⟩ := hs.cell _ a _ e3.symm e4
    exact ⟨m, h1, hr i _ o (List.getElem?_eq_getElem hci) e2 m h2⟩
  out := fun a ha => by unfold M0c; rw [if_pos ha]
  keep := fun a o ha z => by unfold M0c at z; rw [if_neg ha] at z; exact z
theorem back_ok {ix : List Nat} {ρc ρ2 : List Addr} {st2 : Sto} {M2 : Mem} {v : List T} {ss : List S} {k : List T → Sto → Prop} (hs : StT mg ρ st M0 M) (nd : ix.Nodup) (hix : ∀ i, i ∈ ix → i < st.length) (hρ : ρc.length = ix.length) (hρi : ∀ n i : Nat, ix[n]? = some i → ρc[n]? = ρ[i]?)
    (u : Up ρc ρ2) (r : TRs mg ρ2 v ss) (s2 : StT mg ρ2 st2 (M0c ρc M) M2) (h : backK ix v st st2 k) : ∃ ρ' v' st4, Up ρ ρ' ∧ TRs mg ρ' v' ss ∧ StT mg ρ' st4 M0 M2 ∧ k v' st4 := by
  unfold backK at h
  rw [lenK_iff, lenK_iff] at h
  obtain ⟨hle, h⟩ := frst_inv h
  generalize ejs : fltGe ix.length (reach 1000 (locsTs v (locsOs (st2.take ix.length) [])) [] st2) = js at h
  have ndj : js.Nodup := by rw [← ejs]; exact (reach_nd List.nodup_nil).sublist fltGe_sub
  have gej : ∀ i, i ∈ js → ix.length ≤ i := fun i hi => by rw [← ejs] at hi; exact fltGe_ge hi
  have l2 := s2.len
  -- the new addresses
  let ρn : List Addr := js.map fun j => (ρ2[j]?).getD 0
  have hn : ∀ n j : Nat, js[n]? = some j → j < ρ2.length → (ρ ++ ρn)[st.length + n]? = ρ2[j]? := fun n j e hj => by
    rw [List.getElem?_append_right (by rw [hs.len]; omega), hs.len, Nat.add_sub_cancel_left]
    show (js.map fun j => (ρ2[j]?).getD 0)[n]? = _
    rw [List.getElem?_map, e, Option.map_some, List.getElem?_eq_getElem hj]
    rfl
  have hg : ∀ i j a, gBack ix.length ix js (numsF st.length) i = some j → ρ2[i]? = some a → (ρ ++ ρn)[j]? = some a := fun i j a e ea => by
    have hi2 := (List.getElem?_eq_some_iff.mp ea).1
    unfold gBack at e
    split at e
    · obtain ⟨n, e1, e2⟩ := posN_at e
      have := numsF_at e2
      subst this
      rw [hn n i e1 hi2]; exact ea
    · rename_i hb
      rw [nth_eq] at e
      have e1 := hρi i j e
      have hil : i < ρc.length := by have := (List.getElem?_eq_some_iff.mp e).1; omega
      have e2 := u i _ (List.getElem?_eq_getElem hil)
      rw [ea] at e2; cases e2
      rw [List.getElem?_eq_getElem hil] at e1
      have hjl := hix j (List.mem_of_getElem? e)
      rw [List.getElem?_append_left (by rw [hs.len]; exact hjl)]
      exact e1.symm
  obtain ⟨v', rv', h⟩ := renTs_ok hg r h
  obtain ⟨os', lo, ho, h⟩ := renOs_ok hg h
  obtain ⟨ns, ln, hns, h⟩ := gath_inv h
  obtain ⟨ns', ln', hn', h⟩ := renOs_ok hg h
  obtain ⟨st3, l3, p1, p2, h⟩ := putAll_inv (by rw [lo, List.length_take]; omega) nd h
  have h := appK_iff.mp h
  have jlt : ∀ n j : Nat, js[n]? = some j → j < ρ2.length := fun n j e => by
    have hnl := (List.getElem?_eq_some_iff.mp e).1
    have := hns n j _ e (List.getElem?_eq_getElem (by omega))
    have := (List.getElem?_eq_some_iff.mp this).1
    omega
  -- a new address is none of the old ones
  have new_old : ∀ a, a ∈ ρn → a ∉ ρ ∧ a ∈ ρ2 ∧ a ∉ ρc := fun a ha => by
    obtain ⟨j, hj, ej⟩ := List.mem_map.mp ha
    obtain ⟨n, en⟩ := List.getElem?_of_mem hj
    have hjl := jlt n j en
    rw [List.getElem?_eq_getElem hjl] at ej
    have ej : ρ2[j] = a := ej
    have ge := gej j hj
    have hm2 : a ∈ ρ2 := by rw [← ej]; exact List.getElem_mem hjl
    have hnc : a ∉ ρc := fun hc => by
      obtain ⟨m, hm⟩ := List.getElem?_of_mem hc
      have hml := (List.getElem?_eq_some_iff.mp hm).1
      have := nodup_get s2.nd (u m a hm) (by rw [List.getElem?_eq_getElem hjl, ej])
      omega
    refine ⟨fun ho => ?_, hm2, hnc⟩
    have z := s2.out a hm2
    unfold M0c at z
    rw [if_neg hnc] at z
    exact hs.isSome ho z
  refine ⟨ρ ++ ρn, v', st3 ++ ns', Up.app, rv', ⟨?_, ?_, ?_, ?_, ?_⟩, h⟩
  · rw [List.length_append, List.length_append, l3, hs.len, ln', ln, List.length_map]
  · rw [List.nodup_append]
    refine ⟨hs.nd, ?_, fun a ha b hb z => ?_⟩
    · refine List.pairwise_iff_getElem.mpr fun a b ha hb hab z => ?_
      rw [List.length_map] at ha hb
      have e1 := jlt a _ (List.getElem?_eq_getElem ha)
      have e2 := jlt b _ (List.getElem?_eq_getElem hb)
      rw [List.getElem_map, List.getElem_map, List.getElem?_eq_getElem e1, List.getElem?_eq_getElem e2] at z
      have e3 := (List.getElem_inj s2.nd).mp z
      have := (List.getElem_inj ndj).mp e3
      omega
    · subst z; exact (new_old a hb).1 ha
  · intro i a o e1 e2
    by_cases hi : i < ρ.length
    · rw [List.getElem?_append_left hi] at e1
      rw [List.getElem?_append_left (by rw [l3, ← hs.len]; exact hi)] at e2
      by_cases hm : i ∈ ix
      · obtain ⟨n, en⟩ := List.getElem?_of_mem hm
        have hnl := (List.getElem?_eq_some_iff.mp en).1
        have hol : n < os'.length := by rw [lo, List.length_take]; omega
        obtain ⟨_, q⟩ := p1 n i _ en (List.getElem?_eq_getElem hol)
        rw [q] at e2; cases e2
        have e3 := hρi n i en
        rw [e1] at e3
        have e4 := u n a e3
        have hs2 : n < st2.length := by omega
        obtain ⟨m, m1, m2⟩ := s2.cell n a _ e4 (List.getElem?_eq_getElem hs2)
        exact ⟨m, m1, ho n _ _ (by rw [List.getElem?_take_of_lt hnl]; exact List.getElem?_eq_getElem hs2) (List.getElem?_eq_getElem hol) m m2⟩
      · rw [p2 i hm] at e2
        obtain ⟨m, m1, m2⟩ := hs.cell i a o e1 e2
        have hnc : a ∉ ρc := fun hc => by
          obtain ⟨n, hn2⟩ := List.getElem?_of_mem hc
          have hnl := (List.getElem?_eq_some_iff.mp hn2).1
          have hnx : n < ix.length := by omega
          have e3 := hρi n _ (List.getElem?_eq_getElem hnx)
          rw [hn2] at e3
          have := nodup_get hs.nd e1 e3.symm
          exact hm (by rw [this]; exact List.getElem_mem hnx)
        have hn2 : a ∉ ρ2 := fun hc => by
          have z := s2.out a hc
          unfold M0c at z
          rw [if_neg hnc, m1] at z
          cases z
        exact ⟨m, s2.keep a m hn2 (by unfold M0c; rw [if_neg hnc]; exact m1), m2.up Up.app⟩
    · have hl := (List.getElem?_eq_some_iff.mp e1).1
      rw [List.length_append, List.length_map] at hl
      obtain ⟨n, rfl⟩ : ∃ n, i = ρ.length + n := ⟨i - ρ.length, by omega⟩
      have hnl : n < js.length := by omega
      rw [List.getElem?_append_right (by rw [l3, ← hs.len]; omega), l3, ← hs.len, Nat.add_sub_cancel_left] at e2
      have hj := jlt n _ (List.getElem?_eq_getElem hnl)
      have e3 := hn n _ (List.getElem?_eq_getElem hnl) hj
      rw [← hs.len, e1] at e3
      have e4 := hns n _ _ (List.getElem?_eq_getElem hnl) (List.getElem?_eq_getElem (by omega))
      obtain ⟨m, m1, m2⟩ := s2.cell _ a _ e3.symm e4
      exact ⟨m, m1, hn' n _ o (List.getElem?_eq_getElem (by omega)) e2 m m2⟩
  · intro a ha
    rcases List.mem_append.mp ha with ha | ha
    · exact hs.out a ha
    · cases z : M0 a with
      | none => rfl
      | some o =>
        obtain ⟨h1, h2, h3⟩ := new_old a ha
        have z2 := hs.keep a o h1 z
        have z3 := s2.out a h2
        unfold M0c at z3
        rw [if_neg h3, z2] at z3
        cases z3
  · intro a o ha z
    have h1 : a ∉ ρ := fun q => ha (List.mem_append_left _ q)
    have z2 := hs.keep a o h1 z
    have hnc : a ∉ ρc := fun hc => by
      obtain ⟨n, hn2⟩ := List.getElem?_of_mem hc
      have hnl := (List.getElem?_eq_some_iff.mp hn2).1
      have hnx : n < ix.length := by omega
      have e3 := hρi n _ (List.getElem?_eq_getElem hnx)
      rw [hn2] at e3
      exact h1 (List.mem_of_getElem? e3.symm)
    have hn2 : a ∉ ρ2 := fun hc => by
      have z3 := s2.out a hc
      unfold M0c at z3
      rw [if_neg hnc, z2] at z3
      cases z3
    exact s2.keep a o hn2 (by unfold M0c; rw [if_neg hnc]; exact z2)
theorem callL_con {f : Fd} {ts : List T} {ss : List S} {Q : QS} {E : Addr → S → Mem → Prop} (r : TRs mg ρ ts ss) (hs : StT mg ρ st M0 M) (h : callL f ts st (liftQ mg ρ M0 Q) (liftZ mg ρ M0 E)) : C_of mg f ss M Q E := by
  unfold callL at h
  generalize eix : reach 1000 (locsTs ts []) [] st = ix at h
  have nd : ix.Nodup := by rw [← eix]; exact reach_nd List.nodup_nil
  let ρc : List Addr := ix.map fun i => (ρ[i]?).getD 0
  have hρ : ρc.length = ix.length := List.length_map ..
  have h : renTs (posN ix nums) ts _ := h
  -- the objects are there
  have key : ∃ cs : List O, cs.length = ix.length ∧ (∀ (n i : Nat) (o : O), ix[n]? = some i → cs[n]? = some o → st[i]? = some o) := by
    have g1 : ∀ {us : List T} {k : List T → Prop} {p : Prop}, renTs (posN ix nums) us k → (∀ u, k u → p) → p := by
      intro us k p hh hp
      have c := renTs_mono (g := posN ix nums) (k' := fun _ => p) (fun u q => hp u q) hh
      have cc : ∀ (us : List T), renTs (posN ix nums) us (fun _ => p) → p := by
        have kk := @T.rec_1 (fun t => ∀ q : Prop, renT (posN ix nums) t (fun _ => q) → q) (fun ts => ∀ q : Prop, renTs (posN ix nums) ts (fun _ => q) → q)
          (fun x q h => h) (fun i q h => by unfold renT at h; split at h; exact h; exact h.elim) (fun ts ih q h => ih q h) (fun c v q h => h) (fun xs q h => h) (fun q h => h) (fun t ts a b q h => by unfold renTs at h; exact b q (a _ h))
        exact fun us h => kk us p h
      exact cc us c
    exact g1 h fun u q => by
      obtain ⟨cs, a, b, _⟩ := gath_inv q
      exact ⟨cs, a, b⟩
  obtain ⟨cs0, lc0, hcs0⟩ := key
  have hix : ∀ i, i ∈ ix → i < st.length := fun i hi => by
    obtain ⟨n, en⟩ := List.getElem?_of_mem hi
    have hnl := (List.getElem?_eq_some_iff.mp en).1
    exact (List.getElem?_eq_some_iff.mp (hcs0 n i _ en (List.getElem?_eq_getElem (by omega)))).1
  have hρi : ∀ n i : Nat, ix[n]? = some i → ρc[n]? = ρ[i]? := fun n i e => by
    have hil := hix i (List.mem_of_getElem? e)
    rw [← hs.len] at hil
    show (ix.map fun i => (ρ[i]?).getD 0)[n]? = _
    rw [List.getElem?_map, e, Option.map_some, List.getElem?_eq_getElem hil]
    rfl
  have hg : ∀ i j a, posN ix nums i = some j → ρ[i]? = some a → ρc[j]? = some a := fun i j a e ea => by
    obtain ⟨n, e1, e2⟩ := posN_at e
    have := nums_at e2
    subst this
    rw [hρi _ _ e1]; exact ea
  obtain ⟨ts', r', h⟩ := renTs_ok hg r h
  obtain ⟨cs, lc, hcs, h⟩ := gath_inv h
  obtain ⟨st', ls, hr, h⟩ := renOs_ok hg h
  have sc := callee_st (g := posN ix nums) hs nd lc hcs ls ρc hρ hρi hr
  refine ⟨ρc, ts', st', _, r', sc, f.mono (fun v st2 q ρ2 s M2 u rv s2 => ?_) (fun cc v st2 q ρ2 M2 u s2 => ?_) h⟩
  · obtain ⟨ρ', v', st4, u', rv', s4, q⟩ := back_ok hs nd hix hρ hρi u (.cons rv .nil) s2 q
    cases rv' with
    | cons a b => cases b; exact q _ _ _ u' a s4
  · obtain ⟨ρ', v', st4, u', rv', s4, q⟩ := back_ok hs nd hix hρ hρi u .nil s2 q
    exact q _ _ u' s4
end
theorem C_of_mono {mg : Str → Option Value} {f : Fd} {ss : List S} {M : Mem} {Q Q' : QS} {E E' : Addr → S → Mem → Prop} (m : ∀ s M, Q s M → Q' s M) (n : ∀ a s M, E a s M → E' a s M) (h : C_of mg f ss M Q E) : C_of mg f ss M Q' E' := by
  obtain ⟨ρ, ts, st, M0, r, hs, h⟩ := h
  exact ⟨ρ, ts, st, M0, r, hs, f.mono (fun v st q ρ' s M' u a b => m _ _ (q ρ' s M' u a b)) (fun c v st q ρ' M' u a => n _ _ _ (q ρ' M' u a)) h⟩
def eCall (f : Fd) (As : Exs) : Ex where
  run := fun env st Q Z => As.run env st (fun ts st1 => callL f ts st1 Q Z) Z
  mono := fun m n h => As.mono (fun _ _ h1 => callL_mono m n h1) n h
abbrev Has (c : Ct) (x : Str) (k : Nat) (f : Fd) : Prop := Fn c.P c.w c.K c.mg c.base x k (C_of c.mg f)
abbrev HasK (c : Ct) (x : Str) (k : Nat) (ps : List Str) (f : Fd) : Prop := FnK c.P c.w c.K c.mg c.base x k ps (C_of c.mg f)
section
variable {c : Ct} {e : Expr} {es : List Expr} {As : Exs} {pos p : Pos} {x : Str} {j : Nat} {f : Fd}
theorem snd_call (F : Has c x j f) (hg : glB c.sc x = true) (hk : j ≤ c.k) (ha : SndA c (e :: es) As) (hdb : (x == ("__debug__" : Str)) = false := by decide)
    (hst : ∀ env, starEach (e :: es) env = (false, eval e env) :: starEach es env := by intro _; rfl) (hpl : ∀ env, (backTo pos (starEach es env)).any (·.1) = false := by intro _; rfl) : SndE c (.Call (.Name x p) (e :: es) [] pos) (eCall f As) := ⟨fun {X G ZX ρ env E st M0 M Q} dc wi he hs z => by
  have F' : Fn X.prog X.w X.K X.mg X.base x j (C_of c.mg f) := by rw [dc.prog, dc.ww, dc.kk, dc.mg, dc.base]; exact F
  have key : SA X G (e :: es) E M fun ss M1 => C_of c.mg f ss M1 Q (ZX E) := ha.run dc wi he hs (As.mono (fun ts st1 h1 ρ1 ss M1 u1 r1 s1 => callL_con r1 s1 (callL_mono (liftQ_up u1) (liftZ_up u1) h1)) (fun _ _ _ q => q) z)
  rcases wi with no | wi
  · refine dn_call dc.dn F' hg hk hdb (hst _) (hpl _) fun σ H R => ?_
    obtain ⟨t, pt, ht⟩ := key σ H R
    exact ⟨_, pa_S (G := G), E, M, _, R, key, fun v H' ⟨s, M', k, rv, m, q⟩ => ⟨s, M', k, rv, m, C_of_mono (fun _ _ q => q) (fun a s M q => (no _ _ _ _ q).elim) q⟩⟩
  · exact dn_callX dc.dn wi F' hg hk hdb (hst _) (hpl _) key⟩
end
end Sy

set_option Elab.async false
set_option linter.all false
set_option maxRecDepth 100000
namespace Sy
open PySem PySem.Spec PyProof.Rows L2

/-- a list's items, the script too -/
def lqV (st : Sto) (k : List D → Prop) : T → Prop
  | .d (.lst xs) => k xs
  | .loc j => match nth st j with
    | some (.lst xs) => k xs
    | _ => False
  | .scr xs => k (xs.map D.int)
  | _ => False
theorem lqV_mono {st : Sto} {k k' : List D → Prop} {t : T} (m : ∀ xs, k xs → k' xs) (h : lqV st k t) : lqV st k' t := by
  unfold lqV at *
  split at h
  · exact m _ h
  · split at h
    · exact m _ h
    · exact h
  · exact m _ h
  · exact h
/-- a list at hand, to be read -/
def LqM (M : Mem) (s : S) (xs : List S) : Prop := s = .fzl xs ∨ s = .rdl xs ∨ ∃ p, s = .ptr p ∧ M p = some (.lst xs)
theorem lqm_get {K : PySem.W.Frag} {M : Mem} {H : Hp} {s : S} {xs : List S} {v : V} (i : LqM M s xs) (m : MemR K M H) (r : RV K H s v) : ∃ a vs, v = .ref a ∧ SqL K H a vs ∧ RVs K H xs vs := by
  rcases i with rfl | rfl | ⟨p, rfl, h⟩
  · cases r with
    | fzl a b => exact ⟨_, _, rfl, FzL.sq (.inl ⟨_, a⟩), b⟩
  · cases r with
    | rdl a b => exact ⟨_, _, rfl, a.sq, b⟩
  · cases r
    obtain ⟨vs, h1, h2⟩ := m p _ h
    exact ⟨p, vs, rfl, SqL.of h1, h2⟩
section
variable {c : Ct}
theorem lqV_inv {ρ : List Addr} {st : Sto} {M0 M : Mem} {k : List D → Prop} {t : T} {s : S} (r : TR c.mg ρ t s) (hs : StT c.mg ρ st M0 M) (h : lqV st k t) : ∃ xs, LqM M s (D.sl xs) ∧ k xs := by
  unfold lqV at h
  split at h
  · cases r; exact ⟨_, .inl rfl, h⟩
  · rename_i j
    rw [nth_eq] at h
    cases r with
    | loc e =>
      split at h
      · rename_i xs e2
        obtain ⟨m, h1, h2⟩ := hs.at e e2
        cases h2
        exact ⟨_, .inr (.inr ⟨_, rfl, h1⟩), h⟩
      · exact h.elim
  · cases r; exact ⟨_, .inr (.inl rfl), h⟩
  · exact h.elim
theorem sl_int (ns : List Int) : D.sl (ns.map D.int) = ns.map S.int := by rw [D.sl_map, List.map_map]; rfl
theorem sl_bl (ns : List Bool) : D.sl (ns.map D.bl) = ns.map S.bl := by rw [D.sl_map, List.map_map]; rfl
/-- one value, a value -/
def on1 (k : T → Prop) : List T → Prop
  | [t] => k t
  | _ => False
theorem on1_mono {k k' : T → Prop} {ts : List T} (m : ∀ t, k t → k' t) (h : on1 k ts) : on1 k' ts := by
  unfold on1 at *
  split at h
  · exact m _ h
  · exact h
theorem on1_inv {mg : Str → Option Value} {ρ : List Addr} {k : T → Prop} {ts : List T} {ss : List S} (r : TRs mg ρ ts ss) (h : on1 k ts) : ∃ t s, ts = [t] ∧ ss = [s] ∧ TR mg ρ t s ∧ k t := by
  unfold on1 at h
  split at h
  · cases r with
    | cons a b => cases b; exact ⟨_, _, rfl, rfl, a, h⟩
  · exact h.elim
def on2 (k : T → T → Prop) : List T → Prop
  | [t, u] => k t u
  | _ => False
theorem on2_mono {k k' : T → T → Prop} {ts : List T} (m : ∀ t u, k t u → k' t u) (h : on2 k ts) : on2 k' ts := by
  unfold on2 at *
  split at h
  · exact m _ _ h
  · exact h
theorem on2_inv {mg : Str → Option Value} {ρ : List Addr} {k : T → T → Prop} {ts : List T} {ss : List S} (r : TRs mg ρ ts ss) (h : on2 k ts) : ∃ t s u v, ts = [t, u] ∧ ss = [s, v] ∧ TR mg ρ t s ∧ TR mg ρ u v ∧ k t u := by
  unfold on2 at h
  split at h
  · cases r with
    | cons a b => cases b with
      | cons b d => cases d; exact ⟨_, _, _, _, rfl, rfl, a, b, h⟩
  · exact h.elim
/-- an int -/
def isI (k : Int → Prop) : T → Prop
  | .d (.int i) => k i
  | _ => False
theorem isI_mono {k k' : Int → Prop} {t : T} (m : ∀ i, k i → k' i) (h : isI k t) : isI k' t := by
  unfold isI at *
  split at h
  · exact m _ h
  · exact h
theorem isI_inv {k : Int → Prop} {t : T} (h : isI k t) : ∃ i, t = .d (.int i) ∧ k i := by
  unfold isI at h
  split at h
  · exact ⟨_, rfl, h⟩
  · exact h.elim
def lenV (st : Sto) (k : Int → Prop) : T → Prop
  | .d (.tup xs) => k (xs.length : Nat)
  | .d (.lst xs) => k (xs.length : Nat)
  | .d (.str x) => x.length ≤ sizeLine ∧ k (x.length : Nat)
  | .tup xs => k (xs.length : Nat)
  | .scr xs => k (xs.length : Nat)
  | .loc j => match nth st j with
    | some (.lst xs) => k (xs.length : Nat)
    | some (.lsT xs) => k (xs.length : Nat)
    | some (.dK xs) => k (xs.length : Nat)
    | _ => False
  | _ => False
theorem lenV_mono {st : Sto} {k k' : Int → Prop} {t : T} (m : ∀ xs, k xs → k' xs) (h : lenV st k t) : lenV st k' t := by
  unfold lenV at *
  split at h
  · exact m _ h
  · exact m _ h
  · exact ⟨h.1, m _ h.2⟩
  · exact m _ h
  · exact m _ h
  · split at h
    · exact m _ h
    · exact m _ h
    · exact m _ h
    · exact h
  · exact h
def bLen : OpN where
  run := fun ts st Q => on1 (lenV st fun n => Q (.d (.int n)) st) ts
  mono := fun m h => on1_mono (fun _ h1 => lenV_mono (fun _ h2 => m _ _ h2) h1) h
theorem KR.length {κ : Type} {K : PySem.W.Frag} {H : Hp} : ∀ {ss : List (κ × S)} {vs : List (κ × V)}, KR K H ss vs → ss.length = vs.length
  | _, _, .nil => rfl
  | _, _, .cons _ t => by rw [List.length_cons, List.length_cons, KR.length t]
theorem dsK_len {κ : Type} : ∀ (xs : List (κ × D)), (dsK xs).length = xs.length
  | [] => rfl
  | (k, v) :: xs => by rw [dsK, List.length_cons, List.length_cons, dsK_len xs]
theorem rb_lenD {X : Cx} {M : Mem} {Q : QS} {p : Addr} {kvs : List (Key × S)} (h : M p = some (.dK kvs)) (q : Q (.int kvs.length) M) : RB X (.builtin "len") [.ptr p] M Q := fun vs H m r => by
  obtain ⟨v, rfl, r1⟩ := rvs1 r
  cases r1
  obtain ⟨ws, h1, h2⟩ := m p _ h
  refine ⟨_, call_lenD, p, ws, rfl, h1, ?_⟩
  rw [← h2.length]
  exact pack (.int _) m q
theorem snd_len : SndB c (.builtin "len") bLen := ⟨fun {X ρ xs ss st M0 M Q} dc r hs h => by
  obtain ⟨t, s, rfl, rfl, r, h⟩ := on1_inv r h
  unfold lenV at h
  split at h
  · rename_i xs
    cases r
    refine rb_len its_tup ?_
    rw [D.sl_len]; exact h _ _ _ Up.refl (.d _) hs
  · cases r
    refine rb_len its_fzl ?_
    rw [D.sl_len]; exact h _ _ _ Up.refl (.d _) hs
  · cases r
    exact rb_lenS h.1 (h.2 _ _ _ Up.refl (.d _) hs)
  · cases r with
    | tup r' =>
      refine rb_len its_tup ?_
      rw [← r'.len]; exact h _ _ _ Up.refl (.d _) hs
  · cases r
    refine rb_len its_rdl ?_
    rw [D.sl_len, List.length_map]; exact h _ _ _ Up.refl (.d _) hs
  · rename_i j
    rw [nth_eq] at h
    cases r with
    | loc e =>
      split at h
      · rename_i xs e2
        obtain ⟨m, h1, h2⟩ := hs.at e e2
        cases h2
        refine rb_len (its_lst h1) ?_
        rw [D.sl_len]; exact h _ _ _ Up.refl (.d _) hs
      · rename_i xs e2
        obtain ⟨m, h1, h2⟩ := hs.at e e2
        cases h2 with
        | lsT r' =>
          refine rb_len (its_lst h1) ?_
          rw [← r'.len]; exact h _ _ _ Up.refl (.d _) hs
      · rename_i xs e2
        obtain ⟨m, h1, h2⟩ := hs.at e e2
        cases h2
        refine rb_lenD h1 ?_
        rw [dsK_len]; exact h _ _ _ Up.refl (.d _) hs
      · exact h.elim
  · exact h.elim⟩
def bAbs : OpN where
  run := fun ts st Q => on1 (isI fun i => Q (.d (.int (if i < 0 then -i else i))) st) ts
  mono := fun m h => on1_mono (fun _ h1 => isI_mono (fun _ h2 => m _ _ h2) h1) h
theorem snd_abs : SndB c (.builtin "abs") bAbs := ⟨fun {X ρ xs ss st M0 M Q} dc r hs h => by
  obtain ⟨t, s, rfl, rfl, r, h⟩ := on1_inv r h
  obtain ⟨i, rfl, h⟩ := isI_inv h
  cases r
  exact rb_abs (h _ _ _ Up.refl (.d _) hs)⟩
def bMax2 : OpN where
  run := fun ts st Q => on2 (fun t u => isI (fun i => isI (fun j => Q (.d (.int (if j > i then j else i))) st) u) t) ts
  mono := fun m h => on2_mono (fun _ _ h1 => isI_mono (fun _ h2 => isI_mono (fun _ h3 => m _ _ h3) h2) h1) h
theorem snd_max2 : SndB c (.builtin "max") bMax2 := ⟨fun {X ρ xs ss st M0 M Q} dc r hs h => by
  obtain ⟨t, s, u, v, rfl, rfl, r1, r2, h⟩ := on2_inv r h
  obtain ⟨i, rfl, h1⟩ := isI_inv h
  obtain ⟨j, rfl, h2⟩ := isI_inv h1
  cases r1; cases r2
  exact rb_max (h2 _ _ _ Up.refl (.d _) hs) dc.dn.calm⟩
def bMin2 : OpN where
  run := fun ts st Q => on2 (fun t u => isI (fun i => isI (fun j => Q (.d (.int (if j < i then j else i))) st) u) t) ts
  mono := fun m h => on2_mono (fun _ _ h1 => isI_mono (fun _ h2 => isI_mono (fun _ h3 => m _ _ h3) h2) h1) h
theorem snd_min2 : SndB c (.builtin "min") bMin2 := ⟨fun {X ρ xs ss st M0 M Q} dc r hs h => by
  obtain ⟨t, s, u, v, rfl, rfl, r1, r2, h⟩ := on2_inv r h
  obtain ⟨i, rfl, h1⟩ := isI_inv h
  obtain ⟨j, rfl, h2⟩ := isI_inv h1
  cases r1; cases r2
  exact rb_min (h2 _ _ _ Up.refl (.d _) hs) dc.dn.calm⟩
def bInt : OpN where
  run := fun ts st Q => on1 (fun t => match t with
    | .d (.int i) => Q (.d (.int i)) st
    | .d (.bl b) => Q (.d (.int (if b then 1 else 0))) st
    | _ => False) ts
  mono := fun m h => on1_mono (fun _ h1 => by
    split at h1
    · exact m _ _ h1
    · exact m _ _ h1
    · exact h1) h
theorem snd_bInt : SndB c (.type "int") bInt := ⟨fun {X ρ xs ss st M0 M Q} dc r hs h => by
  obtain ⟨t, s, rfl, rfl, r, h⟩ := on1_inv r h
  split at h
  · cases r; exact rb_intI (h _ _ _ Up.refl (.d _) hs)
  · cases r; exact rb_intB (h _ _ _ Up.refl (.d _) hs)
  · exact h.elim⟩
def bDivmod : OpN where
  run := fun ts st Q => on2 (fun t u => isI (fun i => isI (fun j => CDivP i j ∧ Q (.d (.tup [.int (i / j), .int (i % j)])) st) u) t) ts
  mono := fun m h => on2_mono (fun _ _ h1 => isI_mono (fun _ h2 => isI_mono (fun _ h3 => ⟨h3.1, m _ _ h3.2⟩) h2) h1) h
theorem snd_divmod : SndB c (.builtin "divmod") bDivmod := ⟨fun {X ρ xs ss st M0 M Q} dc r hs h => by
  obtain ⟨t, s, u, v, rfl, rfl, r1, r2, h⟩ := on2_inv r h
  obtain ⟨i, rfl, h1⟩ := isI_inv h
  obtain ⟨j, rfl, h2⟩ := isI_inv h1
  cases r1; cases r2
  intro vs H m rv
  obtain ⟨v, w, rfl, r1, r2⟩ := rvs2 rv
  cases r1; cases r2
  exact ⟨_, call_divmodW, i, j, rfl, h2.1, fun p hp => new_tup m (.cons (.int _) (.cons (.int _) .nil)) hp (h2.2 _ _ _ Up.refl (.d (.tup [.int (i / j), .int (i % j)])) hs)⟩⟩
def bTuple : OpN where
  run := fun ts st Q => on1 (fun t => match t with
    | .d (.tup xs) => Q (.d (.tup xs)) st
    | .d (.lst xs) => Q (.d (.tup xs)) st
    | .scr xs => Q (.d (.tup (xs.map D.int))) st
    | .loc j => (match nth st j with
      | some (.lst xs) => Q (.d (.tup xs)) st
      | some (.lsT ts) => Q (.tup ts) st
      | _ => False)
    | _ => False) ts
  mono := fun m h => on1_mono (fun _ h1 => by
    split at h1
    · exact m _ _ h1
    · exact m _ _ h1
    · exact m _ _ h1
    · split at h1
      · exact m _ _ h1
      · exact m _ _ h1
      · exact h1
    · exact h1) h
theorem rb_tupleQ {X : Cx} {M : Mem} {Q : QS} {s : S} {xs : List S} (i : LqM M s xs) (q : Q (.tup xs) M) : RB X (.type "tuple") [s] M Q := fun vs H m r => by
  obtain ⟨v, rfl, r1⟩ := rvs1 r
  obtain ⟨a, ws, rfl, h1, h2⟩ := lqm_get i m r1
  exact ⟨_, call_tuple_of, a, ws, rfl, .inl ⟨h1, fun l hl => new_tup m h2 hl q⟩⟩
theorem snd_bTuple : SndB c (.type "tuple") bTuple := ⟨fun {X ρ xs ss st M0 M Q} dc r hs h => by
  obtain ⟨t, s, rfl, rfl, r, h⟩ := on1_inv r h
  split at h
  · cases r; exact rb_tupleT (h _ _ _ Up.refl (.d (.tup _)) hs)
  · cases r; exact rb_tupleQ (.inl rfl) (h _ _ _ Up.refl (.d (.tup _)) hs)
  · cases r; exact rb_tupleQ (.inr (.inl rfl)) (h _ _ _ Up.refl (.d (.tup _)) hs)
  · rename_i j
    rw [nth_eq] at h
    cases r with
    | loc e =>
      split at h
      · rename_i xs e2
        obtain ⟨m, h1, h2⟩ := hs.at e e2
        cases h2
        exact rb_tupleQ (.inr (.inr ⟨_, rfl, h1⟩)) (h _ _ _ Up.refl (.d (.tup _)) hs)
      · rename_i xs e2
        obtain ⟨m, h1, h2⟩ := hs.at e e2
        cases h2 with
        | lsT r => exact rb_tupleQ (.inr (.inr ⟨_, rfl, h1⟩)) (h _ _ _ Up.refl (.tup r) hs)
      · exact h.elim
  · exact h.elim⟩
def bSum : OpN where
  run := fun ts st Q => on1 (lqV st fun xs => ∃ ns : List Int, xs = ns.map D.int ∧ Q (.d (.int ns.sum)) st) ts
  mono := fun m h => on1_mono (fun _ h1 => lqV_mono (fun _ ⟨ns, e, q⟩ => ⟨ns, e, m _ _ q⟩) h1) h
theorem snd_sum : SndB c (.builtin "sum") bSum := ⟨fun {X ρ xs ss st M0 M Q} dc r hs h => by
  obtain ⟨t, s, rfl, rfl, r, h⟩ := on1_inv r h
  obtain ⟨xs, i, ns, rfl, q⟩ := lqV_inv r hs h
  rw [sl_int] at i
  intro vs H m rv
  obtain ⟨v, rfl, r1⟩ := rvs1 rv
  obtain ⟨a, ws, rfl, h1, h2⟩ := lqm_get i m r1
  rw [rvs_ints h2] at h1
  exact ⟨_, cr_sum dc.dn.calm, a, ns, rfl, h1, pack (.int _) m (q _ _ _ Up.refl (.d _) hs)⟩⟩
def bAll : OpN where
  run := fun ts st Q => on1 (lqV st fun xs => ∃ ns : List Bool, xs = ns.map D.bl ∧ Q (.d (.bl (ns.all id))) st) ts
  mono := fun m h => on1_mono (fun _ h1 => lqV_mono (fun _ ⟨ns, e, q⟩ => ⟨ns, e, m _ _ q⟩) h1) h
theorem snd_all : SndB c (.builtin "all") bAll := ⟨fun {X ρ xs ss st M0 M Q} dc r hs h => by
  obtain ⟨t, s, rfl, rfl, r, h⟩ := on1_inv r h
  obtain ⟨xs, i, ns, rfl, q⟩ := lqV_inv r hs h
  rw [sl_bl] at i
  intro vs H m rv
  obtain ⟨v, rfl, r1⟩ := rvs1 rv
  obtain ⟨a, ws, rfl, h1, h2⟩ := lqm_get i m r1
  rw [rvs_bls h2] at h1
  exact ⟨_, cr_all dc.dn.calm, a, ns, rfl, h1, pack (.bl _) m (q _ _ _ Up.refl (.d _) hs)⟩⟩
def bAny : OpN where
  run := fun ts st Q => on1 (lqV st fun xs => ∃ ns : List Bool, xs = ns.map D.bl ∧ Q (.d (.bl (ns.any id))) st) ts
  mono := fun m h => on1_mono (fun _ h1 => lqV_mono (fun _ ⟨ns, e, q⟩ => ⟨ns, e, m _ _ q⟩) h1) h
theorem snd_any : SndB c (.builtin "any") bAny := ⟨fun {X ρ xs ss st M0 M Q} dc r hs h => by
  obtain ⟨t, s, rfl, rfl, r, h⟩ := on1_inv r h
  obtain ⟨xs, i, ns, rfl, q⟩ := lqV_inv r hs h
  rw [sl_bl] at i
  intro vs H m rv
  obtain ⟨v, rfl, r1⟩ := rvs1 rv
  obtain ⟨a, ws, rfl, h1, h2⟩ := lqm_get i m r1
  rw [rvs_bls h2] at h1
  exact ⟨_, cr_any dc.dn.calm, a, ns, rfl, h1, pack (.bl _) m (q _ _ _ Up.refl (.d _) hs)⟩⟩
def bMaxL : OpN where
  run := fun ts st Q => on1 (lqV st fun xs => ∃ ns : List Int, xs = ns.map D.int ∧ 0 < ns.length ∧ ∀ m, m ∈ ns → (∀ y, y ∈ ns → y ≤ m) → Q (.d (.int m)) st) ts
  mono := fun m h => on1_mono (fun _ h1 => lqV_mono (fun _ ⟨ns, e, l, q⟩ => ⟨ns, e, l, fun a b d => m _ _ (q a b d)⟩) h1) h
theorem snd_maxL : SndB c (.builtin "max") bMaxL := ⟨fun {X ρ xs ss st M0 M Q} dc r hs h => by
  obtain ⟨t, s, rfl, rfl, r, h⟩ := on1_inv r h
  obtain ⟨xs, i, ns, rfl, l, q⟩ := lqV_inv r hs h
  rw [sl_int] at i
  intro vs H m rv
  obtain ⟨v, rfl, r1⟩ := rvs1 rv
  obtain ⟨a, ws, rfl, h1, h2⟩ := lqm_get i m r1
  rw [rvs_ints h2] at h1
  exact ⟨_, cr_max dc.dn.calm, a, ns, rfl, h1, l, fun z h3 h4 => pack (.int _) m (q z h3 h4 _ _ _ Up.refl (.d _) hs)⟩⟩
def bMinL : OpN where
  run := fun ts st Q => on1 (lqV st fun xs => ∃ ns : List Int, xs = ns.map D.int ∧ 0 < ns.length ∧ ∀ m, m ∈ ns → (∀ y, y ∈ ns → m ≤ y) → Q (.d (.int m)) st) ts
  mono := fun m h => on1_mono (fun _ h1 => lqV_mono (fun _ ⟨ns, e, l, q⟩ => ⟨ns, e, l, fun a b d => m _ _ (q a b d)⟩) h1) h
theorem snd_minL : SndB c (.builtin "min") bMinL := ⟨fun {X ρ xs ss st M0 M Q} dc r hs h => by
  obtain ⟨t, s, rfl, rfl, r, h⟩ := on1_inv r h
  obtain ⟨xs, i, ns, rfl, l, q⟩ := lqV_inv r hs h
  rw [sl_int] at i
  intro vs H m rv
  obtain ⟨v, rfl, r1⟩ := rvs1 rv
  obtain ⟨a, ws, rfl, h1, h2⟩ := lqm_get i m r1
  rw [rvs_ints h2] at h1
  exact ⟨_, cr_min dc.dn.calm, a, ns, rfl, h1, l, fun z h3 h4 => pack (.int _) m (q z h3 h4 _ _ _ Up.refl (.d _) hs)⟩⟩
def D.rp (x : D) : Str := x.py.shown
def bRepr : OpN where
  run := fun ts st Q => on1 (vwD st fun x => (x.py.canLay0 = true ∧ x.py.showable = true ∧ x.py.depth ≤ 60 ∧ x.py.shown.length ≤ sizeLine) ∧ Q (.d (.str x.rp)) st) ts
  mono := fun m h => on1_mono (fun _ h1 => vwD_mono (fun _ h2 => ⟨h2.1, m _ _ h2.2⟩) h1) h
mutual
theorem noDict : ∀ x : D, x.py.canLay0 = true → x.py.hasDict = false
  | .non, _ => rfl
  | .bl _, _ => rfl
  | .int _, _ => rfl
  | .str _, _ => rfl
  | .tup xs, h => by simp only [D.py, PyData.hasDict]; exact noDicts xs h
  | .lst xs, h => by simp only [D.py, PyData.hasDict]; exact noDicts xs h
  | .dct, h => by cases h
theorem noDicts : ∀ xs : List D, PyData.canLayAll0 (D.pyl xs) = true → PyData.hasDictAll (D.pyl xs) = false
  | [], _ => rfl
  | x :: xs, h => by
    have h : (x.py.canLay0 && PyData.canLayAll0 (D.pyl xs)) = true := h
    obtain ⟨h1, h2⟩ := Bool.and_eq_true_iff.mp h
    simp only [D.pyl, PyData.hasDictAll]; rw [noDict x h1, noDicts xs h2]; rfl
end
theorem snd_repr : SndB c (.builtin "repr") bRepr := ⟨fun {X ρ xs ss st M0 M Q} dc r hs h => by
  obtain ⟨t, s, rfl, rfl, r, h⟩ := on1_inv r h
  obtain ⟨x, d, ⟨a0, a1, a2, a3⟩, q⟩ := vwD_inv r hs h
  intro vs H m rv
  obtain ⟨v, rfl, r1⟩ := rvs1 rv
  exact ⟨_, call_reprD dc.dn.gd dc.dn.room.units, v, x.py, rfl, (d a0).dp m _ _ _ r1, a1, noDict x a0, a2, a3, pack (.str _) m (q _ _ _ Up.refl (.d (.str _)) hs)⟩⟩

def eCallB (f : OpN) (As : Exs) : Ex where
  run := fun env st Q Z => As.run env st (fun ts st1 => f.run ts st1 Q) Z
  mono := fun m n h => As.mono (fun _ _ h1 => f.mono m h1) n h
section
variable {e : Expr} {es : List Expr} {As : Exs} {A : Ex} {pos p : Pos} {x : Str} {f : OpN}
theorem snd_callB {id : String} (hf : SndB c (.builtin id) f) (hm : c.mg x = none) (hv : bootBuiltins x = some (.builtin id)) (hg : glB c.sc x = true) (ha : SndA c (e :: es) As) (hn : x ≠ "__name__" := by decide) (hdb : (x == ("__debug__" : Str)) = false := by decide)
    (hst : ∀ env, starEach (e :: es) env = (false, eval e env) :: starEach es env := by intro _; rfl) (hpl : ∀ env, (backTo pos (starEach es env)).any (·.1) = false := by intro _; rfl) : SndE c (.Call (.Name x p) (e :: es) [] pos) (eCallB f As) := ⟨fun dc wi he hs z => by
  refine dn_callB dc.dn (by rw [dc.mg]; exact hm) hv hg hn hdb (hst _) (hpl _) (ha.run dc wi he hs (As.mono (fun ts st1 h1 ρ1 ss M1 u1 r1 s1 => ?_) (fun _ _ _ q => q) z))
  exact hf.run dc r1 s1 (f.mono (liftQ_up u1) h1)⟩
theorem snd_callT {T : String} (hf : SndB c (.type T) f) (hm : c.mg x = none) (hv : bootBuiltins x = some (.type T)) (hg : glB c.sc x = true) (ha : SndA c (e :: es) As) (hn : x ≠ "__name__" := by decide) (hdb : (x == ("__debug__" : Str)) = false := by decide)
    (hst : ∀ env, starEach (e :: es) env = (false, eval e env) :: starEach es env := by intro _; rfl) (hpl : ∀ env, (backTo pos (starEach es env)).any (·.1) = false := by intro _; rfl) : SndE c (.Call (.Name x p) (e :: es) [] pos) (eCallB f As) := ⟨fun dc wi he hs z => by
  refine dn_callT dc.dn (by rw [dc.mg]; exact hm) hv hg hn hdb (hst _) (hpl _) (ha.run dc wi he hs (As.mono (fun ts st1 h1 ρ1 ss M1 u1 r1 s1 => ?_) (fun _ _ _ q => q) z))
  exact hf.run dc r1 s1 (f.mono (liftQ_up u1) h1)⟩
def lList (A : Ex) : ExL where
  run := fun env st Q Z => A.run env st (fun t st1 => sqV st1 (fun xs => Q xs st1) t) Z
  mono := fun m n h => A.mono (fun _ _ h1 => sqV_mono (fun _ h2 => m _ _ h2) h1) n h
theorem snd_list (hm : c.mg "list" = none) (hg : glB c.sc "list" = true) (ha : SndE c e A)
    (hst : ∀ env, starEach [e] env = (false, eval e env) :: starEach [] env := by intro _; rfl) (hpl : ∀ env, (backTo pos (starEach [] env)).any (·.1) = false := by intro _; rfl) : SndL c (.Call (.Name "list" p) [e] [] pos) (lList A) := ⟨fun dc wi he hs z => by
  refine dn_callT dc.dn (by rw [dc.mg]; exact hm) bt_list hg (by decide) (by decide) (hst _) (hpl _) (sa_cons (ha.run dc wi he hs (A.mono (fun t st1 h1 ρ1 s M1 u1 r1 s1 => ?_) (fun _ _ _ q => q) z)) (hst _))
  refine sa_nil ?_
  obtain ⟨xs, i, q⟩ := sqV_inv r1 s1 h1
  exact rb_list i fun p hp => q _ p _ u1 (.of s1 hp)⟩
inductive Ty | non | bl | int | str | tup | lst | dct
  deriving DecidableEq
def Ty.nm : Ty → String
  | .non => "NoneType" | .bl => "bool" | .int => "int" | .str => "str" | .tup => "tuple" | .lst => "list" | .dct => "dict"
def isTy : Ty → Ty → Bool
  | .non, .non => true
  | .bl, .bl => true
  | .bl, .int => true
  | .int, .int => true
  | .str, .str => true
  | .tup, .tup => true
  | .lst, .lst => true
  | .dct, .dct => true
  | _, _ => false
def D.ty : D → Ty
  | .non => .non
  | .bl _ => .bl
  | .int _ => .int
  | .str _ => .str
  | .tup _ => .tup
  | .lst _ => .lst
  | .dct => .dct
def tyV (st : Sto) (k : Ty → Prop) : T → Prop
  | .d x => k x.ty
  | .tup _ => k .tup
  | .scr _ => k .lst
  | .loc j => match nth st j with
    | some (.lst _) => k .lst
    | some (.lsT _) => k .lst
    | some (.fz _) => k .lst
    | some (.dK _) => k .dct
    | some (.dT _) => k .dct
    | _ => False
  | _ => False
theorem tyV_mono {st : Sto} {k k' : Ty → Prop} {t : T} (m : ∀ x, k x → k' x) (h : tyV st k t) : tyV st k' t := by
  unfold tyV at *
  split at h
  · exact m _ h
  · exact m _ h
  · exact m _ h
  · split at h
    · exact m _ h
    · exact m _ h
    · exact m _ h
    · exact m _ h
    · exact m _ h
    · exact h
  · exact h
theorem tyV_inv {ρ : List Addr} {st : Sto} {M0 M : Mem} {k : Ty → Prop} {t : T} {s : S} (r : TR c.mg ρ t s) (hs : StT c.mg ρ st M0 M) (h : tyV st k t) : ∃ y : Ty, tyS M s = some y.nm ∧ k y := by
  unfold tyV at h
  split at h
  · rename_i x
    refine ⟨x.ty, ?_, h⟩
    cases r
    cases x <;> rfl
  · cases r; exact ⟨_, rfl, h⟩
  · cases r; exact ⟨_, rfl, h⟩
  · rename_i j
    rw [nth_eq] at h
    cases r with
    | @loc _ a e =>
      have key : ∀ (o : O) (y : Ty), st[j]? = some o → (∀ m, OR c.mg ρ o m → tyS (fun _ => some m) (.ptr 0) = some y.nm) → tyS M (.ptr a) = some y.nm := fun o y e2 hh => by
        obtain ⟨m, h1, h2⟩ := hs.at e e2
        have := hh m h2
        unfold tyS at this ⊢
        dsimp only at this ⊢
        rw [h1]; exact this
      split at h
      · rename_i xs e2; exact ⟨_, key _ _ e2 (fun m r => by cases r; rfl), h⟩
      · rename_i xs e2; exact ⟨_, key _ _ e2 (fun m r => by cases r; rfl), h⟩
      · rename_i xs e2; exact ⟨_, key _ _ e2 (fun m r => by cases r; rfl), h⟩
      · rename_i xs e2; exact ⟨_, key _ _ e2 (fun m r => by cases r; rfl), h⟩
      · rename_i xs e2; exact ⟨_, key _ _ e2 (fun m r => by cases r; rfl), h⟩
      · exact h.elim
  · exact h.elim
theorem kit_tyB (t n : Ty) : kitB t.nm n.nm = some (isTy t n) := by
  cases t <;> cases n <;> decide +kernel
def eIsI (n : Ty) (A : Ex) : Ex where
  run := fun env st Q Z => A.run env st (fun t st1 => tyV st1 (fun y => Q (.d (.bl (isTy y n))) st1) t) Z
  mono := fun m n h => A.mono (fun _ _ h1 => tyV_mono (fun _ h2 => m _ _ h2) h1) n h
def eIsI2 (n n' : Ty) (A : Ex) : Ex where
  run := fun env st Q Z => A.run env st (fun t st1 => tyV st1 (fun y => Q (.d (.bl (isTy y n || isTy y n'))) st1) t) Z
  mono := fun m n h => A.mono (fun _ _ h1 => tyV_mono (fun _ h2 => m _ _ h2) h1) n h
theorem snd_isi {y : Str} {py : Pos} (n : Ty) (hmi : c.mg "isinstance" = none) (hgi : glB c.sc "isinstance" = true) (hm : c.mg y = none) (hv : bootBuiltins y = some (.type n.nm)) (hg : glB c.sc y = true) (ha : SndE c e A) (hn : y ≠ "__name__" := by decide) (hdb : (y == ("__debug__" : Str)) = false := by decide)
    (hst : ∀ env, starEach [e, .Name y py] env = (false, eval e env) :: starEach [.Name y py] env := by intro _; rfl) : SndE c (.Call (.Name "isinstance" p) [e, .Name y py] [] pos) (eIsI n A) := ⟨fun dc wi he hs z => by
  refine dn_callB dc.dn (by rw [dc.mg]; exact hmi) bf_isinstance hgi (by decide) (by decide) (hst _) (by rfl) (sa_cons (ha.run dc wi he hs (A.mono (fun t st1 h1 ρ1 s M1 u1 r1 s1 => ?_) (fun _ _ _ q => q) z)) (hst _))
  refine sa_cons (dn_ty dc.dn (by rw [dc.mg]; exact hm) hv hg hn hdb (sa_nil ?_)) (by rfl)
  obtain ⟨ty, e1, q⟩ := tyV_inv r1 s1 h1
  exact rb_isi e1 (kit_tyB ty n) (q _ _ _ u1 (.d _) s1)⟩
theorem kitAny2 (K : PySem.W.Frag) (t n n' : Ty) : PySem.W.kitAny K (.type t.nm) ([n.nm, n'.nm].map Value.type) = some (isTy t n || isTy t n') := by
  have h1 := kit_tyB t n
  have h2 := kit_tyB t n'
  cases t <;> cases n <;> cases n' <;> rfl
theorem snd_isi2 {y y' : Str} {py py' pt : Pos} {kt} (n n' : Ty) (hmi : c.mg "isinstance" = none) (hgi : glB c.sc "isinstance" = true) (hm : c.mg y = none) (hv : bootBuiltins y = some (.type n.nm)) (hg : glB c.sc y = true) (hm' : c.mg y' = none) (hv' : bootBuiltins y' = some (.type n'.nm)) (hg' : glB c.sc y' = true) (ha : SndE c e A) (hn : y ≠ "__name__" := by decide) (hdb : (y == ("__debug__" : Str)) = false := by decide) (hn' : y' ≠ "__name__" := by decide) (hdb' : (y' == ("__debug__" : Str)) = false := by decide)
    (hst : ∀ env, starEach [e, .Tuple [.Name y py, .Name y' py'] kt pt] env = (false, eval e env) :: starEach [.Tuple [.Name y py, .Name y' py'] kt pt] env := by intro _; rfl) : SndE c (.Call (.Name "isinstance" p) [e, .Tuple [.Name y py, .Name y' py'] kt pt] [] pos) (eIsI2 n n' A) := ⟨fun dc wi he hs z => by
  refine dn_callB dc.dn (by rw [dc.mg]; exact hmi) bf_isinstance hgi (by decide) (by decide) (hst _) (by rfl) (sa_cons (ha.run dc wi he hs (A.mono (fun t st1 h1 ρ1 s M1 u1 r1 s1 => ?_) (fun _ _ _ q => q) z)) (hst _))
  refine sa_cons (se_tup (sa_cons (dn_ty dc.dn (by rw [dc.mg]; exact hm) hv hg hn hdb (sa_cons (dn_ty dc.dn (by rw [dc.mg]; exact hm') hv' hg' hn' hdb' (sa_nil ⟨by show 2 ≤ sizeLine; decide, sa_nil ?_⟩)) (by rfl))) (by rfl))) (by rfl)
  obtain ⟨ty, e1, q⟩ := tyV_inv r1 s1 h1
  exact rb_isiT (ns := [n.nm, n'.nm]) e1 (fun K => kitAny2 K ty n n') (q _ _ _ u1 (.d _) s1)⟩
end
end
end Sy

set_option Elab.async false
set_option linter.all false
set_option maxRecDepth 100000
namespace Sy
open PySem PySem.Spec PyProof.Rows L2
section
variable {mg : Str → Option Value} {ρ ρ2 : List Addr}
mutual
theorem acc_T : ∀ (t : T) (acc : List Nat) (i : Nat), i ∈ acc → i ∈ locsT t acc
  | .d _, _, _, h => h
  | .loc _, _, _, h => List.mem_cons_of_mem _ h
  | .tup ts, acc, i, h => acc_Ts ts acc i h
  | .exn _ _, _, _, h => h
  | .scr _, _, _, h => h
theorem acc_Ts : ∀ (t : List T) (acc : List Nat) (i : Nat), i ∈ acc → i ∈ locsTs t acc
  | [], _, _, h => h
  | t :: ts, acc, i, h => acc_T t _ i (acc_Ts ts acc i h)
end
theorem acc_F : ∀ (t : List (Str × T)) (acc : List Nat) (i : Nat), i ∈ acc → i ∈ locsF t acc
  | [], _, _, h => h
  | (_, t) :: ts, acc, i, h => acc_T t _ i (acc_F ts acc i h)
theorem acc_O (o : Option O) (acc : List Nat) (i : Nat) (h : i ∈ acc) : i ∈ locsO o acc := by
  unfold locsO
  split
  · exact acc_Ts _ _ _ h
  · exact acc_F _ _ _ h
  · exact h
mutual
theorem TR.sub : ∀ (t : T) (s : S) (acc : List Nat), (∀ i, i ∈ locsT t acc → ρ[i]? = ρ2[i]?) → TR mg ρ t s → TR mg ρ2 t s
  | .d x, _, _, _, h => by cases h; exact .d x
  | .loc i, _, _, g, h => by cases h with | loc e => exact .loc ((g i List.mem_cons_self).symm.trans e)
  | .tup ts, _, acc, g, h => by cases h with | tup e => exact .tup (TRs.sub ts _ acc g e)
  | .exn c v, _, _, _, h => by cases h; exact .exn c v
  | .scr xs, _, _, _, h => by cases h; exact .scr xs
theorem TRs.sub : ∀ (t : List T) (s : List S) (acc : List Nat), (∀ i, i ∈ locsTs t acc → ρ[i]? = ρ2[i]?) → TRs mg ρ t s → TRs mg ρ2 t s
  | [], _, _, _, h => by cases h; exact .nil
  | t :: ts, _, acc, g, h => by
    cases h with
    | cons a b => exact .cons (TR.sub t _ _ g a) (TRs.sub ts _ acc (fun i hi => g i (acc_T t _ i hi)) b)
end
theorem FR.sub : ∀ (t : List (Str × T)) (s : List (Str × S)) (acc : List Nat), (∀ i, i ∈ locsF t acc → ρ[i]? = ρ2[i]?) → FR mg ρ t s → FR mg ρ2 t s
  | [], _, _, _, h => by cases h; exact .nil
  | (_, t) :: ts, _, acc, g, h => by
    cases h with
    | cons a b => exact .cons (TR.sub t _ _ g a) (FR.sub ts _ acc (fun i hi => g i (acc_T t _ i hi)) b)
theorem OR.sub {o : O} {m : MO} (acc : List Nat) (g : ∀ i, i ∈ locsO (some o) acc → ρ[i]? = ρ2[i]?) (h : OR mg ρ o m) : OR mg ρ2 o m := by
  cases h with
  | lst xs => exact .lst xs
  | lsT h => exact .lsT (TRs.sub _ _ acc g h)
  | fz xs => exact .fz xs
  | dK kvs => exact .dK kvs
  | dT kvs => exact .dT kvs
  | ins h => exact .ins (FR.sub _ _ acc g h)
theorem locsOs_mem : ∀ {os : List O} {i : Nat} {o : O} {j : Nat}, os[i]? = some o → ∃ acc, ∀ j, j ∈ locsO (some o) acc → j ∈ locsOs os []
  | [], _, _, _, h => by simp at h
  | o :: os, 0, _, _, h => by simp at h; subst h; exact ⟨locsOs os [], fun j hj => hj⟩
  | o :: os, i + 1, _, j, h => by
    obtain ⟨acc, g⟩ := locsOs_mem (os := os) (i := i) (j := j) (by simpa using h)
    exact ⟨acc, fun j hj => acc_O _ _ _ (g j hj)⟩
end
/-- the list at j stays: forgotten if it is the last object, none's, and young -/
def frzAt : Sto → Nat → List D → (Sto → Prop) → Prop
  | [], _, _, _ => False
  | [_], 0, _, k => k []
  | _ :: o :: os, 0, xs, k => k (.fz xs :: o :: os)
  | o :: os, n + 1, xs, k => frzAt os n xs fun s => k (o :: s)
theorem frzAt_inv : ∀ {st : Sto} {j : Nat} {xs : List D} {k : Sto → Prop}, frzAt st j xs k → (j + 1 = st.length ∧ k (st.take j)) ∨ (j + 1 < st.length ∧ k (st.set j (.fz xs)))
  | [], _, _, _, h => h.elim
  | [o], 0, xs, k, h => .inl ⟨rfl, h⟩
  | o :: p :: os, 0, xs, k, h => .inr ⟨by simp, h⟩
  | [o], n + 1, xs, k, h => by
    unfold frzAt at h
    unfold frzAt at h
    exact h.elim
  | o :: p :: os, n + 1, xs, k, h => by
    have h : frzAt (p :: os) n xs (fun s => k (o :: s)) := h
    rcases frzAt_inv h with ⟨a, b⟩ | ⟨a, b⟩
    · exact .inl ⟨by rw [List.length_cons, ← a], b⟩
    · exact .inr ⟨by rw [List.length_cons]; omega, b⟩
theorem frzAt_mono : ∀ {st : Sto} {j : Nat} {xs : List D} {k k' : Sto → Prop}, (∀ s, k s → k' s) → frzAt st j xs k → frzAt st j xs k'
  | [], _, _, _, _, _, h => h
  | [o], 0, xs, _, _, m, h => m _ h
  | o :: p :: os, 0, xs, _, _, m, h => m _ h
  | [o], n + 1, xs, _, _, m, h => by
    unfold frzAt at h
    unfold frzAt at h
    exact h.elim
  | o :: p :: os, n + 1, xs, k, k', m, h => by
    have h : frzAt (p :: os) n xs (fun s => k (o :: s)) := h
    show frzAt (p :: os) n xs (fun s => k' (o :: s))
    exact frzAt_mono (st := p :: os) (fun s h1 => m _ h1) h
def frzV (st0 st : Sto) (Q : QT) : T → Prop
  | .d x => Q (.d x) st
  | .loc j => match nth st j with
    | some (.lst xs) => lenK st0 fun n => match Nat.ble n j && !(elemN j (locsOs st [])) with
      | true => frzAt st j xs fun st' => Q (.d (.lst xs)) st'
      | false => putK st j (.fz xs) fun st' => Q (.d (.lst xs)) st'
    | some (.fz xs) => Q (.d (.lst xs)) st
    | _ => False
  | .tup ts => Q (.tup ts) st
  | .exn c v => Q (.exn c v) st
  | .scr xs => Q (.scr xs) st
theorem frzV_mono {st0 st : Sto} {Q Q' : QT} {t : T} (m : ∀ v s, Q v s → Q' v s) (h : frzV st0 st Q t) : frzV st0 st Q' t := by
  unfold frzV at *
  split at h
  · exact m _ _ h
  · split at h
    · rw [lenK_iff] at *
      split at h
      · exact frzAt_mono (fun _ h => m _ _ h) h
      · exact putK_mono (fun _ h => m _ _ h) h
    · exact m _ _ h
    · exact h
  · exact m _ _ h
  · exact m _ _ h
  · exact m _ _ h
def eFz (A : Ex) : Ex where
  run := fun env st Q Z => A.run env st (fun v st1 => frzV st st1 Q v) Z
  mono := fun m n h => A.mono (fun _ _ h1 => frzV_mono m h1) n h
section
variable {c : Ct} {e a b o : Expr} {es : List Expr} {A B : Ex} {As : Exs} {pos p : Pos}
theorem snd_fz (ha : SndE c e A) : SndE c e (eFz A) := ⟨fun {X G ZX ρ env E st M0 M Q} dc wi he hs z => by
  refine se_see (ha.run dc wi he hs (A.mono (fun v st1 h ρ1 s M1 u1 r1 s1 => ?_) (fun _ _ _ q => q) z))
  unfold frzV at h
  split at h
  · exact .inl (h _ _ _ u1 r1 s1)
  · rename_i j
    rw [nth_eq] at h
    cases r1 with
    | @loc _ q e =>
      split at h
      · rename_i xs e2
        obtain ⟨m, h1, h2⟩ := s1.at e e2
        cases h2
        refine .inr (.inr ⟨q, _, rfl, h1, ?_⟩)
        rw [lenK_iff] at h
        have hput := s1.put (o := .fz xs) e (.fz xs)
        split at h
        · rename_i cond
          simp only [Bool.and_eq_true, Bool.not_eq_true'] at cond
          obtain ⟨c1, c2⟩ := cond
          have c1 := Nat.le_of_ble_eq_true c1
          have c2 := elemN_iff.mp c2
          rcases frzAt_inv h with ⟨l, k⟩ | ⟨l, k⟩
          · have tr := hput.trim j (fun i o m hi ho r => by
              have hne : j ≠ i := by omega
              rw [List.getElem?_set_ne hne] at ho
              obtain ⟨acc, g⟩ := locsOs_mem (j := 0) ho
              refine OR.sub acc (fun x hx => ?_) r
              have hx2 := g x hx
              have hxj : x ≠ j := fun z => c2 (by rw [← z]; exact hx2)
              by_cases hl : x < j
              · rw [List.getElem?_take_of_lt hl]
              · rw [List.getElem?_eq_none (by rw [s1.len]; omega), List.getElem?_eq_none (by rw [List.length_take, s1.len]; omega)])
            have e3 : (st1.set j (.fz xs)).take j = st1.take j := List.take_set_of_le (Nat.le_refl _)
            rw [e3] at tr
            refine k _ _ _ (fun i x hi => ?_) (.d (.lst xs)) tr
            have hl := (List.getElem?_eq_some_iff.mp hi).1
            rw [hs.len] at hl
            rw [List.getElem?_take_of_lt (by omega)]
            exact u1 i x hi
          · exact k _ _ _ u1 (.d (.lst xs)) hput
        · obtain ⟨_, k⟩ := putK_iff.mp h
          exact k _ _ _ u1 (.d (.lst xs)) hput
      · rename_i xs e2
        obtain ⟨m, h1, h2⟩ := s1.at e e2
        cases h2
        exact .inr (.inl ⟨q, _, rfl, h1, h _ _ _ u1 (.d (.lst xs)) s1⟩)
      · exact h.elim
  · exact .inl (h _ _ _ u1 r1 s1)
  · exact .inl (h _ _ _ u1 r1 s1)
  · exact .inl (h _ _ _ u1 r1 s1)⟩

/-- a class of errors at hand -/
structure XC (K : PySem.W.Frag) (mg : Str → Option Value) (n : Nat) : Prop where
  ex : ∃ C fI, PySem.ShX.ShTxt K mg (excN n) C fI
theorem XC.cl {K : PySem.W.Frag} {mg : Str → Option Value} {n : Nat} {C fI : Addr} (T : PySem.ShX.ShTxt K mg (excN n) C fI) : clOf mg n = C := by
  unfold clOf clN
  rw [T.gC]
def sRaise (n : Nat) (A : Ex) : Cmd where
  run := fun env st k => A.run env st (fun v s => isD (fun x => k.ex env n x s) v) (k.ex env)
  mono := fun l h => A.mono (fun _ _ h1 => isD_mono (fun _ h2 => l.ex _ _ _ _ h2) h1) (l.ex _) h
theorem ss_rs {pos2 : Pos} {x : Str} (n : Nat) (T : XC c.K c.mg n) (hx : excN n = x) (hg : glB c.sc x = true) (ha : SndE c a A) (hdb : (x == ("__debug__" : Str)) = false := by decide)
    (hst : ∀ env, starEach (a :: []) env = (false, eval a env) :: starEach [] env := by intro _; rfl) (hpl : ∀ env, (backTo pos (starEach [] env)).any (·.1) = false := by intro _; rfl) : SndS c (.Raise (some (.Call (.Name x p) [a] [] pos)) none pos2) (sRaise n A) := ⟨fun {X G ZX ρ env E st M0 M D} ds wi he hs z => by
  subst hx
  obtain ⟨C, fI, T⟩ := T.ex
  have T' : PySem.ShX.ShTxt X.K X.mg (excN n) C fI := by rw [ds.kk, ds.mg]; exact T
  have key := ha.run ds.toDC wi he hs (Q := fun s M1 => ZX E C s M1) (A.mono (fun v s h1 ρ1 t M1 u1 r1 s1 => by
    obtain ⟨d, rfl, q⟩ := isD_inv h1
    cases r1
    have := q ρ1 E M1 u1 (he.up u1) s1
    rw [XC.cl T] at this
    exact this) (kexZ he) z)
  rcases wi with no | wi
  · have W0 : Wish X G (fun _ _ _ _ => False) := by
      refine ⟨fun _ _ _ _ => False, ?_, fun _ _ _ _ _ _ _ _ _ z => z.elim⟩
      exact takes0
    exact ss_raise T' ds.dx.calm ds.dx.room W0 (gl_of ds.dx.dn hg) hdb (key.mono fun s M q => (no _ _ _ _ q).elim) (hst _) (hpl _)
  · exact ss_raise T' ds.dx.calm ds.dx.room wi (gl_of ds.dx.dn hg) hdb key (hst _) (hpl _)⟩
/-- e.value of a caught error -/
def eVal (A : Ex) : Ex where
  run := fun env st Q Z => A.run env st (fun v s => match v with
    | .exn _ x => Q (.d x) s
    | _ => False) Z
  mono := fun m n h => A.mono (fun _ _ h1 => by
    split at h1
    · exact m _ _ h1
    · exact h1) n h
/-- all classes of errors are as they should be -/
structure XT (K : PySem.W.Frag) (mg : Str → Option Value) : Prop where
  tab : ∀ n C, n < 27 → mg (excN n) = some (.ref C) → ExT K C
/-- the errors that may stand here are of these classes -/
def eValIn (ns : List Nat) (A : Ex) : Ex where
  run := fun env st Q Z => A.run env st (fun v s => match v with
    | .exn n x => elemN n ns = true ∧ Q (.d x) s
    | _ => False) Z
  mono := fun m n h => A.mono (fun _ _ h1 => by
    split at h1
    · exact ⟨h1.1, m _ _ h1.2⟩
    · exact h1) n h
theorem elemN_mem {i : Nat} {js : List Nat} (h : elemN i js = true) : i ∈ js := by
  refine Classical.byContradiction fun z => ?_
  rw [elemN_iff.mpr z] at h; cases h
/-- a class and its place under another -/
structure XK (K : PySem.W.Frag) (mg : Str → Option Value) (n : Nat) : Prop where
  ex : ∃ C, mg (excN n) = some (.ref C) ∧ ExT K C
theorem XK.cl {mg : Str → Option Value} {n : Nat} {C : Addr} (h : mg (excN n) = some (.ref C)) : clOf mg n = C := by
  unfold clOf clN; rw [h]
theorem snd_val {ns : List Nat} (hx : ∀ n, n ∈ ns → XK c.K c.mg n) (ha : SndE c e A) (hb : ∀ env, attributeBase e "value" env (eval e env) = eval e env := by intro _; rfl) : SndE c (.Attribute e "value" pos) (eValIn ns A) := ⟨fun {X G ZX ρ env E st M0 M Q} dc wi he hs z => by
  have hb2 := hb X.env
  refine se_value (ha.run dc wi he hs (A.mono (fun v st1 h1 ρ1 s M1 u1 r1 s1 => ?_) (fun _ _ _ q => q) z)) hb2
  split at h1
  · rename_i n x
    obtain ⟨hm, q⟩ := h1
    cases r1
    obtain ⟨C, h2, h3⟩ := (hx n (elemN_mem hm)).ex
    refine ⟨_, _, rfl, ?_, q _ _ _ u1 (.d x) s1⟩
    rw [XK.cl h2, dc.kk]; exact h3
  · exact h1.elim⟩
/-- isinstance(e, Class) -/
def eIsX (ns : List Nat) (m : Nat) (A : Ex) : Ex where
  run := fun env st Q Z => A.run env st (fun v s => match v with
    | .exn n _ => elemN n ns = true ∧ Q (.d (.bl (Nat.beq m 0 || Nat.beq n m))) s
    | _ => False) Z
  mono := fun m n h => A.mono (fun _ _ h1 => by
    split at h1
    · exact ⟨h1.1, m _ _ h1.2⟩
    · exact h1) n h
/-- the answers of isinstance between two classes -/
structure XI (K : PySem.W.Frag) (mg : Str → Option Value) (n m : Nat) : Prop where
  ex : ∀ C D, mg (excN n) = some (.ref C) → mg (excN m) = some (.ref D) → PySem.W.kitOne K (.ref C) (.ref D) = some (Nat.beq m 0 || Nat.beq n m) ∧ ClsV (.ref D) (.ref D)
theorem snd_isx {ns : List Nat} {m : Nat} {x : Str} {py : Pos} (hmi : c.mg "isinstance" = none) (hgi : glB c.sc "isinstance" = true) (hx : ∀ n, n ∈ ns → XK c.K c.mg n ∧ XI c.K c.mg n m) (hxm : XK c.K c.mg m) (hn : excN m = x) (hk : ∀ C, c.mg x = some (.ref C) → PySem.W.keepIn c.K (.ref C) = true) (hg : glB c.sc x = true) (ha : SndE c e A) (hdb : (x == ("__debug__" : Str)) = false := by decide)
    (hst : ∀ env, starEach [e, .Name x py] env = (false, eval e env) :: starEach [.Name x py] env := by intro _; rfl) : SndE c (.Call (.Name "isinstance" p) [e, .Name x py] [] pos) (eIsX ns m A) := ⟨fun {X G ZX ρ env E st M0 M Q} dc wi he hs z => by
  subst hn
  obtain ⟨D, g1, g2⟩ := hxm.ex
  refine dn_callB dc.dn (by rw [dc.mg]; exact hmi) bf_isinstance hgi (by decide) (by decide) (hst _) (by rfl) (sa_cons (ha.run dc wi he hs (A.mono (fun v st1 h1 ρ1 s M1 u1 r1 s1 => ?_) (fun _ _ _ q => q) z)) (hst _))
  refine sa_cons (se_glob (s := .ptr D) (v := .ref D) (gl_of dc.dn hg) (by rw [dc.mg]; exact g1) rfl (fun _ => .ptr D) (sa_nil ?_) hdb) (by rfl)
  split at h1
  · rename_i n v
    obtain ⟨hm, q⟩ := h1
    cases r1
    obtain ⟨⟨C, h2, h3⟩, h4⟩ := hx n (elemN_mem hm)
    obtain ⟨h5, h6⟩ := h4.ex C D h2 g1
    rw [XK.cl h2]
    exact rb_isE (by rw [dc.kk]; exact h3) (by rw [dc.kk]; exact h5) h6 (q _ _ _ u1 (.d _) s1)
  · exact h1.elim⟩
/-- try: .. except X as n: m = n -/
def sKeep (i j : Nat) (ns : List Nat) (B : Cmd) : Cmd where
  run := fun env st k => B.run env st { k with ex := fun e n v s => elemN n ns = true ∧ putK e j (some (.exn n v)) fun e => putK e i none fun e => k.nx e s }
  mono := fun l h => by
    refine B.mono ?_ h
    exact ⟨l.nx, l.rt, l.bk, l.ct, fun _ _ _ _ h1 => ⟨h1.1, putK_mono (fun _ h2 => putK_mono (fun _ h3 => l.nx _ _ h3) h2) h1.2⟩⟩
theorem ss_keep' {x n m : Str} {p1 p2 p3 p4 p5 p6 : Pos} {body : List Stmt} {B' : Cmd} {ns : List Nat} (i j : Nat) (hi : loB c.N c.sc i n = true) (hj : loB c.N c.sc j m = true) (hij : i ≠ j) (hg : glB c.sc x = true) {cS : Addr} (hm : c.mg x = some (.ref cS))
    (hx : ∀ q, q ∈ ns → PySem.W.exmOne c.K (.ref (clOf c.mg q)) (.ref cS) = some true) (hb : SndSs c body B') (hdb : (x == ("__debug__" : Str)) = false := by decide) (hd : (n == ("__debug__" : Str)) = false := by decide) (hcd : (n == ("__classdict__" : Str)) = false := by decide)
    (hsw : ∀ env, swapsWith (.Name n p5) (some (.Name m p4)) p6.line env = pure false := by intro _; rfl) :
    SndS c (.Try body [.ExceptHandler (some (.Name x p1)) (some n) [.Assign [.Name m p4] (.Name n p5) p6] p2] [] [] p3) (sKeep i j ns B') := ⟨fun {X G ZX ρ env E st M0 M D} ds wi he hs z => by
  refine dx_keep ds.dx ds.de i j hi hj hij hg (by rw [ds.mg]; exact hm) hdb hd hcd (hsw _) fun G1 kG pn xe d' wi' => ?_
  have ds' : DS c (X.tr pn xe) := ⟨⟨d'.dn, ds.nd, ds.prog, ds.ww, ds.kk, ds.mg, ds.base⟩, d', ⟨ds.de.stk, ds.de.own, ds.de.ex, ds.de.kf⟩⟩
  refine hb.run ds' (.inr wi') he hs (B'.mono ?_ z)
  refine ⟨fun _ _ h => h, fun _ _ h => h, fun _ _ h => h, fun _ _ h => h, fun e q v s h ρ1 E1 M1 u1 he1 hs1 => ?_⟩
  obtain ⟨hm2, h⟩ := h
  obtain ⟨l1, h⟩ := putK_iff.mp h
  obtain ⟨l2, h⟩ := putK_iff.mp h
  rw [List.length_set] at l2
  refine ⟨by rw [← he1.len]; exact l2, ?_, h _ _ _ u1 ((he1.set (.exn q v) j).kill i) hs1⟩
  show PySem.W.exmOne X.K _ _ = _
  rw [ds.kk]; exact hx q (elemN_mem hm2)⟩
end
end Sy

set_option Elab.async false
set_option linter.all false
set_option maxRecDepth 100000
namespace Sy
open PySem PySem.Spec PyProof.Rows L2

section
variable {c : Ct} {e a b o : Expr} {es : List Expr} {A B : Ex} {As : Exs} {pos p : Pos}
def addV (x y : T) (st : Sto) (Q : QT) : Prop := match x, y with
  | .d (.int i), .d (.int j) => Q (.d (.int (i + j))) st
  | .d (.str i), .d (.str j) => i.length + j.length ≤ sizeLine ∧ Q (.d (.str (i ++ j))) st
  | .d (.tup i), .d (.tup j) => i.length + j.length ≤ sizeLine ∧ Q (.d (.tup (i ++ j))) st
  | x, y => lsV st (fun xs => lsV st (fun ys => xs.length + ys.length ≤ sizeLine ∧ Q (.d (.lst (xs ++ ys))) st) y) x
theorem addV_mono {x y : T} {st : Sto} {Q Q' : QT} (m : ∀ v s, Q v s → Q' v s) (h : addV x y st Q) : addV x y st Q' := by
  unfold addV at *
  split at h
  · exact m _ _ h
  · exact ⟨h.1, m _ _ h.2⟩
  · exact ⟨h.1, m _ _ h.2⟩
  · exact lsV_mono (fun _ h1 => lsV_mono (fun _ h2 => ⟨h2.1, m _ _ h2.2⟩) h1) h
def eAdd (A B : Ex) : Ex where
  run := fun env st Q Z => A.run env st (fun x st1 => B.run env st1 (fun y st2 => addV x y st2 Q) Z) Z
  mono := fun m n h => A.mono (fun _ _ h1 => B.mono (fun _ _ h2 => addV_mono m h2) n h1) n h
theorem snd_eAdd (ha : SndE c a A) (hb : SndE c b B) : SndE c (.BinOp a .Add b pos) (eAdd A B) := ⟨fun {X G ZX ρ env E st M0 M Q} dc wi he hs z => by
  refine se_see (se_bin (ha.run dc wi he hs (A.mono (fun x st1 h1 ρ1 s M1 u1 r1 s1 => ?_) (fun _ _ _ q => q) z)))
  refine hb.run dc wi (he.up u1) s1 (B.mono (fun y st2 h2 ρ2 t M2 u2 r2 s2 => ?_) (liftZ_up u1) h1)
  have r1 := TR.up u2 _ _ r1
  unfold addV at h2
  split at h2
  · cases r1; cases r2; exact ro_addI (.inl (h2 _ _ _ (u1.trans u2) (.d _) s2))
  · cases r1; cases r2; exact ro_addS h2.1 (.inl (h2.2 _ _ _ (u1.trans u2) (.d _) s2))
  · rename_i i j
    cases r1; cases r2
    refine ro_catT (by rw [D.sl_len, D.sl_len]; exact h2.1) (.inl ?_)
    rw [← D.sl_app]
    exact h2.2 _ _ _ (u1.trans u2) (.d (.tup _)) s2
  · obtain ⟨xs, i1, h3⟩ := lsV_inv r1 s2 h2
    obtain ⟨ys, i2, hl, q⟩ := lsV_inv r2 s2 h3
    intro v w H m rv rw'
    obtain ⟨a, vs, rfl, d1, e1⟩ := lsm_get i1 m rv
    obtain ⟨b, ws, rfl, d2, e2⟩ := lsm_get i2 m rw'
    refine ⟨_, op_catR, a, b, vs, ws, rfl, rfl, d1, d2, by rw [← e1.length, ← e2.length, D.sl_len, D.sl_len]; exact hl, fun p hp => ?_⟩
    refine new_lst m (e1.append e2) hp fun p hp => ?_
    rw [← D.sl_app]
    refine .inr (.inr ⟨p, _, rfl, updM_same, ?_⟩)
    have n := NewL.of (xs := xs ++ ys) s2 hp
    exact q _ _ _ (u1.trans u2) (.d (.lst (xs ++ ys))) (n.st.skip n.off n.out)⟩

structure ExO where
  run : En → Sto → (Option Int → Sto → Prop) → ZT → Prop
  mono : ∀ {env st Q Q' Z Z'}, (∀ v s, Q v s → Q' v s) → (∀ c v s, Z c v s → Z' c v s) → run env st Q Z → run env st Q' Z'
def oNone : ExO where
  run := fun _ st Q _ => Q none st
  mono := fun m _ h => m _ _ h
def oSome (A : Ex) : ExO where
  run := fun env st Q Z => A.run env st (fun v s => isI (fun i => Q (some i) s) v) Z
  mono := fun m n h => A.mono (fun _ _ h1 => isI_mono (fun _ h2 => m _ _ h2) h1) n h
structure SndOp (c : Ct) (e : Option Expr) (m : ExO) : Prop where
  run : ∀ {X : Cx} {G : Hp} {ZX : Ev → Addr → S → Mem → Prop} {ρ : List Addr} {env : En} {E : Ev} {st : Sto} {M0 M : Mem} {Q : Option Int → Mem → Prop}, DC c X → WishO X G ZX → EnvT c.mg ρ env E → StT c.mg ρ st M0 M →
    m.run env st (fun i st' => ∀ ρ' M', Up ρ ρ' → StT c.mg ρ' st' M0 M' → Q i M') (liftZ c.mg ρ M0 (ZX E)) → SO X G e E M Q
theorem snd_oNone : SndOp c none oNone := ⟨fun _ _ _ hs z => .none (z _ _ Up.refl hs)⟩
theorem snd_oSome (ha : SndE c e A) : SndOp c (some e) (oSome A) := ⟨fun dc wi he hs z => .some (ha.run dc wi he hs (A.mono (fun v s h1 ρ1 t M1 u1 r1 s1 => by
  obtain ⟨i, rfl, q⟩ := isI_inv h1
  cases r1
  exact ⟨i, rfl, q _ _ u1 s1⟩) (fun _ _ _ q => q) z))⟩
def cutD {α : Type} (xs : List α) (lo hi : Option Int) : List α := (xs.drop (HT.sIx xs.length 0 lo)).take (HT.sIx xs.length xs.length hi - HT.sIx xs.length 0 lo)
theorem cutD_sl (xs : List D) (lo hi : Option Int) : Sy.cutS (D.sl xs) lo hi = D.sl (cutD xs lo hi) := by
  unfold Sy.cutS cutD
  rw [D.sl_len, D.sl_map, D.sl_map, List.map_take, List.map_drop]
def cutV' (st : Sto) (i j : Option Int) (Q : QT) : T → Prop
  | .d (.tup xs) => Q (.d (.tup (cutD xs i j))) st
  | .d (.lst xs) => Q (.d (.lst (cutD xs i j))) st
  | .loc k => match nth st k with
    | some (.lst xs) => Q (.d (.lst (cutD xs i j))) st
    | _ => False
  | _ => False
theorem cutV'_mono {st : Sto} {i j : Option Int} {Q Q' : QT} {t : T} (m : ∀ v s, Q v s → Q' v s) (h : cutV' st i j Q t) : cutV' st i j Q' t := by
  unfold cutV' at *
  split at h
  · exact m _ _ h
  · exact m _ _ h
  · split at h
    · exact m _ _ h
    · exact h
  · exact h
def eCut (A : Ex) (I J : ExO) : Ex where
  run := fun env st Q Z => A.run env st (fun v st1 => I.run env st1 (fun i st2 => J.run env st2 (fun j st3 => cutV' st3 i j Q v) Z) Z) Z
  mono := fun m n h => A.mono (fun _ _ h1 => I.mono (fun _ _ h2 => J.mono (fun _ _ h3 => cutV'_mono m h3) n h2) n h1) n h
/-- what a slice is of -/
def CutM (M : Mem) (s : S) (xs : List S) (l : Bool) : Prop := (l = false ∧ s = .tup xs) ∨ (l = true ∧ (s = .fzl xs ∨ ∃ p, s = .ptr p ∧ M p = some (.lst xs)))
theorem se_cut {X : Cx} {G : Hp} {env : Ev} {M : Mem} {Q : QS} {lo hi : Option Expr} {p2 : Pos} (h : SE X G e env M fun s M1 => SO X G lo env M1 fun i M2 => SO X G hi env M2 fun j M3 => (∃ xs, s = .tup xs ∧ Q (.tup (Sy.cutS xs i j)) M3) ∨ ∃ xs, (s = .fzl xs ∨ ∃ p, s = .ptr p ∧ M3 p = some (.lst xs)) ∧ ∀ t, M3 t = none → Q (.ptr t) (updM M3 t (.lst (Sy.cutS xs i j)))) : SE X G (.Subscript e (.Slice lo hi none p2) pos) env M Q := fun σ H R =>
  ⟨_, pe_slice (SlR.or sl_tupA sl_list) (te := tS X G e) pe_S (po_S (G := G)) (po_S (G := G)), tS_go R h fun s M1 v H1 k1 rv R1 q1 => so_go R1 q1 fun i M2 H2 k2 R2 q2 => so_go R2 q2 fun j M3 H3 k3 R3 z => by
    rcases z with ⟨xs, e1, q3⟩ | ⟨xs, e1, q3⟩
    · subst e1
      cases rv.up (k2.trans k3) with
      | @tup a vs _ h1 h2 =>
        refine .inl ⟨a, vs, rfl, h1.sq, fun ⟨z1, z2⟩ => ?_, fun _ t ht => (new_tup R3.mem (cut_rv h2 i j) ht q3).back (k1.trans (k2.trans k3))⟩
        refine ⟨.tup (Sy.cutS xs i j), M3, k1.trans (k2.trans k3), ?_, R3.mem, q3⟩
        have e2 : Sy.cutS xs i j = xs := by
          unfold Sy.cutS
          rw [h2.length, z1, z2, ← h2.length, List.drop_zero, Nat.sub_zero, List.take_length]
        rw [e2]
        exact .tup h1 h2
    · refine .inr ?_
      rcases e1 with rfl | ⟨p, rfl, hp⟩
      · cases rv.up (k2.trans k3) with
        | @fzl a oo vs _ h1 h2 => exact ⟨a, vs, rfl, FzL.sq (.inl ⟨_, h1⟩), fun t ht => (new_lst R3.mem (cut_rv h2 i j) ht q3).back (k1.trans (k2.trans k3))⟩
      · cases rv
        obtain ⟨vs, h1, h2⟩ := R3.mem p _ hp
        exact ⟨p, vs, rfl, SqL.of h1, fun t ht => (new_lst R3.mem (cut_rv h2 i j) ht q3).back (k1.trans (k2.trans k3))⟩⟩
theorem snd_cut {lo hi : Option Expr} {p2 : Pos} {I J : ExO} (ha : SndE c e A) (hi' : SndOp c lo I) (hj : SndOp c hi J) : SndE c (.Subscript e (.Slice lo hi none p2) pos) (eCut A I J) := ⟨fun {X G ZX ρ env E st M0 M Q} dc wi he hs z => by
  refine se_see (se_cut (ha.run dc wi he hs (A.mono (fun v st1 h1 ρ1 s M1 u1 r1 s1 => ?_) (fun _ _ _ q => q) z)))
  refine hi'.run dc wi (he.up u1) s1 (I.mono (fun i st2 h2 ρ2 M2 u2 s2 => ?_) (liftZ_up u1) h1)
  refine hj.run dc wi (he.up (u1.trans u2)) s2 (J.mono (fun j st3 h3 ρ3 M3 u3 s3 => ?_) (liftZ_up (u1.trans u2)) h2)
  have r := TR.up (u2.trans u3) _ _ r1
  have up := u1.trans (u2.trans u3)
  have new : ∀ (xs : List D), liftQ c.mg ρ M0 Q (.d (.lst (cutD xs i j))) st3 → ∀ t, M3 t = none → (fun s M1 => Q s M1 ∨ (∃ p ss, s = .ptr p ∧ M1 p = some (.fz ss) ∧ Q (.fzl ss) M1) ∨ ∃ p ss, s = .ptr p ∧ M1 p = some (.lst ss) ∧ Q (.fzl ss) (updM M1 p (.fz ss))) (.ptr t) (updM M3 t (.lst (Sy.cutS (D.sl xs) i j))) := fun xs q t ht => by
    rw [cutD_sl]
    refine .inr (.inr ⟨t, _, rfl, updM_same, ?_⟩)
    have n := NewL.of (xs := cutD xs i j) s3 ht
    exact q _ _ _ up (.d (.lst (cutD xs i j))) (n.st.skip n.off n.out)
  unfold cutV' at h3
  split at h3
  · rename_i xs
    cases r
    refine .inl ⟨_, rfl, .inl ?_⟩
    rw [cutD_sl]
    exact h3 _ _ _ up (.d (.tup (cutD xs i j))) s3
  · cases r; exact .inr ⟨_, .inl rfl, new _ h3⟩
  · rename_i k
    rw [nth_eq] at h3
    cases r with
    | loc ea =>
      split at h3
      · rename_i xs e2
        obtain ⟨m, a1, a2⟩ := s3.at ea e2
        cases a2
        exact .inr ⟨_, .inr ⟨_, rfl, a1⟩, new _ h3⟩
      · exact h3.elim
  · exact h3.elim⟩

def pushV (st : Sto) (j : Nat) (k : Sto → Prop) (v : T) : Prop := match nth st j with
  | some (.lst xs) => (match v with
    | .d x => xs.length < sizeLine ∧ putK st j (.lst (xs ++ [x])) k
    | v => xs.length < sizeLine ∧ putK st j (.lsT (dT xs ++ [v])) k)
  | some (.lsT ts) => ts.length < sizeLine ∧ putK st j (.lsT (ts ++ [v])) k
  | _ => False
theorem pushV_mono {st : Sto} {j : Nat} {k k' : Sto → Prop} {v : T} (m : ∀ s, k s → k' s) (h : pushV st j k v) : pushV st j k' v := by
  unfold pushV at *
  split at h
  · split at h
    · exact ⟨h.1, putK_mono m h.2⟩
    · exact ⟨h.1, putK_mono m h.2⟩
  · exact ⟨h.1, putK_mono m h.2⟩
  · exact h
/-- a place -/
def isLoc (k : Nat → Prop) : T → Prop
  | .loc j => k j
  | _ => False
theorem isLoc_mono {k k' : Nat → Prop} {t : T} (m : ∀ i, k i → k' i) (h : isLoc k t) : isLoc k' t := by
  unfold isLoc at *
  split at h
  · exact m _ h
  · exact h
theorem isLoc_inv {k : Nat → Prop} {t : T} (h : isLoc k t) : ∃ i, t = .loc i ∧ k i := by
  unfold isLoc at h
  split at h
  · exact ⟨_, rfl, h⟩
  · exact h.elim
/-- a list stands there -/
def hasL (st : Sto) (j : Nat) (k : Prop) : Prop := match nth st j with
  | some (.lst _) => k
  | some (.lsT _) => k
  | _ => False
theorem hasL_mono {st : Sto} {j : Nat} {k k' : Prop} (m : k → k') (h : hasL st j k) : hasL st j k' := by
  unfold hasL at *
  split at h
  · exact m h
  · exact m h
  · exact h
theorem hasL_inv {ρ : List Addr} {st : Sto} {M0 M : Mem} {j : Nat} {q : Addr} {k : Prop} (hs : StT c.mg ρ st M0 M) (e : ρ[j]? = some q) (h : hasL st j k) : (∃ xs, M q = some (.lst xs)) ∧ k := by
  unfold hasL at h
  rw [nth_eq] at h
  split at h
  · rename_i e2
    obtain ⟨m, a1, a2⟩ := hs.at e e2
    cases a2; exact ⟨⟨_, a1⟩, h⟩
  · rename_i e2
    obtain ⟨m, a1, a2⟩ := hs.at e e2
    cases a2; exact ⟨⟨_, a1⟩, h⟩
  · exact h.elim
def eAppend (O A : Ex) : Ex where
  run := fun env st Q Z => O.run env st (fun o st1 => isLoc (fun j => hasL st1 j (A.run env st1 (fun v st2 => pushV st2 j (fun st3 => Q (.d .non) st3) v) Z)) o) Z
  mono := fun m n h => O.mono (fun _ _ h1 => isLoc_mono (fun _ h2 => hasL_mono (fun h3 => A.mono (fun _ _ h4 => pushV_mono (fun _ h5 => m _ _ h5) h4) n h3) h2) h1) n h
theorem snd_append {apos : Pos} {Oe : Ex} (ho : SndE c o Oe) (ha : SndE c e A) (hb1 : ∀ env, attributeBase o "append" env (eval o env) = eval o env := by intro _; rfl) (hb2 : ∀ env, ((backTo pos (starEach [e] env)).all (fun x => !x.1) && (backToKw pos (keywordEach [] env)).all (fun x => x.1.isSome) && decide (([e] : List Expr).length + ([] : List Keyword).length + (if ([] : List Keyword).isEmpty then 0 else 1) < 30)) = true := by intro _; rfl)
    (hb3 : (apos.endLine == pos.line) = true := by rfl) (hb4 : ∀ env, starEach [e] env = (false, eval e env) :: starEach [] env := by intro _; rfl) (hb5 : ∀ env, (backTo pos (starEach [] env)).any (·.1) = false := by intro _; rfl) : SndE c (.Call (.Attribute o "append" apos) [e] [] pos) (eAppend Oe A) := ⟨fun {X G ZX ρ env E st M0 M Q} dc wi he hs z => by
  refine se_append (ho.run dc wi he hs (Oe.mono (fun ov st1 h1 ρ1 s M1 u1 r1 s1 => ?_) (fun _ _ _ q => q) z)) (hb1 _) (hb2 _) hb3 (hb4 _) (hb5 _)
  obtain ⟨j, rfl, h2⟩ := isLoc_inv h1
  cases r1 with
  | @loc _ q ej =>
    obtain ⟨hl, h3⟩ := hasL_inv s1 ej h2
    refine ⟨q, rfl, hl, ?_⟩
    refine ha.run dc wi (he.up u1) s1 (A.mono (fun v st2 h4 ρ2 t M2 u2 r2 s2 => ?_) (liftZ_up u1) h3)
    have ej2 := u2 _ _ ej
    unfold pushV at h4
    rw [nth_eq] at h4
    split at h4
    · rename_i xs e2
      obtain ⟨m, a1, a2⟩ := s2.at ej2 e2
      cases a2
      split at h4
      · rename_i x
        cases r2
        obtain ⟨l, k⟩ := h4
        obtain ⟨_, k⟩ := putK_iff.mp k
        refine ⟨_, a1, by rw [D.sl_len]; exact l, ?_⟩
        have e3 : D.sl xs ++ [x.s] = D.sl (xs ++ [x]) := by rw [D.sl_app]; rfl
        rw [e3]
        exact k _ _ _ (u1.trans u2) (.d .non) (s2.put ej2 (.lst (xs ++ [x])))
      · obtain ⟨l, k⟩ := h4
        obtain ⟨_, k⟩ := putK_iff.mp k
        refine ⟨_, a1, by rw [D.sl_len]; exact l, ?_⟩
        exact k _ _ _ (u1.trans u2) (.d .non) (s2.put ej2 (.lsT (by rw [dT_map]; exact (TRs.ds xs).app (.cons r2 .nil))))
    · rename_i ts e2
      obtain ⟨m, a1, a2⟩ := s2.at ej2 e2
      cases a2 with
      | lsT r =>
        obtain ⟨l, k⟩ := h4
        obtain ⟨_, k⟩ := putK_iff.mp k
        refine ⟨_, a1, by rw [← r.len]; exact l, ?_⟩
        exact k _ _ _ (u1.trans u2) (.d .non) (s2.put ej2 (.lsT (r.app (.cons r2 .nil))))
    · exact h4.elim⟩
/-- xs.pop() -/
def ePop0 (O : Ex) : Ex where
  run := fun env st Q Z => O.run env st (fun o st1 => isLoc (fun j => match nth st1 j with
    | some (.lst xs) => ∃ y, xs[xs.length - 1]? = some y ∧ putK st1 j (.lst xs.dropLast) fun st2 => Q (.d y) st2
    | _ => False) o) Z
  mono := fun m n h => O.mono (fun _ _ h1 => isLoc_mono (fun _ h2 => by
    split at h2
    · obtain ⟨y, e, q⟩ := h2; exact ⟨y, e, putK_mono (fun _ h3 => m _ _ h3) q⟩
    · exact h2) h1) n h
theorem D.sl_dropLast (xs : List D) : (D.sl xs).dropLast = D.sl xs.dropLast := by rw [D.sl_map, D.sl_map, List.map_dropLast]
theorem D.sl_get {xs : List D} {i : Nat} {y : D} (h : xs[i]? = some y) : (D.sl xs)[i]? = some y.s := by rw [D.sl_map, List.getElem?_map, h]; rfl
theorem snd_pop0 {apos : Pos} {Oe : Ex} (ho : SndE c o Oe) (hb1 : ∀ env, attributeBase o "pop" env (eval o env) = eval o env := by intro _; rfl) (hb3 : (apos.endLine == pos.line) = true := by rfl) : SndE c (.Call (.Attribute o "pop" apos) [] [] pos) (ePop0 Oe) := ⟨fun {X G ZX ρ env E st M0 M Q} dc wi he hs z => by
  refine se_pop0 (ho.run dc wi he hs (Oe.mono (fun ov st1 h1 ρ1 s M1 u1 r1 s1 => ?_) (fun _ _ _ q => q) z)) (hb1 _) hb3
  obtain ⟨j, rfl, h2⟩ := isLoc_inv h1
  cases r1 with
  | @loc _ q ej =>
    rw [nth_eq] at h2
    split at h2
    · rename_i xs e2
      obtain ⟨m, a1, a2⟩ := s1.at ej e2
      cases a2
      obtain ⟨y, ey, k⟩ := h2
      obtain ⟨_, k⟩ := putK_iff.mp k
      refine ⟨q, _, y.s, rfl, a1, by rw [D.sl_len]; exact D.sl_get ey, ?_⟩
      rw [D.sl_dropLast]
      exact k _ _ _ u1 (.d y) (s1.put ej (.lst xs.dropLast))
    · exact h2.elim⟩
/-- xs.pop(i) -/
def ePopI (O A : Ex) : Ex where
  run := fun env st Q Z => O.run env st (fun o st1 => isLoc (fun j => hasL st1 j (A.run env st1 (fun v st2 => isI (fun n => match nth st2 j with
    | some (.lst xs) => ∃ k y, seqIndex? n xs.length = some k ∧ xs[k]? = some y ∧ (-(2 ^ 63) ≤ n ∧ n < 2 ^ 63) ∧ putK st2 j (.lst (xs.eraseIdx k)) fun st3 => Q (.d y) st3
    | _ => False) v) Z)) o) Z
  mono := fun m n h => O.mono (fun _ _ h1 => isLoc_mono (fun _ h2 => hasL_mono (fun h3 => A.mono (fun _ _ h4 => isI_mono (fun _ h5 => by
    split at h5
    · obtain ⟨k, y, e1, e2, b, q⟩ := h5; exact ⟨k, y, e1, e2, b, putK_mono (fun _ h3 => m _ _ h3) q⟩
    · exact h5) h4) n h3) h2) h1) n h
theorem snd_popI {apos : Pos} {Oe : Ex} (ho : SndE c o Oe) (ha : SndE c e A) (hb1 : ∀ env, attributeBase o "pop" env (eval o env) = eval o env := by intro _; rfl) (hb2 : ∀ env, ((backTo pos (starEach [e] env)).all (fun x => !x.1) && (backToKw pos (keywordEach [] env)).all (fun x => x.1.isSome) && decide (([e] : List Expr).length + ([] : List Keyword).length + (if ([] : List Keyword).isEmpty then 0 else 1) < 30)) = true := by intro _; rfl)
    (hb3 : (apos.endLine == pos.line) = true := by rfl) (hb4 : ∀ env, starEach [e] env = (false, eval e env) :: starEach [] env := by intro _; rfl) (hb5 : ∀ env, (backTo pos (starEach [] env)).any (·.1) = false := by intro _; rfl) : SndE c (.Call (.Attribute o "pop" apos) [e] [] pos) (ePopI Oe A) := ⟨fun {X G ZX ρ env E st M0 M Q} dc wi he hs z => by
  refine se_popI (ho.run dc wi he hs (Oe.mono (fun ov st1 h1 ρ1 s M1 u1 r1 s1 => ?_) (fun _ _ _ q => q) z)) (hb1 _) (hb2 _) hb3 (hb4 _) (hb5 _)
  obtain ⟨j, rfl, h2⟩ := isLoc_inv h1
  cases r1 with
  | @loc _ q ej =>
    obtain ⟨hl, h3⟩ := hasL_inv s1 ej h2
    refine ⟨q, rfl, hl, ?_⟩
    refine ha.run dc wi (he.up u1) s1 (A.mono (fun v st2 h4 ρ2 t M2 u2 r2 s2 => ?_) (liftZ_up u1) h3)
    obtain ⟨n, rfl, h5⟩ := isI_inv h4
    cases r2
    have ej2 := u2 _ _ ej
    rw [nth_eq] at h5
    split at h5
    · rename_i xs e2
      obtain ⟨m, a1, a2⟩ := s2.at ej2 e2
      cases a2
      obtain ⟨k, y, e1, e3, ⟨b1, b2⟩, q⟩ := h5
      obtain ⟨_, q⟩ := putK_iff.mp q
      refine ⟨_, n, k, y.s, rfl, a1, by rw [D.sl_len]; exact e1, D.sl_get e3, b1, b2, ?_⟩
      have e4 : (D.sl xs).eraseIdx k = D.sl (xs.eraseIdx k) := by
        rw [D.sl_map, D.sl_map]
        have : ∀ (l : List D) (k : Nat), (l.map D.s).eraseIdx k = (l.eraseIdx k).map D.s := by
          intro l
          induction l with
          | nil => intro k; rfl
          | cons x l ih =>
            intro k
            cases k with
            | zero => rfl
            | succ k => simp [ih]
        exact this xs k
      rw [e4]
      exact q _ _ _ (u1.trans u2) (.d y) (s2.put ej2 (.lst (xs.eraseIdx k)))
    · exact h5.elim⟩
/-- xs.reverse() -/
def eReverse (O : Ex) : Ex where
  run := fun env st Q Z => O.run env st (fun o st1 => isLoc (fun j => match nth st1 j with
    | some (.lst xs) => putK st1 j (.lst xs.reverse) fun st2 => Q (.d .non) st2
    | _ => False) o) Z
  mono := fun m n h => O.mono (fun _ _ h1 => isLoc_mono (fun _ h2 => by
    split at h2
    · exact putK_mono (fun _ h3 => m _ _ h3) h2
    · exact h2) h1) n h
theorem snd_reverse {apos : Pos} {Oe : Ex} (ho : SndE c o Oe) (hb1 : ∀ env, attributeBase o "reverse" env (eval o env) = eval o env := by intro _; rfl) (hb3 : (apos.endLine == pos.line) = true := by rfl) : SndE c (.Call (.Attribute o "reverse" apos) [] [] pos) (eReverse Oe) := ⟨fun {X G ZX ρ env E st M0 M Q} dc wi he hs z => by
  refine se_reverse (ho.run dc wi he hs (Oe.mono (fun ov st1 h1 ρ1 s M1 u1 r1 s1 => ?_) (fun _ _ _ q => q) z)) (hb1 _) hb3
  obtain ⟨j, rfl, h2⟩ := isLoc_inv h1
  cases r1 with
  | @loc _ q ej =>
    rw [nth_eq] at h2
    split at h2
    · rename_i xs e2
      obtain ⟨m, a1, a2⟩ := s1.at ej e2
      cases a2
      obtain ⟨_, k⟩ := putK_iff.mp h2
      refine ⟨q, _, rfl, a1, ?_⟩
      have e4 : (D.sl xs).reverse = D.sl xs.reverse := by rw [D.sl_map, D.sl_map, List.map_reverse]
      rw [e4]
      exact k _ _ _ u1 (.d .non) (s1.put ej (.lst xs.reverse))
    · exact h2.elim⟩
/-- xs.extend(ys), ys a list -/
def eExtend (O A : Ex) : Ex where
  run := fun env st Q Z => O.run env st (fun o st1 => isLoc (fun j => hasL st1 j (A.run env st1 (fun v st2 => lsV st2 (fun ys => match nth st2 j with
    | some (.lst xs) => xs.length + ys.length ≤ sizeLine ∧ putK st2 j (.lst (xs ++ ys)) fun st3 => Q (.d .non) st3
    | _ => False) v) Z)) o) Z
  mono := fun m n h => O.mono (fun _ _ h1 => isLoc_mono (fun _ h2 => hasL_mono (fun h3 => A.mono (fun _ _ h4 => lsV_mono (fun _ h5 => by
    split at h5
    · exact ⟨h5.1, putK_mono (fun _ h3 => m _ _ h3) h5.2⟩
    · exact h5) h4) n h3) h2) h1) n h

def gItem (O I : Ex) : Tg where
  run := fun v env st k => O.run env st (fun o st1 => I.run env st1 (fun i st2 => isLoc (fun j => isI (fun n => match nth st2 j with
    | some (.lst xs) => (match v with
      | .d x => ∃ m, ixN xs.length n = some m ∧ putK st2 j (.lst (xs.set m x)) fun st3 => k env st3
      | _ => False)
    | some (.lsT ts) => ∃ m, ixN ts.length n = some m ∧ putK st2 j (.lsT (ts.set m v)) fun st3 => k env st3
    | _ => False) i) o) noZ) noZ
  mono := fun m h => O.mono (fun _ _ h1 => I.mono (fun _ _ h2 => isLoc_mono (fun _ h3 => isI_mono (fun _ h4 => by
    split at h4
    · split at h4
      · obtain ⟨n, e, q⟩ := h4; exact ⟨n, e, putK_mono (fun _ h => m _ _ h) q⟩
      · exact h4
    · obtain ⟨n, e, q⟩ := h4; exact ⟨n, e, putK_mono (fun _ h => m _ _ h) q⟩
    · exact h4) h3) h2) (fun _ _ _ q => q) h1) (fun _ _ _ q => q) h
theorem D.sl_set (xs : List D) (m : Nat) (x : D) : (D.sl xs).set m x.s = D.sl (xs.set m x) := by rw [D.sl_map, D.sl_map, List.map_set]
theorem sg_it {Oe I : Ex} (ho : SndE c a Oe) (hi : SndE c b I) (ha : ∀ env v, assign (.Subscript a b pos) env v = (do let ov ← holding [v] (eval a env); let iv ← holding [v, ov] (eval b env); standAt pos; holding [v, ov, iv] (setItem ov iv v); release [v, ov, iv] []) := by intro _ _; rfl) : SndG c (.Subscript a b pos) (gItem Oe I) := ⟨fun {X G ρ env E st M0 M v s n} ds he hs r z => by
  refine sg_item (ho.run ds.toDC (wishN (X := X) (G := G)) he hs (Oe.mono (fun ov st1 h1 ρ1 t M1 u1 r1 s1 => ?_) (fun _ _ _ q => liftZ_no q) z)) (ha _)
  refine hi.run ds.toDC (wishN (X := X) (G := G)) (he.up u1) s1 (I.mono (fun iv st2 h2 ρ2 w M2 u2 r2 s2 => ?_) (fun _ _ _ q => liftZ_no q) h1)
  obtain ⟨j, rfl, h3⟩ := isLoc_inv h2
  obtain ⟨k, rfl, h4⟩ := isI_inv h3
  cases r2
  cases r1 with
  | @loc _ q ej =>
    have ej2 := u2 _ _ ej
    have up := u1.trans u2
    rw [nth_eq] at h4
    split at h4
    · rename_i xs e2
      obtain ⟨m, a1, a2⟩ := s2.at ej2 e2
      cases a2
      split at h4
      · rename_i x
        cases r
        obtain ⟨m, em, y⟩ := h4
        obtain ⟨_, y⟩ := putK_iff.mp y
        refine ⟨q, _, k, m, rfl, rfl, a1, by rw [D.sl_len]; exact em, ?_⟩
        rw [D.sl_set]
        exact y _ _ _ up (he.up up) (s2.put ej2 (.lst (xs.set m x)))
      · exact h4.elim
    · rename_i ts e2
      obtain ⟨m, a1, a2⟩ := s2.at ej2 e2
      cases a2 with
      | lsT r' =>
        obtain ⟨m, em, y⟩ := h4
        obtain ⟨_, y⟩ := putK_iff.mp y
        refine ⟨q, _, k, m, rfl, rfl, a1, by rw [← r'.len]; exact em, ?_⟩
        exact y _ _ _ up (he.up up) (s2.put ej2 (.lsT (r'.set (TR.up up _ _ r) m)))
    · exact h4.elim⟩

def sAug (i : Nat) (f : Int → Int → Int) (A : Ex) : Cmd where
  run := fun env st k => match nth env i with
    | some (some (.d (.int x))) => A.run env st (fun v s => isI (fun y => putK env i (some (.d (.int (f x y)))) fun e => k.nx e s) v) (k.ex env)
    | _ => False
  mono := fun l h => by
    split at h
    · exact A.mono (fun _ _ h1 => isI_mono (fun _ h2 => putK_mono (fun _ h3 => l.nx _ _ h3) h2) h1) (l.ex _) h
    · exact h
structure SndIp (op : Operator) (f : Int → Int → Int) : Prop where
  ip : ∀ {X : Cx}, PIp X op (ipI f)
theorem ip_a : SndIp .Add (fun i j => i + j) := ⟨ip_add⟩
theorem ip_s : SndIp .Sub (fun i j => i - j) := ⟨ip_sub⟩
theorem ss_ag {op : Operator} {f : Int → Int → Int} {x : Str} {pos' : Pos} (i : Nat) (hp : SndIp op f) (h : lcB c.N c.sc i x = true) (ha : SndE c e A) : SndS c (.AugAssign (.Name x pos') op e pos) (sAug i f A) := ⟨fun {X G ZX ρ env E st M0 M D} ds wi he hs z G1 kG σ H R => by
  dsimp only [sAug] at z
  rw [nth_eq] at z
  split at z
  · rename_i x0 hx
    obtain ⟨s, h1, h2⟩ := he.get hx
    cases h2
    obtain ⟨v, h3, h4⟩ := R.env.get h1
    cases h4
    obtain ⟨hi1, hi2⟩ := loc_of ds.dx h
    refine ⟨_, ps_aug ds.dx.ndX hi1 hi2 (pe_S (G := G)) hp.ip (.inl (ds.dx.fn _)), _, h3, ?_⟩
    refine tS_at kG R (Q := fun s M1 => ∃ y, s = .int y ∧ D.nx (E.set i (some (.int (f x0 y)))) M1) (ha.run ds.toDC wi he hs (A.mono (fun v s h5 ρ1 t M1 u1 r1 s1 => ?_) (kexZ he) z)) fun s M1 v H1 k1 rv R1 ⟨y, e1, q⟩ => ?_
    · obtain ⟨y, rfl, q⟩ := isI_inv h5
      cases r1
      obtain ⟨_, q⟩ := putK_iff.mp q
      exact ⟨y, rfl, q _ _ _ u1 ((he.up u1).set (.d (.int (f x0 y))) i) s1⟩
    · subst e1
      cases rv
      exact ⟨x0, y, rfl, rfl, _, M1, R1.set (.int (f x0 y)) i, q⟩
  · exact z.elim⟩

def isBlT (b : Bool) : T → Bool
  | .d (.bl a) => a == b
  | _ => false
theorem op_isBA {X : Cx} : OpR X (compareOp .Is) (fun x y H Q => ∃ b : Bool, y = .bl b ∧ Q (.bl (decide (x = .bl b))) H) := by
  intro pins s σ H x y v u Q I rx ry h
  obtain ⟨b, rfl, q⟩ := h
  cases ry
  have key : plainIs v (Value.bool b) = true → (v == Value.bool b) = decide (x = .bl b) → wpAny (model X.prog X.w) X.A (compareOp .Is v (Value.bool b)) (EP X pins σ Q) X.xe s := fun h1 h2 => wpAny_is_plain h1 (by rw [h2]; exact fin_bl I q rfl)
  cases x with
  | non => cases (show v = Value.none from rx); exact key rfl rfl
  | bl a =>
    cases (show v = Value.bool a from rx)
    refine key rfl ?_
    cases a <;> cases b <;> rfl
  | int i => obtain ⟨t, rfl⟩ := rx; exact key rfl rfl
  | str i => obtain ⟨t, rfl⟩ := rx; exact key rfl rfl
  | byt i => obtain ⟨t, rfl⟩ := rx; exact key rfl rfl
  | flt i => obtain ⟨t, rfl⟩ := rx; exact key rfl rfl
  | ref i => cases (show v = Value.ref i from rx); exact key rfl rfl
  | ty i => cases (show v = Value.type i from rx); exact key rfl rfl
def oIs : Op2 where
  run := fun x y st Q => match y with
    | .d .non => Q (.d (.bl (isNonT x))) st
    | .d (.bl b) => Q (.d (.bl (isBlT b x))) st
    | _ => False
  mono := fun m h => by
    split at h
    · exact m _ _ h
    · exact m _ _ h
    · exact h
theorem isBlT_v {ρ : List Addr} {K : PySem.W.Frag} {H : Hp} {t : T} {s : S} {v : V} (r : TR c.mg ρ t s) (rv : RV K H s v) (b : Bool) : decide (v = .bl b) = isBlT b t := by
  cases r with
  | d x =>
    cases x <;> cases rv <;> first | rfl | skip
    rename_i a
    cases a <;> cases b <;> rfl
  | loc _ => cases rv; rfl
  | tup _ => cases rv; rfl
  | exn _ _ => cases rv; rfl
  | scr _ => cases rv; rfl
theorem snd_is : SndC c .Is oIs := ⟨fun {X ρ x y s t st M0 M Q} dc r1 r2 hs h => by
  dsimp only [oIs] at h
  split at h
  · cases r2
    refine rc_isN ?_
    rw [isNonT_s r1]
    exact h _ _ _ Up.refl (.d _) hs
  · rename_i b
    cases r2
    intro v w H m rv rw'
    cases rw'
    refine ⟨_, op_isBA, b, rfl, ?_⟩
    rw [isBlT_v r1 rv]
    exact pack (.bl _) m (h _ _ _ Up.refl (.d _) hs)
  · exact h.elim⟩

def inD (x : D) (xs : List D) : Bool := xs.any fun z => PyData.eqv z.py x.py
/-- a list as data -/
def lqD (M : Mem) (s : S) (xs : List D) : Prop := Dat M s (D.lst xs).py
theorem lsV_dat {ρ : List Addr} {st : Sto} {M0 M : Mem} {k : List D → Prop} {t : T} {s : S} (r : TR c.mg ρ t s) (hs : StT c.mg ρ st M0 M) (h : vwD st (fun x => match x with | .lst xs => k xs | _ => False) t) : ∃ xs, ((D.lst xs).py.canLay0 = true → Dat M s (D.lst xs).py) ∧ k xs := by
  obtain ⟨x, d, h⟩ := vwD_inv r hs h
  split at h
  · exact ⟨_, d, h⟩
  · exact h.elim
def oInG (f : Bool → Bool) : Op2 where
  run := fun x y st Q => vwD st (fun a => match y with
    | .d (.tup xs) => (match a with
      | .int i => ∃ ns : List Int, xs = ns.map D.int ∧ Q (.d (.bl (f (ns.contains i)))) st
      | _ => False)
    | y => vwD st (fun b => match b with
      | .lst xs => (D.shp a ∧ D.shp (.lst xs)) ∧ Q (.d (.bl (f (inD a xs)))) st
      | _ => False) y) x
  mono := fun m h => vwD_mono (fun _ h1 => by
    split at h1
    · split at h1
      · obtain ⟨ns, e, q⟩ := h1; exact ⟨ns, e, m _ _ q⟩
      · exact h1
    · exact vwD_mono (fun _ h2 => by
        split at h2
        · exact ⟨h2.1, m _ _ h2.2⟩
        · exact h2) h1) h
def oIn : Op2 := oInG id
def oNotIn : Op2 := oInG not
theorem inD_py (x : D) (xs : List D) : (D.pyl xs).any (fun z => PyData.eqv z x.py) = inD x xs := by
  unfold inD
  rw [D.pyl_map, List.any_map]; rfl
theorem snd_in : SndC c .In oIn := ⟨fun {X ρ x y s t st M0 M Q} dc r1 r2 hs h => by
  obtain ⟨a, d1, h⟩ := vwD_inv r1 hs h
  split at h
  · rename_i xs
    split at h
    · rename_i i
      obtain ⟨ns, rfl, q⟩ := h
      cases r2
      have d1 := d1 rfl
      cases d1
      intro v w H m rv rw'
      cases rv
      cases rw' with
      | tup h1 h2 =>
        rw [sl_int] at h2
        rw [rvs_ints h2] at h1
        refine ⟨_, op_in_seq, _, _, rfl, .inr h1.sq, rfl, by simp [flatV], ?_⟩
        rw [if_neg (by decide), inV_ints]
        exact pack (.bl _) m (q _ _ _ Up.refl (.d _) hs)
    · exact h.elim
  · obtain ⟨b, d2, h⟩ := vwD_inv r2 hs h
    split at h
    · rename_i xs
      obtain ⟨⟨h1, h2⟩, q⟩ := h
      intro v w H m rv rw'
      refine ⟨_, op_inD (by have := dc.dn.room.un; omega), a.py, D.pyl xs, (d1 (SeqAt.canLay_of_shaped h1)).dp m _ _ _ rv, (d2 (SeqAt.canLay_of_shaped h2)).dp m _ _ _ rw', h1, h2, ?_⟩
      rw [inD_py]
      exact pack (.bl _) m (q _ _ _ Up.refl (.d _) hs)
    · exact h.elim⟩
theorem snd_notIn : SndC c .NotIn oNotIn := ⟨fun {X ρ x y s t st M0 M Q} dc r1 r2 hs h => by
  obtain ⟨a, d1, h⟩ := vwD_inv r1 hs h
  split at h
  · rename_i xs
    split at h
    · rename_i i
      obtain ⟨ns, rfl, q⟩ := h
      cases r2
      have d1 := d1 rfl
      cases d1
      intro v w H m rv rw'
      cases rv
      cases rw' with
      | tup h1 h2 =>
        rw [sl_int] at h2
        rw [rvs_ints h2] at h1
        refine ⟨_, op_notIn_seq, _, _, rfl, .inr h1.sq, rfl, by simp [flatV], ?_⟩
        rw [if_pos rfl, inV_ints]
        exact pack (.bl _) m (q _ _ _ Up.refl (.d _) hs)
    · exact h.elim
  · obtain ⟨b, d2, h⟩ := vwD_inv r2 hs h
    split at h
    · rename_i xs
      obtain ⟨⟨h1, h2⟩, q⟩ := h
      intro v w H m rv rw'
      refine ⟨_, op_notInD (by have := dc.dn.room.un; omega), a.py, D.pyl xs, (d1 (SeqAt.canLay_of_shaped h1)).dp m _ _ _ rv, (d2 (SeqAt.canLay_of_shaped h2)).dp m _ _ _ rw', h1, h2, ?_⟩
      rw [inD_py]
      exact pack (.bl _) m (q _ _ _ Up.refl (.d _) hs)
    · exact h.elim⟩
theorem snd_gint {x : Str} {i : Int} {t : Tok} (hm : c.mg x = some (.int i t)) (hg : glB c.sc x = true) (hd : (x == ("__debug__" : Str)) = false := by decide) : SndE c (.Name x pos) (eD (.int i)) := ⟨fun dc wi he hs z => se_glob (s := .int i) (v := .int i) (gl_of dc.dn hg) (by rw [dc.mg]; exact hm) ⟨t, rfl⟩ (fun _ => .int i) (z _ _ _ Up.refl (.d (.int i)) hs) hd⟩
structure SndK (c : Ct) (e : List Keyword) (m : Exs) : Prop where
  run : ∀ {X : Cx} {G : Hp} {ZX : Ev → Addr → S → Mem → Prop} {ρ : List Addr} {env : En} {E : Ev} {st : Sto} {M0 M : Mem} {Q : List S → Mem → Prop}, DC c X → WishO X G ZX → EnvT c.mg ρ env E → StT c.mg ρ st M0 M →
    m.run env st (liftA c.mg ρ M0 Q) (liftZ c.mg ρ M0 (ZX E)) → SK X G e E M Q
theorem sk_nl : SndK c [] aNil := ⟨fun _ _ _ hs z => sk_nil (z _ _ _ Up.refl .nil hs)⟩
theorem sk_cn {nm : Option Str} {kpos : Pos} {ks : List Keyword} (ha : SndE c e A) (hb : SndK c ks As) : SndK c (⟨nm, e, kpos⟩ :: ks) (aCons A As) := ⟨fun dc wi he hs z => by
  refine sk_cons (ha.run dc wi he hs (A.mono (fun x st1 h1 ρ1 s M1 u1 r1 s1 => ?_) (fun _ _ _ q => q) z))
  refine hb.run dc wi (he.up u1) s1 (As.mono (fun xs st2 h2 ρ2 t M2 u2 r2 s2 => ?_) (liftZ_up u1) h1)
  exact h2 _ _ _ (u1.trans u2) (.cons (TR.up u2 _ _ r1) r2) s2⟩
/-- f(k = v, ..): nothing raised -/
def eCallK (f : Fd) (As : Exs) : Ex where
  run := fun env st Q Z => As.run env st (fun ts st1 => callL f ts st1 Q noZ) Z
  mono := fun m n h => As.mono (fun _ _ h1 => callL_mono m (fun _ _ _ q => q) h1) n h
theorem snd_kw {x : Str} {j : Nat} {f : Fd} {ps : List Str} {kws : List Keyword} (F : HasK c x j ps f) (hg : glB c.sc x = true) (hk : j ≤ c.k) (ha : SndK c kws As) (hdb : (x == ("__debug__" : Str)) = false := by decide)
    (hall : ∀ env, (backToKw pos (keywordEach kws env)).all (·.1.isSome) = true := by intro _; rfl) (hks : ∀ env, (backToKw pos (keywordEach kws env)).filterMap (·.1) = ps := by intro _; rfl) (hpl : ∀ env, ((backTo pos (starEach [] env)).any (·.1) || (backToKw pos (keywordEach kws env)).any (·.1.isNone)) = false := by intro _; rfl) :
    SndE c (.Call (.Name x p) [] kws pos) (eCallK f As) := ⟨fun {X G ZX ρ env E st M0 M Q} dc wi he hs z => by
  have F' : FnK X.prog X.w X.K X.mg X.base x j ps (C_of c.mg f) := by rw [dc.prog, dc.ww, dc.kk, dc.mg, dc.base]; exact F
  refine dn_kw dc.dn F' hg hk hdb (hall _) (hks _) (hpl _) (ha.run dc wi he hs (As.mono (fun ts st1 h1 ρ1 ss M1 u1 r1 s1 => ?_) (fun _ _ _ q => q) z))
  exact C_of_mono (fun _ _ q => q) (fun _ _ _ q => q) (callL_con (E := fun _ _ _ => False) r1 s1 (callL_mono (liftQ_up u1) (fun _ _ _ q => q.elim) h1))⟩
/-- (*xs, ..) -/
def aStar (A : Ex) (As : Exs) : Exs where
  run := fun env st Q Z => A.run env st (fun x st1 => sqV st1 (fun xs => As.run env st1 (fun ys st2 => Q (dT xs ++ ys) st2) Z) x) Z
  mono := fun m n h => A.mono (fun _ _ h1 => sqV_mono (fun _ h2 => As.mono (fun _ _ => m _ _) n h2) h1) n h
theorem snd_star (ha : SndE c e A) (hb : SndA c es As) (hst : ∀ env, starEach (.Starred e p :: es) env = (true, eval e env) :: starEach es env := by intro _; rfl) : SndA c (.Starred e p :: es) (aStar A As) := ⟨fun {X G ZX ρ env E st M0 M Q} dc wi he hs z => by
  refine sa_star (ha.run dc wi he hs (A.mono (fun x st1 h1 ρ1 s M1 u1 r1 s1 => ?_) (fun _ _ _ q => q) z)) (hst _)
  obtain ⟨xs, i, q⟩ := sqV_inv r1 s1 h1
  refine ⟨_, i, hb.run dc wi (he.up u1) s1 (As.mono (fun ys st2 h2 ρ2 t M2 u2 r2 s2 => ?_) (liftZ_up u1) q)⟩
  exact h2 _ _ _ (u1.trans u2) ((by rw [dT_map]; exact TRs.ds xs : TRs c.mg ρ2 (dT xs) (D.sl xs)).app r2) s2⟩
end
end Sy

set_option Elab.async false
set_option linter.all false
set_option maxRecDepth 100000
namespace Sy
open PySem PySem.Spec PyProof.Rows L2
/-- no def: promises nothing -/
def fdBot : Fd where
  run := fun _ _ _ _ => False
  mono := fun _ _ h => h
theorem bf_divmod : bootBuiltins "divmod" = some (.builtin "divmod") := by decide +kernel
theorem bt_dict : bootBuiltins "dict" = some (.type "dict") := by decide +kernel
theorem ok_bot {P : Program} {w : World} {K : PySem.W.Frag} {mg : Str → Option Value} {base : Heap} {k : Nat} {f : Addr} {fd : FuncData} {ps : List Str} : FnOk P w K mg base (L2.CX P w) k f fd ps (SpC K (C_of mg fdBot)) where
  len := fun vs H Q E h => by obtain ⟨_, _, _, _, _, _, ⟨_, _, _, _, _, _, h⟩, _⟩ := h; exact h.elim
  run := fun A out s H args us vs Q E _ _ _ _ _ h => by obtain ⟨_, _, _, _, _, _, ⟨_, _, _, _, _, _, h⟩, _⟩ := h; exact h.elim
section
variable {c : Ct} {e a b o : Expr} {es : List Expr} {A B : Ex} {As : Exs} {pos p p2 pos2 apos : Pos}
def intD (lo : Int) (n : Nat) : List D := (List.range n).map fun (k : Nat) => D.int (lo + (k : Int))
theorem intD_sl (lo : Int) (n : Nat) : D.sl (intD lo n) = rgS lo n := by
  unfold intD rgS
  rw [D.sl_map, List.map_map]; rfl
theorem rgS_rgV {K : PySem.W.Frag} {H : Hp} (n : Int) : RVs K H (rgS 0 n.toNat) (rgV 0 n) := by
  have e1 : rgV 0 n = ((List.range n.toNat).map fun (i : Nat) => (0 : Int) + (i : Int)).map V.int := by unfold rgV; rw [Int.sub_zero, List.map_map]; rfl
  have e2 : rgS 0 n.toNat = ((List.range n.toNat).map fun (i : Nat) => (0 : Int) + (i : Int)).map S.int := by unfold rgS; rw [List.map_map]; rfl
  rw [e1, e2]
  exact RVs.ints _
theorem se_listR {X : Cx} {G : Hp} {env : Ev} {M : Mem} {Q : QS} (hg : Gl X "list") (hm : X.mg "list" = none) (hg2 : Gl X "range") (hm2 : X.mg "range" = none) (hc : X.calm = true) (h : SE X G a env M fun s M1 => ∃ n : Int, s = .int n ∧ 0 ≤ n ∧ n ≤ 16777216 ∧ ∀ p, M1 p = none → Q (.ptr p) (updM M1 p (.lst (rgS 0 n.toNat))))
    (na : starEach [a] X.env = (false, eval a X.env) :: starEach [] X.env) (na2 : starEach [.Call (.Name "range" p2) [a] [] pos2] X.env = (false, eval (.Call (.Name "range" p2) [a] [] pos2) X.env) :: starEach [] X.env) :
    SE X G (.Call (.Name "list" p) [.Call (.Name "range" p2) [a] [] pos2] [] pos) env M Q := fun σ H R =>
  ⟨_, pe_listRg hc hg hm (prg_1 hg2 hm2 (pe_S (G := G)) na) na2, tS_go R h fun s M1 v H1 k1 rv R1 ⟨n, es, n0, n1, q⟩ => by
    subst es
    cases rv
    refine ⟨n, rfl, RgOk.of_le (by omega) (by omega) (by omega) (by omega), fun p hp => ?_⟩
    exact ⟨.ptr p, _, k1.trans (keep_new hp), .ptr p, put_lst R1.mem hp (rgS_rgV n), q p (R1.mem.free hp)⟩⟩
def lRange (A : Ex) : ExL where
  run := fun env st Q Z => A.run env st (fun v s => isI (fun n => (0 ≤ n ∧ n ≤ 16777216) ∧ Q (intD 0 n.toNat) s) v) Z
  mono := fun m n h => A.mono (fun _ _ h1 => isI_mono (fun _ h2 => ⟨h2.1, m _ _ h2.2⟩) h1) n h
theorem snd_lrange (hm : c.mg "list" = none) (hg : glB c.sc "list" = true) (hm2 : c.mg "range" = none) (hg2 : glB c.sc "range" = true) (ha : SndE c a A) (na : ∀ env, starEach [a] env = (false, eval a env) :: starEach [] env := by intro _; rfl)
    (na2 : ∀ env, starEach [.Call (.Name "range" p2) [a] [] pos2] env = (false, eval (.Call (.Name "range" p2) [a] [] pos2) env) :: starEach [] env := by intro _; rfl) : SndL c (.Call (.Name "list" p) [.Call (.Name "range" p2) [a] [] pos2] [] pos) (lRange A) := ⟨fun dc wi he hs z => by
  refine se_listR (gl_of dc.dn hg) (by rw [dc.mg]; exact hm) (gl_of dc.dn hg2) (by rw [dc.mg]; exact hm2) dc.dn.calm (ha.run dc wi he hs (A.mono (fun v s1 h1 ρ1 t M1 u1 r1 s1' => ?_) (fun _ _ _ q => q) z)) (na _) (na2 _)
  obtain ⟨n, rfl, ⟨b1, b2⟩, q⟩ := isI_inv h1
  cases r1
  refine ⟨n, rfl, b1, b2, fun p hp => ?_⟩
  rw [← intD_sl]
  exact q _ p _ u1 (.of s1' hp)⟩

def firstD (x : D) (xs : List D) : Nat := xs.findIdx fun z => PyData.eqv z.py x.py
theorem se_index {X : Cx} {G : Hp} {env : Ev} {M : Mem} {Q : QS} {N : List Str} {sc : Scope} {k : Nat} (d : DN X N sc k) (h : SE X G o env M fun s M1 => ∃ q, (s = .fzl q ∨ ∃ p, s = .ptr p ∧ M1 p = some (.lst q)) ∧ SE X G e env M1 fun y M2 => ∃ (dd : PyData) (ds : List PyData) (j : Nat) (z : PyData), Dat M2 y dd ∧ (Dat M2 s (.list ds)) ∧ SeqAt.shaped (.list ds) = true ∧ SeqAt.shaped dd = true ∧ ds[j]? = some z ∧ PyData.eqv z dd = true ∧ (∀ (m : Nat) (z' : PyData), m < j → ds[m]? = some z' → PyData.eqv z' dd = false) ∧ Q (.int (j : Nat)) M2)
    (hbase : attributeBase o "index" X.env (eval o X.env) = eval o X.env) (hfew : ((backTo pos (starEach [e] X.env)).all (fun x => !x.1) && (backToKw pos (keywordEach [] X.env)).all (fun x => x.1.isSome) && decide (([e] : List Expr).length + ([] : List Keyword).length + (if ([] : List Keyword).isEmpty then 0 else 1) < 30)) = true)
    (hline : (apos.endLine == pos.line) = true) (hs : starEach [e] X.env = (false, eval e X.env) :: starEach [] X.env) (hpl : (backTo pos (starEach [] X.env)).any (·.1) = false) : SE X G (.Call (.Attribute o "index" apos) [e] [] pos) env M Q := fun σ H R =>
  ⟨_, pe_bm PySem.F.plainAttrs_list PySem.F.slot_list_index PySem.F.type_list_index (mt_indexD (by have := d.room.un; omega)) pe_S (pa_cons (te := tS X G e) pe_S pa_nil hs) hbase hfew hline hs hpl,
    tS_go R h fun s M1 v H1 k1 rv R1 ⟨q0, hq, q1⟩ => by
      have key : ∃ a vs, v = .ref a ∧ SqL X.K H1 a vs := by
        rcases hq with rfl | ⟨p, rfl, hp⟩
        · cases rv with
          | fzl a b => exact ⟨_, _, rfl, FzL.sq (.inl ⟨_, a⟩)⟩
        · cases rv
          obtain ⟨vs, h1, h2⟩ := R1.mem p _ hp
          exact ⟨p, vs, rfl, SqL.of h1⟩
      obtain ⟨a, vs, rfl, sq⟩ := key
      refine ⟨.inl ⟨rfl, _, sq⟩, tS_go R1 q1 fun y M2 w H2 k2 rw' R2 ⟨dd, ds, j, z, d1, d2, s1, s2, e1, e2, e3, q2⟩ => ?_⟩
      exact ⟨a, w, dd, ds, j, z, rfl, rfl, d2.dp R2.mem _ _ _ (rv.up k2), d1.dp R2.mem _ _ _ rw', s1, s2, e1, e2, e3, .int j, M2, k1.trans k2, .int _, R2.mem, q2⟩⟩
def eIndex (O A : Ex) : Ex where
  run := fun env st Q Z => O.run env st (fun o st1 => lsV st1 (fun _ => A.run env st1 (fun v st2 => lsV st2 (fun xs => vwD st2 (fun x => (D.shp (.lst xs) ∧ D.shp x ∧ (xs.any fun z => PyData.eqv z.py x.py) = true) ∧ Q (.d (.int (firstD x xs : Nat))) st2) v) o) Z) o) Z
  mono := fun m n h => O.mono (fun _ _ h1 => lsV_mono (fun _ h2 => A.mono (fun _ _ h3 => lsV_mono (fun _ h4 => vwD_mono (fun _ h5 => ⟨h5.1, m _ _ h5.2⟩) h4) h3) n h2) h1) n h
theorem lsV_dat2 {ρ : List Addr} {st : Sto} {M0 M : Mem} {k : List D → Prop} {t : T} {s : S} (r : TR c.mg ρ t s) (hs : StT c.mg ρ st M0 M) (h : lsV st k t) (nf : ∀ j xs, t = .loc j → nth st j ≠ some (.fz xs)) : ∃ xs, (s = .fzl (D.sl xs) ∨ ∃ p, s = .ptr p ∧ M p = some (.lst (D.sl xs))) ∧ k xs := by
  unfold lsV at h
  split at h
  · cases r; exact ⟨_, .inl rfl, h⟩
  · rename_i j
    split at h
    · rename_i xs e2
      rw [nth_eq] at e2
      cases r with
      | loc e =>
        obtain ⟨m, h1, h2⟩ := hs.at e e2
        cases h2
        exact ⟨_, .inr ⟨_, rfl, h1⟩, h⟩
    · rename_i xs e2; exact absurd e2 (nf j xs rfl)
    · exact h.elim
  · exact h.elim
/-- a list, not one that was frozen at its place -/
def lmV (st : Sto) (k : List D → Prop) : T → Prop
  | .d (.lst xs) => k xs
  | .loc j => match nth st j with
    | some (.lst xs) => k xs
    | _ => False
  | _ => False
theorem lmV_mono {st : Sto} {k k' : List D → Prop} {t : T} (m : ∀ xs, k xs → k' xs) (h : lmV st k t) : lmV st k' t := by
  unfold lmV at *
  split at h
  · exact m _ h
  · split at h
    · exact m _ h
    · exact h
  · exact h
theorem lmV_inv {ρ : List Addr} {st : Sto} {M0 M : Mem} {k : List D → Prop} {t : T} {s : S} (r : TR c.mg ρ t s) (hs : StT c.mg ρ st M0 M) (h : lmV st k t) : ∃ xs, (s = .fzl (D.sl xs) ∨ ∃ p, s = .ptr p ∧ M p = some (.lst (D.sl xs))) ∧ k xs := by
  unfold lmV at h
  split at h
  · cases r; exact ⟨_, .inl rfl, h⟩
  · rename_i j
    rw [nth_eq] at h
    cases r with
    | loc e =>
      split at h
      · rename_i xs e2
        obtain ⟨m, h1, h2⟩ := hs.at e e2
        cases h2
        exact ⟨_, .inr ⟨_, rfl, h1⟩, h⟩
      · exact h.elim
  · exact h.elim
def eIndex' (O A : Ex) : Ex where
  run := fun env st Q Z => O.run env st (fun o st1 => lmV st1 (fun _ => A.run env st1 (fun v st2 => lmV st2 (fun xs => vwD st2 (fun x => (D.shp (.lst xs) ∧ D.shp x ∧ (xs.any fun z => PyData.eqv z.py x.py) = true) ∧ Q (.d (.int (firstD x xs : Nat))) st2) v) o) Z) o) Z
  mono := fun m n h => O.mono (fun _ _ h1 => lmV_mono (fun _ h2 => A.mono (fun _ _ h3 => lmV_mono (fun _ h4 => vwD_mono (fun _ h5 => ⟨h5.1, m _ _ h5.2⟩) h4) h3) n h2) h1) n h
theorem snd_index {Oe : Ex} (ho : SndE c o Oe) (ha : SndE c e A) (hb1 : ∀ env, attributeBase o "index" env (eval o env) = eval o env := by intro _; rfl) (hb2 : ∀ env, ((backTo pos (starEach [e] env)).all (fun x => !x.1) && (backToKw pos (keywordEach [] env)).all (fun x => x.1.isSome) && decide (([e] : List Expr).length + ([] : List Keyword).length + (if ([] : List Keyword).isEmpty then 0 else 1) < 30)) = true := by intro _; rfl)
    (hb3 : (apos.endLine == pos.line) = true := by rfl) (hb4 : ∀ env, starEach [e] env = (false, eval e env) :: starEach [] env := by intro _; rfl) (hb5 : ∀ env, (backTo pos (starEach [] env)).any (·.1) = false := by intro _; rfl) : SndE c (.Call (.Attribute o "index" apos) [e] [] pos) (eIndex' Oe A) := ⟨fun {X G ZX ρ env E st M0 M Q} dc wi he hs z => by
  refine se_index dc.dn (ho.run dc wi he hs (Oe.mono (fun ov st1 h1 ρ1 s M1 u1 r1 s1 => ?_) (fun _ _ _ q => q) z)) (hb1 _) (hb2 _) hb3 (hb4 _) (hb5 _)
  obtain ⟨xs0, i0, h2⟩ := lmV_inv r1 s1 h1
  refine ⟨_, i0, ha.run dc wi (he.up u1) s1 (A.mono (fun v st2 h3 ρ2 t M2 u2 r2 s2 => ?_) (liftZ_up u1) h2)⟩
  obtain ⟨xs, i1, h4⟩ := lmV_inv (TR.up u2 _ _ r1) s2 h3
  obtain ⟨x, dx, ⟨sh1, sh2, an⟩, q⟩ := vwD_inv r2 s2 h4
  obtain ⟨y, hy, hy2⟩ := List.any_eq_true.mp an
  have lt : firstD x xs < xs.length := List.findIdx_lt_length_of_exists ⟨y, hy, hy2⟩
  have hd : Dat M2 s (.list (D.pyl xs)) := by
    have cl := dats_of M2 xs (SeqAt.canLay_of_shaped sh1)
    rcases i1 with rfl | ⟨p, rfl, hp⟩
    · exact .fzl cl
    · exact .lst hp cl
  refine ⟨x.py, D.pyl xs, firstD x xs, (xs[firstD x xs]'lt).py, dx (SeqAt.canLay_of_shaped sh2), hd, sh1, sh2, ?_, ?_, fun m z' hm hz => ?_, q _ _ _ (u1.trans u2) (.d (.int _)) s2⟩
  · rw [D.pyl_map, List.getElem?_map, List.getElem?_eq_getElem lt]; rfl
  · exact List.findIdx_getElem (w := lt)
  · rw [D.pyl_map, List.getElem?_map] at hz
    obtain ⟨w, hw, rfl⟩ := Option.map_eq_some_iff.mp hz
    have := List.not_of_lt_findIdx (p := fun z => PyData.eqv z.py x.py) (xs := xs) hm
    obtain ⟨hl, rfl⟩ := List.getElem?_eq_some_iff.mp hw
    simpa using this⟩

def zipD : List D → List D → List T
  | x :: xs, y :: ys => .d (.tup [x, y]) :: zipD xs ys
  | _, _ => []
theorem zipD_len : ∀ (xs ys : List D), (zipD xs ys).length = min xs.length ys.length
  | [], ys => by simp [zipD]
  | _ :: _, [] => by simp [zipD]
  | x :: xs, y :: ys => by rw [zipD, List.length_cons, zipD_len xs ys, List.length_cons, List.length_cons]; omega
theorem zipD_get : ∀ {xs ys : List D} {i : Nat} {x y : D}, xs[i]? = some x → ys[i]? = some y → (zipD xs ys)[i]? = some (.d (.tup [x, y]))
  | [], _, _, _, _, h, _ => by simp at h
  | _ :: _, [], _, _, _, _, h => by simp at h
  | x :: xs, y :: ys, 0, _, _, h1, h2 => by simp at h1 h2; subst h1 h2; rfl
  | x :: xs, y :: ys, i + 1, _, _, h1, h2 => by
    have := zipD_get (xs := xs) (ys := ys) (i := i) (by simpa using h1) (by simpa using h2)
    simpa [zipD] using this
def zipSS (xs ys : List S) : List S := List.zipWith (fun x y => S.tup [x, y]) xs ys
theorem zipD_TR {mg : Str → Option Value} {ρ : List Addr} : ∀ (xs ys : List D), TRs mg ρ (zipD xs ys) (zipSS (D.sl xs) (D.sl ys))
  | [], ys => .nil
  | _ :: _, [] => .nil
  | x :: xs, y :: ys => .cons (.d (.tup [x, y])) (zipD_TR xs ys)
/-- a list or a tuple to be zipped: what it is, its items, what must stand -/
def zpV (st : Sto) (k : Bool → List D → (Sto → Prop) → Prop) : T → Prop
  | .d (.tup xs) => k false xs (fun _ => True)
  | .d (.lst xs) => k true xs (fun _ => True)
  | .scr xs => k true (xs.map D.int) (fun _ => True)
  | .loc j => match nth st j with
    | some (.lst xs) => k true xs (fun st' => nth st' j = some (.lst xs))
    | _ => False
  | _ => False
theorem zpV_mono {st : Sto} {k k' : Bool → List D → (Sto → Prop) → Prop} {t : T} (m : ∀ b x g, k b x g → k' b x g) (h : zpV st k t) : zpV st k' t := by
  unfold zpV at *
  split at h
  · exact m _ _ _ h
  · exact m _ _ _ h
  · exact m _ _ _ h
  · split at h
    · exact m _ _ _ h
    · exact h
  · exact h
/-- at hand at each turn -/
def ZpM (K : PySem.W.Frag) (H : Hp) (b : Bool) (a : Addr) (xs : List S) (Gd : Mem → Prop) : Prop := ∀ M' H', MemR K M' H' → Keep K H H' → Gd M' → ∃ vs, (if b then SqL K H' a vs else SqT K H' a vs) ∧ RVs K H' xs vs
theorem zpV_inv {ρ : List Addr} {st : Sto} {M0 M : Mem} {k : Bool → List D → (Sto → Prop) → Prop} {t : T} {s : S} (r : TR c.mg ρ t s) (hs : StT c.mg ρ st M0 M) (h : zpV st k t) : ∃ b xs gd Gd, k b xs gd ∧ (∀ ρ'' st'' M'', Up ρ ρ'' → StT c.mg ρ'' st'' M0 M'' → gd st'' → Gd M'') ∧ Gd M ∧
    ∀ (K : PySem.W.Frag) (H : Hp) (v : V), MemR K M H → RV K H s v → ∃ a, v = .ref a ∧ ZpM K H b a (D.sl xs) Gd := by
  unfold zpV at h
  split at h
  · rename_i xs
    cases r
    refine ⟨_, _, _, fun _ => True, h, fun _ _ _ _ _ _ => True.intro, True.intro, fun K H v m rv => ?_⟩
    cases rv with
    | tup h1 h2 => exact ⟨_, rfl, fun M' H' m' k' _ => ⟨_, by rw [if_neg (by decide)]; exact (k'.tup _ _ h1).sq, h2.up k'⟩⟩
  · rename_i xs
    cases r
    refine ⟨_, _, _, fun _ => True, h, fun _ _ _ _ _ _ => True.intro, True.intro, fun K H v m rv => ?_⟩
    cases rv with
    | fzl h1 h2 => exact ⟨_, rfl, fun M' H' m' k' _ => ⟨_, by rw [if_pos rfl]; exact FzL.sq (.inl ⟨_, k'.frz _ _ _ h1⟩), h2.up k'⟩⟩
  · rename_i xs
    cases r
    refine ⟨_, _, _, fun _ => True, h, fun _ _ _ _ _ _ => True.intro, True.intro, fun K H v m rv => ?_⟩
    cases rv with
    | rdl h1 h2 => exact ⟨_, rfl, fun M' H' m' k' _ => ⟨_, by rw [if_pos rfl]; exact (k'.fzl _ _ h1).sq, h2.up k'⟩⟩
  · rename_i j
    split at h
    · rename_i xs e0
      have e2 := e0
      rw [nth_eq] at e2
      cases r with
      | @loc _ q e =>
        obtain ⟨m, h1, h2⟩ := hs.at e e2
        cases h2
        refine ⟨_, _, _, fun M' => M' q = some (.lst (D.sl xs)), h, fun ρ'' st'' M'' u s'' g => ?_, h1, fun K H v m rv => ?_⟩
        · have g := (nth_eq _ _).symm.trans g
          obtain ⟨m, h3, h4⟩ := s''.at (u _ _ e) g
          cases h4
          exact h3
        · cases rv
          refine ⟨q, rfl, fun M' H' m' k' g => ?_⟩
          obtain ⟨vs, h3, h4⟩ := m' q _ g
          exact ⟨vs, by rw [if_pos rfl]; exact SqL.of h3, h4⟩
    · exact h.elim
  · exact h.elim
def wZip (A B : Ex) : Wk where
  run := fun env st Q Z => A.run env st (fun v st1 => B.run env st1 (fun w st2 => zpV st2 (fun k1 xs g1 => zpV st2 (fun k2 ys g2 => k1 = k2 ∧ Q (zipD xs ys) (fun s => g1 s ∧ g2 s) st2) w) v) Z) Z
  mono := fun m n h => A.mono (fun _ _ h1 => B.mono (fun _ _ h2 => zpV_mono (fun _ _ _ h3 => zpV_mono (fun _ _ _ h4 => ⟨h4.1, m _ _ _ h4.2⟩) h3) h2) n h1) n h
theorem gives_zip {X : Cx} {H : Hp} {a b : Addr} {xs ys : List S} {G1 G2 : Mem → Prop} (h1 : ZpM X.K H true a xs G1) (h2 : ZpM X.K H true b ys G2) : Gives X.K (Itz X.K a b) H (zipSS xs ys) (fun M => G1 M ∧ G2 M) := by
  refine ⟨fun i M' H' m k' g hi => ?_, fun i M' H' v H'' m k' g hi y => ?_, fun M' H' m k' g => ?_⟩
  · obtain ⟨vs1, a1, a2⟩ := h1 M' H' m k' g.1
    obtain ⟨vs2, a3, a4⟩ := h2 M' H' m k' g.2
    rw [if_pos rfl] at a1 a3
    unfold zipSS at hi
    rw [List.length_zipWith] at hi
    have i1 : i < vs1.length := by rw [← a2.length]; omega
    have i2 : i < vs2.length := by rw [← a4.length]; omega
    exact ⟨vs1, vs2, vs1[i], vs2[i], a1, a3, by simp [i1], by simp [i2]⟩
  · obtain ⟨vs1, a1, a2⟩ := h1 M' H' m k' g.1
    obtain ⟨vs2, a3, a4⟩ := h2 M' H' m k' g.2
    rw [if_pos rfl] at a1 a3
    obtain ⟨T, x, y, rfl, hT, rfl, f1, f2⟩ := y
    obtain ⟨s1, b1, b2⟩ := a2.getV (f1 _ a1)
    obtain ⟨s2, b3, b4⟩ := a4.getV (f2 _ a3)
    refine ⟨.tup [s1, s2], ?_, .tup (.inl upd_same) (.cons (b2.up (keep_new hT)) (.cons (b4.up (keep_new hT)) .nil)), keep_new hT, m.skip hT⟩
    unfold zipSS
    rw [List.getElem?_zipWith, b1, b3]
  · obtain ⟨vs1, a1, a2⟩ := h1 M' H' m k' g.1
    obtain ⟨vs2, a3, a4⟩ := h2 M' H' m k' g.2
    rw [if_pos rfl] at a1 a3
    refine ⟨vs1, vs2, a1, a3, ?_⟩
    unfold zipSS
    rw [List.length_zipWith, a2.length, a4.length]
    omega
theorem gives_zipT {X : Cx} {H : Hp} {a b : Addr} {xs ys : List S} {G1 G2 : Mem → Prop} (h1 : ZpM X.K H false a xs G1) (h2 : ZpM X.K H false b ys G2) : Gives X.K (RZ.ItzT X.K a b) H (zipSS xs ys) (fun M => G1 M ∧ G2 M) := by
  refine ⟨fun i M' H' m k' g hi => ?_, fun i M' H' v H'' m k' g hi y => ?_, fun M' H' m k' g => ?_⟩
  · obtain ⟨vs1, a1, a2⟩ := h1 M' H' m k' g.1
    obtain ⟨vs2, a3, a4⟩ := h2 M' H' m k' g.2
    rw [if_neg (by decide)] at a1 a3
    unfold zipSS at hi
    rw [List.length_zipWith] at hi
    have i1 : i < vs1.length := by rw [← a2.length]; omega
    have i2 : i < vs2.length := by rw [← a4.length]; omega
    exact ⟨vs1, vs2, vs1[i], vs2[i], a1, a3, by simp [i1], by simp [i2]⟩
  · obtain ⟨vs1, a1, a2⟩ := h1 M' H' m k' g.1
    obtain ⟨vs2, a3, a4⟩ := h2 M' H' m k' g.2
    rw [if_neg (by decide)] at a1 a3
    obtain ⟨T, x, y, rfl, hT, rfl, f1, f2⟩ := y
    obtain ⟨s1, b1, b2⟩ := a2.getV (f1 _ a1)
    obtain ⟨s2, b3, b4⟩ := a4.getV (f2 _ a3)
    refine ⟨.tup [s1, s2], ?_, .tup (.inl upd_same) (.cons (b2.up (keep_new hT)) (.cons (b4.up (keep_new hT)) .nil)), keep_new hT, m.skip hT⟩
    unfold zipSS
    rw [List.getElem?_zipWith, b1, b3]
  · obtain ⟨vs1, a1, a2⟩ := h1 M' H' m k' g.1
    obtain ⟨vs2, a3, a4⟩ := h2 M' H' m k' g.2
    rw [if_neg (by decide)] at a1 a3
    refine ⟨vs1, vs2, a1, a3, ?_⟩
    unfold zipSS
    rw [List.length_zipWith, a2.length, a4.length]
    omega
theorem ZpM.now {K : PySem.W.Frag} {M : Mem} {H : Hp} {b : Bool} {a : Addr} {xs : List S} {Gd : Mem → Prop} (h : ZpM K H b a xs Gd) (m : MemR K M H) (g : Gd M) : ∃ vs, (if b then SqL K H a vs else SqT K H a vs) := by
  obtain ⟨vs, h1, _⟩ := h M H m Keep.refl g
  exact ⟨vs, h1⟩
theorem snd_wZip {elts : List Expr} {kk : Nat} {tpos : Pos} (hm : c.mg "zip" = none) (hg : glB c.sc "zip" = true) (ha : SndE c a A) (hb : SndE c b B) (hst : ∀ env, starEach [a, b] env = (false, eval a env) :: starEach [b] env := by intro _; rfl) (hst2 : ∀ env, starEach [b] env = (false, eval b env) :: starEach [] env := by intro _; rfl) (hpl : ∀ env, (backTo pos (starEach [b] env)).any (·.1) = false := by intro _; rfl) :
    SndI c (.Tuple elts kk tpos) (.Call (.Name "zip" p) [a, b] [] pos) (wZip A B) := ⟨fun {X G ZX ρ env E st M0 M Q} dc wi he hs z σ H R => by
  refine ⟨_, RZ.pi_zipA (gl_of dc.dn hg) (by rw [dc.mg]; exact hm) (pa_S (G := G)) (hst _) (hpl _), ?_⟩
  refine tSA_go R (Q := fun ss M1 => ∃ (s1 s2 : S) (k : Bool) (xs ys : List D) (g1 g2 : Sto → Prop) (G1 G2 : Mem → Prop) (ρ1 : List Addr) (st1 : Sto), ss = [s1, s2] ∧ Up ρ ρ1 ∧ StT c.mg ρ1 st1 M0 M1 ∧ liftI c.mg ρ M0 Q (zipD xs ys) (fun s => g1 s ∧ g2 s) st1 ∧ (∀ ρ'' st'' M'', Up ρ1 ρ'' → StT c.mg ρ'' st'' M0 M'' → g1 st'' → G1 M'') ∧ (∀ ρ'' st'' M'', Up ρ1 ρ'' → StT c.mg ρ'' st'' M0 M'' → g2 st'' → G2 M'') ∧ G1 M1 ∧ G2 M1 ∧
      (∀ (K : PySem.W.Frag) (H : Hp) (v : V), MemR K M1 H → RV K H s1 v → ∃ a, v = .ref a ∧ ZpM K H k a (D.sl xs) G1) ∧ ∀ (K : PySem.W.Frag) (H : Hp) (v : V), MemR K M1 H → RV K H s2 v → ∃ a, v = .ref a ∧ ZpM K H k a (D.sl ys) G2) ?_ ?_
  · refine sa_cons (ha.run dc wi he hs (A.mono (fun x st1 h1 ρ1 s M1 u1 r1 s1 => ?_) (fun _ _ _ q => q) z)) (hst _)
    refine sa_cons (hb.run dc wi (he.up u1) s1 (B.mono (fun y st2 h2 ρ2 t M2 u2 r2 s2 => ?_) (liftZ_up u1) h1)) (hst2 _)
    refine sa_nil ?_
    obtain ⟨k1, xs, g1, G1, h3, a1, a2, a3⟩ := zpV_inv (TR.up u2 _ _ r1) s2 h2
    obtain ⟨k2, ys, g2, G2, ⟨rfl, h4⟩, b1, b2, b3⟩ := zpV_inv r2 s2 h3
    exact ⟨s, t, k1, xs, ys, g1, g2, G1, G2, ρ2, st2, rfl, u1.trans u2, s2, h4, a1, b1, a2, b2, a3, b3⟩
  · rintro ss M1 vs H1 kp rvs R1 ⟨s1, s2, k, xs, ys, g1, g2, G1, G2, ρ1, st1, rfl, u1, hs1, hq, a1, b1, a2, b2, a3, b3⟩
    obtain ⟨v, w, rfl, r1, r2⟩ := rvs2 rvs
    obtain ⟨a, rfl, za⟩ := a3 X.K H1 v R1.mem r1
    obtain ⟨b, rfl, zb⟩ := b3 X.K H1 w R1.mem r2
    obtain ⟨us, sa⟩ := za.now R1.mem a2
    obtain ⟨ws, sb⟩ := zb.now R1.mem b2
    have fin := hq ρ1 _ M1 (fun M => G1 M ∧ G2 M) u1 (zipD_TR xs ys) hs1 fun ρ'' st'' M'' u s g => ⟨a1 _ _ _ u s g.1, b1 _ _ _ u s g.2⟩
    refine ⟨a, b, us, ws, rfl, ?_⟩
    cases k with
    | true =>
      rw [if_pos rfl] at sa sb
      exact .inl ⟨sa, sb, _, _, M1, kp, R1.mem, gives_zip za zb, fin⟩
    | false =>
      rw [if_neg (by decide)] at sa sb
      exact .inr ⟨sa, sb, _, _, M1, kp, R1.mem, gives_zipT za zb, fin⟩⟩

theorem gives_rev {X : Cx} {H : Hp} {a : Addr} {xs : List S} {G1 : Mem → Prop} (h1 : ZpM X.K H true a xs G1) : Gives X.K (Itv X.K a xs.length) H xs.reverse G1 := by
  refine ⟨fun i M' H' m k' g hi => ?_, fun i M' H' v H'' m k' g hi y => ?_, fun M' H' m k' g => ?_⟩
  · obtain ⟨vs, a1, a2⟩ := h1 M' H' m k' g
    rw [if_pos rfl] at a1
    rw [List.length_reverse] at hi
    have hl := a2.length
    exact ⟨hi, vs, vs[xs.length - 1 - i]'(by omega), a1, by rw [List.getElem?_eq_getElem]⟩
  · obtain ⟨vs, a1, a2⟩ := h1 M' H' m k' g
    rw [if_pos rfl] at a1
    rw [List.length_reverse] at hi
    obtain ⟨rfl, y⟩ := y
    obtain ⟨s, e1, r1⟩ := a2.getV (y _ a1)
    refine ⟨s, ?_, r1, Keep.refl, m⟩
    rw [List.getElem?_reverse (by omega)]
    exact e1
  · show xs.length ≤ xs.reverse.length
    rw [List.length_reverse]; exact Nat.le_refl _
theorem gives_revT {X : Cx} {H : Hp} {a : Addr} {xs : List S} {G1 : Mem → Prop} (h1 : ZpM X.K H false a xs G1) : Gives X.K (RT.ItvT X.K a xs.length) H xs.reverse G1 := by
  refine ⟨fun i M' H' m k' g hi => ?_, fun i M' H' v H'' m k' g hi y => ?_, fun M' H' m k' g => ?_⟩
  · obtain ⟨vs, a1, a2⟩ := h1 M' H' m k' g
    rw [if_neg (by decide)] at a1
    rw [List.length_reverse] at hi
    have hl := a2.length
    exact ⟨hi, vs, vs[xs.length - 1 - i]'(by omega), a1, by rw [List.getElem?_eq_getElem]⟩
  · obtain ⟨vs, a1, a2⟩ := h1 M' H' m k' g
    rw [if_neg (by decide)] at a1
    rw [List.length_reverse] at hi
    obtain ⟨rfl, y⟩ := y
    obtain ⟨s, e1, r1⟩ := a2.getV (y _ a1)
    refine ⟨s, ?_, r1, Keep.refl, m⟩
    rw [List.getElem?_reverse (by omega)]
    exact e1
  · show xs.length ≤ xs.reverse.length
    rw [List.length_reverse]; exact Nat.le_refl _
def wRev (A : Ex) : Wk where
  run := fun env st Q Z => A.run env st (fun v st1 => zpV st1 (fun _ xs g => Q (dT xs.reverse) g st1) v) Z
  mono := fun m n h => A.mono (fun _ _ h1 => zpV_mono (fun _ _ _ h2 => m _ _ _ h2) h1) n h
theorem snd_wRev {tg : Expr} (hm : c.mg "reversed" = none) (hg : glB c.sc "reversed" = true) (ha : SndE c a A) (hst : ∀ env, starEach [a] env = (false, eval a env) :: starEach [] env := by intro _; rfl) : SndI c tg (.Call (.Name "reversed" p) [a] [] pos) (wRev A) := ⟨fun {X G ZX ρ env E st M0 M Q} dc wi he hs z σ H R => by
  refine ⟨_, RT.pi_revA (gl_of dc.dn hg) (by rw [dc.mg]; exact hm) (pe_S (G := G)) (hst _), ?_⟩
  refine tS_go R (Q := fun s M1 => ∃ (k : Bool) (xs : List D) (g1 : Sto → Prop) (G1 : Mem → Prop) (ρ1 : List Addr) (st1 : Sto), Up ρ ρ1 ∧ StT c.mg ρ1 st1 M0 M1 ∧ liftI c.mg ρ M0 Q (dT xs.reverse) g1 st1 ∧ (∀ ρ'' st'' M'', Up ρ1 ρ'' → StT c.mg ρ'' st'' M0 M'' → g1 st'' → G1 M'') ∧ G1 M1 ∧ (∀ (K : PySem.W.Frag) (H : Hp) (v : V), MemR K M1 H → RV K H s v → ∃ a, v = .ref a ∧ ZpM K H k a (D.sl xs) G1)) ?_ ?_
  · refine ha.run dc wi he hs (A.mono (fun x st1 h1 ρ1 s M1 u1 r1 s1 => ?_) (fun _ _ _ q => q) z)
    obtain ⟨k1, xs, g1, G1, h3, a1, a2, a3⟩ := zpV_inv r1 s1 h1
    exact ⟨k1, xs, g1, G1, ρ1, st1, u1, s1, h3, a1, a2, a3⟩
  · rintro s M1 v H1 kp rv R1 ⟨k, xs, g1, G1, ρ1, st1, u1, hs1, hq, a1, a2, a3⟩
    obtain ⟨a, rfl, za⟩ := a3 X.K H1 v R1.mem rv
    obtain ⟨us, sa, ra⟩ := za M1 H1 R1.mem Keep.refl a2
    have tr : TRs c.mg ρ1 (dT xs.reverse) (D.sl xs).reverse := by
      have e : (D.sl xs).reverse = D.sl xs.reverse := by rw [D.sl_map, D.sl_map, List.map_reverse]
      rw [dT_map, e]; exact TRs.ds _
    have fin := hq ρ1 _ M1 G1 u1 tr hs1 a1
    have hl : us.length = (D.sl xs).length := ra.length.symm
    refine ⟨a, us, rfl, ?_⟩
    rw [hl]
    cases k with
    | true =>
      rw [if_pos rfl] at sa
      exact .inl ⟨sa, _, _, M1, kp, R1.mem, gives_rev za, fin⟩
    | false =>
      rw [if_neg (by decide)] at sa
      exact .inr ⟨sa, _, _, M1, kp, R1.mem, gives_revT za, fin⟩⟩
end
end Sy

set_option Elab.async false
set_option linter.all false
set_option maxRecDepth 100000
namespace Sy
open PySem PySem.Spec PyProof.Rows L2
section
variable {X : Cx} {G : Hp} {env : Ev} {M : Mem} {Q : QS} {e : Expr}
theorem inv_frzD {pins : List (Addr × Obj)} {σ : L2.St} {H : Hp} {s : Shared} {a : Addr} {vs : List (Key × V)} (I : Inv X pins σ H s) (h : H a = some (.dK vs)) : ∃ o, Inv X pins σ (upd H a (.frz o (.dK vs))) s := by
  have x := (show ObjOk X.prog X.w H s.heap a (.dK vs) from I.hok a _ h)
  obtain ⟨hl, hs, ws, kv, dd⟩ := x
  obtain ⟨o, es, ep, e, rest⟩ := dd
  exact ⟨_, I.write (x := a) (e := a) (t' := s.toks) (by rw [h]; exact True.intro) (.inl rfl) (fun _ _ _ e => e) ⟨_, e⟩ ⟨e, hl, hs, ws, kv, o, es, ep, e, rest⟩⟩
theorem pe_frzD {t : TE} (h : PE X e t) : PE X e (fun σ H Q => t σ H fun v H1 => ∃ a vs, v = .ref a ∧ H1 a = some (.dK vs) ∧ ∀ o, Q v (upd H1 a (.frz o (.dK vs)))) := ⟨fun pins s σ H Q I z => by
  refine wpAny_mono (h.run pins s σ H _ I z) (fun u s' y => ?_) fun _ _ q => q
  obtain ⟨v, H1, I1, rv, a, vs, rfl, ha, q⟩ := y
  obtain ⟨o, I2⟩ := inv_frzD I1 ha
  exact ⟨_, _, I2, rv, q o⟩⟩
/-- without what stands at p -/
def offM (M : Mem) (p : Addr) : Mem := fun b => if b = p then none else M b
theorem se_seeD (h : SE X G e env M fun s M1 => ∃ p ss, s = .ptr p ∧ M1 p = some (.dK ss) ∧ Q .dz (offM M1 p)) : SE X G e env M Q := fun σ H R => by
  refine ⟨_, pe_frzD (pe_S (G := G)), env, M, _, R, h, fun v H' z => ?_⟩
  obtain ⟨s, M', k, rv, m, p, ss, rfl, e1, q⟩ := z
  cases rv
  obtain ⟨vs, h1, h2⟩ := m p _ e1
  refine ⟨p, vs, rfl, h1, fun o => ?_⟩
  have kk := keep_dK (K := X.K) (o := .frz o (.dK vs)) h1
  refine ⟨_, _, k.trans kk, .dz upd_same, fun a x e => ?_, q⟩
  unfold offM at e
  split at e
  · cases e
  · rename_i ne
    exact (m a x e).up kk (upd_ne ne)
end
def eDct : Ex where
  run := fun _ st Q _ => Q (.d .dct) st
  mono := fun m _ h => m _ _ h
theorem StT.offp {mg : Str → Option Value} {ρ : List Addr} {st : Sto} {M0 M : Mem} {p : Addr} {o : MO} (h : StT mg ρ st M0 M) (e : M p = none) : StT mg ρ st M0 (offM (updM M p o) p) := by
  have g : ∀ a, a ≠ p → offM (updM M p o) p a = M a := fun a ne => by unfold offM; rw [if_neg ne, updM_ne ne]
  refine ⟨h.len, h.nd, fun i a x e1 e2 => ?_, h.out, fun a x ha z => ?_⟩
  · obtain ⟨m, h1, h2⟩ := h.cell i a x e1 e2
    exact ⟨m, (g a (neM h1 e)).trans h1, h2⟩
  · have := h.keep a x ha z
    exact (g a (neM this e)).trans this
section
variable {c : Ct} {pos : Pos}
theorem snd_dct0 : SndE c (.Dict [] [] pos) eDct := ⟨fun {X G ZX ρ env E st M0 M Q} dc wi he hs z => by
  refine se_seeD (se_dict0 fun p hp => ⟨p, _, rfl, updM_same, ?_⟩)
  exact z _ _ _ Up.refl (.d .dct) (hs.offp hp)⟩
theorem snd_dctC {ks : List (Option Expr)} {vs : List Expr} {l : List (Key × V)} (h : PPc ks vs l) (h0 : ks ≠ []) (h15 : l.length ≤ 15) (hk : ks.length = l.length) (hv : vs.length = l.length) (ha : ks.all (·.isSome) = true) : SndE c (.Dict ks vs pos) eDct := ⟨fun {X G ZX ρ env E st M0 M Q} dc wi he hs z => by
  refine se_seeD (se_dictC h h0 h15 hk hv ha fun p o hp => ⟨p, _, rfl, updM_same, ?_⟩)
  exact z _ _ _ Up.refl (.d .dct) (hs.offp hp)⟩
end
/-- a def that is not opened by comparing -/
theorem sealF_ex (n : Nat) (f : Fd) : ∃ g : Fd, n = n ∧ g = f := ⟨f, rfl, rfl⟩
noncomputable def sealF (n : Nat) (f : Fd) : Fd := Classical.choose (sealF_ex n f)
theorem sealF_eq (n : Nat) (f : Fd) : sealF n f = f := (Classical.choose_spec (sealF_ex n f)).2
end Sy

set_option Elab.async false
set_option linter.all false
namespace Sy
open PySem PySem.Spec PyProof.Rows L2
theorem br_t {b : Bool} {X Y : Prop} (h : b = true) (x : X) : (b = true → X) ∧ (b = false → Y) := ⟨fun _ => x, fun h1 => by rw [h] at h1; exact Bool.noConfusion h1⟩
theorem br_f {b : Bool} {X Y : Prop} (h : b = false) (y : Y) : (b = true → X) ∧ (b = false → Y) := ⟨fun h1 => by rw [h] at h1; exact Bool.noConfusion h1, fun _ => y⟩
theorem br_2 {b : Bool} {X Y : Prop} (x : b = true → X) (y : b = false → Y) : (b = true → X) ∧ (b = false → Y) := ⟨x, y⟩
theorem br_i {b : Bool} {X Y : Prop} (h : if b then X else Y) : (b = true → X) ∧ (b = false → Y) := by cases b <;> simpa using h
theorem ex_at {α : Type} {o : Option α} {P : α → Prop} {v : α} (h : o = some v) (p : P v) : ∃ v, o = some v ∧ P v := ⟨v, h, p⟩
theorem bnt {b : Bool} (h : b = false) : (!b) = true := by rw [h]; rfl
theorem bnf {b : Bool} (h : b = true) : (!b) = false := by rw [h]; rfl
theorem len_lit {n : Nat} (h : Nat.ble n 1000 = true) : n ≤ sizeLine := Nat.le_trans (Nat.le_of_ble_eq_true h) (by decide)
theorem pos_lit {j : Int} (h : decide (0 < j) = true) : 0 < j := of_decide_eq_true h
theorem div_lit {j : Int} (h : (decide (0 < j) && decide (j.natAbs < 2 ^ 200)) = true) : 0 < j ∧ j.natAbs < 2 ^ 9000 := by
  rw [Bool.and_eq_true] at h
  exact ⟨of_decide_eq_true h.1, Nat.lt_of_lt_of_le (of_decide_eq_true h.2) (Nat.pow_le_pow_right (by decide) (by decide))⟩
section
variable {m : Tg} {C A : Ex} {vs : List Nat} {gd : Sto → Prop} {env : En} {st : Sto} {Q : List D → Sto → Prop}
theorem cmpD_inv {xs : List T} (I : Nat → List D → Sto → Prop) (hl : xs.length ≤ sizeLine) (h0 : I 0 [] st) (hg : ∀ j ds s, I j ds s → gd s)
    (turn : ∀ j x ds s, xs[j]? = some x → ds.length ≤ j → I j ds s → kilK vs env fun e0 => m.run x e0 s fun e s => C.run e s (fun b s1 => isB s1 (fun b s1 => (b = true → A.run e s1 (fun v s2 => isD (fun d => I (j + 1) (ds ++ [d]) s2) v) noZ) ∧ (b = false → I (j + 1) ds s1)) b) noZ)
    (fin : ∀ ds s, I xs.length ds s → Q ds s) : cmpD m C A vs gd xs env st [] Q := by
  have key : ∀ (n j : Nat) (ds : List D) (s : Sto), n = xs.length - j → j ≤ xs.length → ds.length ≤ j → I j ds s → cmpD m C A vs gd (xs.drop j) env s ds Q := by
    intro n
    induction n with
    | zero =>
      intro j ds s hn hj _ h
      have : j = xs.length := by omega
      subst this
      rw [List.drop_of_length_le (Nat.le_refl _)]
      exact ⟨hg _ _ _ h, fin _ _ h⟩
    | succ n ih =>
      intro j ds s hn hj hd h
      have hlt : j < xs.length := by omega
      rw [List.drop_eq_getElem_cons hlt]
      refine ⟨hg _ _ _ h, kilK_mono (fun _ h1 => m.mono (fun _ _ h2 => C.mono (fun _ _ h3 => isB_mono (fun _ _ h4 => ⟨fun z => A.mono (fun _ _ h5 => isD_mono (fun d h6 => ⟨by omega, ih (j + 1) _ _ (by omega) (by omega) (by rw [List.length_append]; exact Nat.succ_le_succ hd) h6⟩) h5) (fun _ _ _ q => q) (h4.1 z), fun z => ih (j + 1) _ _ (by omega) (by omega) (by omega) (h4.2 z)⟩) h3) (fun _ _ _ q => q) h2) h1) (turn j _ ds s (List.getElem?_eq_getElem hlt) hd h)⟩
  exact key _ 0 [] st rfl (Nat.zero_le _) (Nat.le_refl _) h0
/-- one that changes nothing -/
theorem cmpD_pure {xs : List T} (f : T → D) (hl : xs.length ≤ sizeLine) (hg : gd st)
    (turn : ∀ x, x ∈ xs → kilK vs env fun e0 => m.run x e0 st fun e s => C.run e s (fun b s1 => isB s1 (fun b s1 => (b = true → A.run e s1 (fun v s2 => isD (fun d => d = f x ∧ s2 = st) v) noZ) ∧ (b = false → False)) b) noZ)
    (fin : Q (xs.map f) st) : cmpD m C A vs gd xs env st [] Q := by
  refine cmpD_inv (fun j ds s => s = st ∧ ds = (xs.take j).map f) hl ⟨rfl, rfl⟩ (fun j ds s h => h.1 ▸ hg) (fun j x ds s hx _ h => ?_) (fun ds s h => ?_)
  · obtain ⟨rfl, rfl⟩ := h
    refine kilK_mono (fun _ h1 => m.mono (fun _ _ h2 => C.mono (fun _ _ h3 => isB_mono (fun _ _ h4 => ⟨fun z => A.mono (fun _ _ h5 => isD_mono (fun d h6 => ⟨h6.2, ?_⟩) h5) (fun _ _ _ q => q) (h4.1 z), fun z => (h4.2 z).elim⟩) h3) (fun _ _ _ q => q) h2) h1) (turn x (List.mem_of_getElem? hx))
    rw [h6.1, List.take_succ, hx, List.map_append]
    rfl
  · obtain ⟨rfl, rfl⟩ := h
    rw [List.take_length]; exact fin
end
theorem atD_get {α : Type} {xs : List α} {i : Int} (h0 : 0 ≤ i) (h1 : i < xs.length) : ∃ v, atD xs i = some v ∧ v ∈ xs ∧ xs[i.toNat]? = some v := by
  have e : ixN xs.length i = some i.toNat := by
    unfold ixN
    split <;> simp_all <;> omega
  have hlt : i.toNat < xs.length := by omega
  refine ⟨xs[i.toNat], ?_, List.getElem_mem hlt, List.getElem?_eq_getElem hlt⟩
  unfold atD
  rw [e]
  exact List.getElem?_eq_getElem hlt
theorem rgT_at {lo : Int} {n j : Nat} {x : T} (h : (rgT lo n)[j]? = some x) : j < n ∧ x = .d (.int (lo + j)) := by
  unfold rgT at h
  rw [List.getElem?_map] at h
  obtain ⟨k, hk, rfl⟩ := Option.map_eq_some_iff.mp h
  obtain ⟨hlt, rfl⟩ := List.getElem?_eq_some_iff.mp hk
  rw [List.length_range] at hlt
  exact ⟨hlt, by rw [List.getElem_range]⟩
theorem rgT_ln {lo : Int} {n : Nat} : (rgT lo n).length = n := by unfold rgT; rw [List.length_map, List.length_range]
/-- a walk over a range -/
theorem forL_rng {g : Tg} {B : Cmd} {gd : Sto → Prop} {lo : Int} {n : Nat} {env : En} {st : Sto} {k : Kont} (I : Nat → En → Sto → Prop) (h0 : I 0 env st) (hg : ∀ j e s, I j e s → gd s)
    (turn : ∀ j e s, j < n → I j e s → g.run (.d (.int (lo + j))) e s fun e s => B.run e s { nx := I (j + 1), rt := k.rt, bk := k.nx, ct := I (j + 1), ex := k.ex }) (fin : ∀ e s, I n e s → k.nx e s) : forL g B gd (rgT lo n) env st k :=
  forL_inv I h0 hg (fun j x e s hx h => by obtain ⟨hj, rfl⟩ := rgT_at hx; exact turn j e s hj h) (by rw [rgT_ln]; exact fin)
theorem dT_at {ds : List D} {j : Nat} {x : T} (h : (dT ds)[j]? = some x) : ∃ d, ds[j]? = some d ∧ x = .d d := by
  rw [dT_map, List.getElem?_map] at h
  obtain ⟨k, hk, rfl⟩ := Option.map_eq_some_iff.mp h
  exact ⟨k, hk, rfl⟩
theorem dT_ln {ds : List D} : (dT ds).length = ds.length := by rw [dT_map, List.length_map]
/-- a walk over data -/
theorem forL_d {g : Tg} {B : Cmd} {gd : Sto → Prop} {ds : List D} {env : En} {st : Sto} {k : Kont} (I : Nat → En → Sto → Prop) (h0 : I 0 env st) (hg : ∀ j e s, I j e s → gd s)
    (turn : ∀ j d e s, ds[j]? = some d → I j e s → g.run (.d d) e s fun e s => B.run e s { nx := I (j + 1), rt := k.rt, bk := k.nx, ct := I (j + 1), ex := k.ex }) (fin : ∀ e s, I ds.length e s → k.nx e s) : forL g B gd (dT ds) env st k :=
  forL_inv I h0 hg (fun j x e s hx h => by obtain ⟨d, hd, rfl⟩ := dT_at hx; exact turn j d e s hd h) (by rw [dT_ln]; exact fin)
section
variable {m : Tg} {C A : Ex} {vs : List Nat} {gd : Sto → Prop} {env : En} {st : Sto} {Q : List D → Sto → Prop}
theorem cmpD_rng {lo : Int} {n : Nat} (f : Nat → D) (hl : n ≤ sizeLine) (hg : gd st)
    (turn : ∀ j : Nat, j < n → kilK vs env fun e0 => m.run (.d (.int (lo + j))) e0 st fun e s => C.run e s (fun b s1 => isB s1 (fun b s1 => (b = true → A.run e s1 (fun v s2 => isD (fun d => d = f j ∧ s2 = st) v) noZ) ∧ (b = false → False)) b) noZ)
    (fin : Q ((List.range n).map f) st) : cmpD m C A vs gd (rgT lo n) env st [] Q := by
  have e : ((rgT lo n).map fun t => match t with | .d (.int i) => f (i - lo).toNat | _ => .non) = (List.range n).map f := by
    unfold rgT
    rw [List.map_map]
    refine List.map_congr_left fun k _ => ?_
    show f (lo + (k : Int) - lo).toNat = f k
    congr 1; omega
  refine cmpD_pure (fun t => match t with | .d (.int i) => f (i - lo).toNat | _ => .non) (by rw [rgT_len]; exact hl) hg (fun x hx => ?_) (by rw [e]; exact fin)
  obtain ⟨k, hk, rfl⟩ := List.mem_map.mp hx
  have := turn k (List.mem_range.mp hk)
  have e2 : (lo + (k : Int) - lo).toNat = k := by omega
  simp only [e2]
  exact this
/-- one over data -/
theorem cmpD_dt {ds : List D} (f : D → D) (hl : ds.length ≤ sizeLine) (hg : gd st)
    (turn : ∀ d, d ∈ ds → kilK vs env fun e0 => m.run (.d d) e0 st fun e s => C.run e s (fun b s1 => isB s1 (fun b s1 => (b = true → A.run e s1 (fun v s2 => isD (fun y => y = f d ∧ s2 = st) v) noZ) ∧ (b = false → False)) b) noZ)
    (fin : Q (ds.map f) st) : cmpD m C A vs gd (dT ds) env st [] Q := by
  have e : ((dT ds).map fun t => match t with | .d x => f x | _ => .non) = ds.map f := by rw [dT_map, List.map_map]; rfl
  refine cmpD_pure (fun t => match t with | .d x => f x | _ => .non) (by rw [dT_ln]; exact hl) hg (fun x hx => ?_) (by rw [e]; exact fin)
  rw [dT_map] at hx
  obtain ⟨k, hk, rfl⟩ := List.mem_map.mp hx
  exact turn k hk
end
theorem eqq_int (i : Int) : (D.int i).eqq (.int i) = true := decide_eq_true rfl
theorem len_rng {n : Nat} (h : n ≤ sizeLine) : -2 ^ 62 ≤ (n : Int) ∧ (n : Int) < 2 ^ 62 := by
  have e : sizeLine = 16777216 := by decide
  omega
end Sy

set_option Elab.async false
set_option linter.all false
set_option maxRecDepth 100000
set_option maxHeartbeats 4000000
namespace Sy
open PySem PySem.Spec PyProof.Rows L2
noncomputable section
def l_anew_1 (self : Fd) : Cmd := (sKil [1] (sIf (eNot (eIsI .int (eVar 1))) (sRet (eCallB bTuple (aCons (eF (lComp (gName 2) (wSeq (eVar 0)) (eD (.bl true)) (eCall self (aCons (eVar 2) aNil)) [2])) aNil))) sNil))
def b_anew (self : Fd) : Cmd := (sCons (sKil [2] (sIf (eIsI .tup (eVar 0)) (sCons (sKil0 [1] (sFor (gName 1) (wSeq (eVar 0)) (l_anew_1 self))) (sRet (eTup (aStar (eVar 0) aNil)))) sNil)) (sCons (sKil [1] (sIf (eIsI .lst (eVar 0)) (sRet (eF (lComp (gName 1) (wSeq (eVar 0)) (eD (.bl true)) (eIf (eIsI .int (eVar 1)) (eVar 1) (eCall self (aCons (eVar 1) aNil))) [1]))) sNil)) (sRet (eVar 0))))
def f_anew : Nat → Fd
  | 0 => fdBot
  | n + 1 => sealF 1 (fnD 1 [(), ()] (b_anew (f_anew n)))
theorem f_anew_eq (n : Nat) : f_anew (n + 1) = fnD 1 [(), ()] (b_anew (f_anew n)) := sealF_eq _ _
def b_is_shelf : Cmd := (sCons (sIf (eOr (eNot (eIsI .tup (eVar 0))) (eBin oNe (eCallB bLen (aCons (eVar 0) aNil)) (eD (.int 3)))) (sRet (eD (.bl false))) sNil) (sCons (sAsg (gTup 3 (gCons (gName 1) (gCons (gName 2) (gCons (gName 3) gNil)))) (eVar 0)) (sCons (sIf (eOr (eNot (eIsI .int (eVar 1))) (eOr (eIsI .bl (eVar 1)) (eNot (eChain oLe oLe (eD (.int 2)) (eVar 1) (eD (.int 4)))))) (sRet (eD (.bl false))) sNil) (sCons (sIf (eOr (eNot (eIsI .tup (eVar 2))) (eNot (eIsI .tup (eVar 3)))) (sRet (eD (.bl false))) sNil) (sRet (eAnd (eChain oLe oLe (eD (.int 1)) (eCallB bLen (aCons (eVar 2) aNil)) (eD (.int 64))) (eBin oEq (eCallB bLen (aCons (eVar 3) aNil)) (eCallB bLen (aCons (eVar 2) aNil)))))))))
@[irreducible] def f_is_shelf : Fd := sealF 2 (fnD 1 [(), (), ()] b_is_shelf)
theorem f_is_shelf_eq : f_is_shelf = fnD 1 [(), (), ()] b_is_shelf := by unfold f_is_shelf; exact sealF_eq _ _
def l_are_shades_1 : Cmd := (sKil [0, 1] (sIf (eOr (eBin oIs (eVar 1) (eD (.bl true))) (eOr (eBin oIs (eVar 1) (eD (.bl false))) (eOr (eNot (eIsI .int (eVar 1))) (eOr (eBin oLt (eVar 1) (eD (.int 0))) (eBin oGt (eVar 1) (eD (.int 3))))))) (sRet (eD (.bl false))) sNil))
def b_are_shades : Cmd := (sCons (sKil0 [1] (sFor (gName 1) (wSeq (eVar 0)) l_are_shades_1)) (sRet (eD (.bl true))))
@[irreducible] def f_are_shades : Fd := sealF 3 (fnD 1 [()] b_are_shades)
theorem f_are_shades_eq : f_are_shades = fnD 1 [()] b_are_shades := by unfold f_are_shades; exact sealF_eq _ _
def l_are_blocks_3 : Cmd := (sKil [0, 3, 4, 5] (sIf (eOr (eBin oIs (eVar 5) (eD (.bl true))) (eOr (eBin oIs (eVar 5) (eD (.bl false))) (eOr (eNot (eIsI .int (eVar 5))) (eOr (eBin oLt (eVar 5) (eD (.int 0))) (eBin oGe (eVar 5) (eVar 2)))))) (sRet (eD (.bl false))) sNil))
def l_are_blocks_2 : Cmd := (sKil [0, 3, 4, 5] (sCons (sIf (eOr (eNot (eIsI .tup (eVar 4))) (eBin oNe (eCallB bLen (aCons (eVar 4) aNil)) (eVar 1))) (sRet (eD (.bl false))) sNil) (sKil0 [0, 3, 5] (sFor (gName 5) (wSeq (eVar 4)) l_are_blocks_3))))
def l_are_blocks_1 : Cmd := (sKil [0, 3, 4, 5] (sCons (sIf (eOr (eNot (eIsI .tup (eVar 3))) (eBin oNe (eCallB bLen (aCons (eVar 3) aNil)) (eVar 1))) (sRet (eD (.bl false))) sNil) (sKil0 [0, 4, 5] (sFor (gName 4) (wSeq (eVar 3)) l_are_blocks_2))))
def b_are_blocks : Cmd := (sCons (sSet 2 (eCallB bLen (aCons (eVar 0) aNil))) (sCons (sKil0 [3, 4, 5] (sFor (gName 3) (wSeq (eVar 0)) l_are_blocks_1)) (sRet (eD (.bl true)))))
@[irreducible] def f_are_blocks : Fd := sealF 4 (fnD 2 [(), (), (), ()] b_are_blocks)
theorem f_are_blocks_eq : f_are_blocks = fnD 2 [(), (), (), ()] b_are_blocks := by unfold f_are_blocks; exact sealF_eq _ _
def b_is_int : Cmd := (sRet (eAnd (eIsI .int (eVar 0)) (eNot (eIsI .bl (eVar 0)))))
@[irreducible] def f_is_int : Fd := sealF 5 (fnD 1 [] b_is_int)
theorem f_is_int_eq : f_is_int = fnD 1 [] b_is_int := by unfold f_is_int; exact sealF_eq _ _
def b_is_picture : Cmd := (sCons (sIf (eOr (eNot (eIsI .tup (eVar 0))) (eBin oNe (eCallB bLen (aCons (eVar 0) aNil)) (eD (.int 2)))) (sRet (eD (.bl false))) sNil) (sCons (sAsg (gTup 2 (gCons (gName 1) (gCons (gName 2) gNil))) (eVar 0)) (sCons (sIf (eOr (eNot (eCall f_is_shelf (aCons (eVar 1) aNil))) (eOr (eNot (eCall f_is_int (aCons (eVar 2) aNil))) (eNot (eChain oLe oLt (eD (.int 0)) (eVar 2) (eCallB bLen (aCons (eBin oIx (eVar 1) (eD (.int 1))) aNil)))))) (sRet (eD (.bl false))) sNil) (sRet (eAnd (eCall f_are_shades (aCons (eBin oIx (eVar 1) (eD (.int 1))) aNil)) (eCall f_are_blocks (aCons (eBin oIx (eVar 1) (eD (.int 2))) (aCons (eBin oIx (eVar 1) (eD (.int 0))) aNil))))))))
@[irreducible] def f_is_picture : Fd := sealF 6 (fnD 1 [(), ()] b_is_picture)
theorem f_is_picture_eq : f_is_picture = fnD 1 [(), ()] b_is_picture := by unfold f_is_picture; exact sealF_eq _ _
def b_check_picture : Cmd := (sIf (eNot (eCall f_is_picture (aCons (eVar 0) aNil))) (sRaise 1 (eCall (f_anew 8) (aCons (eVar 0) aNil))) sNil)
@[irreducible] def f_check_picture : Fd := sealF 7 (fnD 1 [] b_check_picture)
theorem f_check_picture_eq : f_check_picture = fnD 1 [] b_check_picture := by unfold f_check_picture; exact sealF_eq _ _
def b_check_depth : Cmd := (sIf (eBin oLt (eVar 0) (eD (.int 0))) (sRaise 4 (eVar 0)) sNil)
@[irreducible] def f_check_depth : Fd := sealF 8 (fnD 1 [] b_check_depth)
theorem f_check_depth_eq : f_check_depth = fnD 1 [] b_check_depth := by unfold f_check_depth; exact sealF_eq _ _
def l_side_of_1 : Cmd := (sKil [0] (sCons (sIf (eBin oEq (eBin oMod (eVar 1) (eD (.int 2))) (eD (.int 1))) (sSet 2 (eBin oMul (eVar 2) (eVar 3))) sNil) (sCons (sSet 3 (eBin oMul (eVar 3) (eVar 3))) (sSet 1 (eBin oDiv (eVar 1) (eD (.int 2)))))))
def b_side_of : Cmd := (sCons (sSet 2 (eD (.int 1))) (sCons (sSet 3 (eVar 0)) (sCons (sKil0 [0] (sWhile (eBin oGt (eVar 1) (eD (.int 0))) l_side_of_1)) (sRet (eVar 2)))))
@[irreducible] def f_side_of : Fd := sealF 9 (fnD 2 [(), ()] b_side_of)
theorem f_side_of_eq : f_side_of = fnD 2 [(), ()] b_side_of := by unfold f_side_of; exact sealF_eq _ _
def b_check_place : Cmd := (sCons (sSet 4 (eCall f_side_of (aCons (eVar 0) (aCons (eVar 1) aNil)))) (sIf (eNot (eAnd (eChain oLe oLt (eD (.int 0)) (eVar 2) (eVar 4)) (eChain oLe oLt (eD (.int 0)) (eVar 3) (eVar 4)))) (sRaise 7 (eTup (aCons (eVar 2) (aCons (eVar 3) aNil)))) sNil))
@[irreducible] def f_check_place : Fd := sealF 10 (fnD 4 [()] b_check_place)
theorem f_check_place_eq : f_check_place = fnD 4 [()] b_check_place := by unfold f_check_place; exact sealF_eq _ _
def l_figures_of_1 : Cmd := (sKil [1, 4] (sCons (sExpr (eAppend (eVar 3) (eBin oMod (eVar 2) (eVar 0)))) (sSet 2 (eBin oDiv (eVar 2) (eVar 0)))))
def b_figures_of : Cmd := (sCons (sSet 3 (eM (lDisp aNil))) (sCons (sKil0 [4] (sFor (gName 4) (wRange1 (eVar 1)) l_figures_of_1)) (sCons (sExpr (eReverse (eVar 3))) (sRet (eFz (eVar 3))))))
@[irreducible] def f_figures_of : Fd := sealF 11 (fnD 3 [(), ()] b_figures_of)
theorem f_figures_of_eq : f_figures_of = fnD 3 [(), ()] b_figures_of := by unfold f_figures_of; exact sealF_eq _ _
def l_found_letter_1 : Cmd := (sKil [0, 1, 2, 3, 4, 5, 8, 9] (sSet 7 (eBin oIx (eBin oIx (eBin oIx (eVar 6) (eVar 7)) (eVar 8)) (eVar 9))))
def b_found_letter : Cmd := (sCons (sAsg (gTup 3 (gCons (gName 4) (gCons (gName 5) (gCons (gName 6) gNil)))) (eBin oIx (eVar 0) (eD (.int 0)))) (sCons (sSet 7 (eBin oIx (eVar 0) (eD (.int 1)))) (sCons (sKil0 [0, 5, 8, 9] (sFor (gTup 2 (gCons (gName 8) (gCons (gName 9) gNil))) (wZip (eCall f_figures_of (aCons (eVar 4) (aCons (eVar 1) (aCons (eVar 2) aNil)))) (eCall f_figures_of (aCons (eVar 4) (aCons (eVar 1) (aCons (eVar 3) aNil))))) l_found_letter_1)) (sRet (eVar 7)))))
@[irreducible] def f_found_letter : Fd := sealF 12 (fnD 4 [(), (), (), (), (), ()] b_found_letter)
theorem f_found_letter_eq : f_found_letter = fnD 4 [(), (), (), (), (), ()] b_found_letter := by unfold f_found_letter; exact sealF_eq _ _
def b_letter_at : Cmd := (sCons (sExpr (eCall f_check_picture (aCons (eVar 0) aNil))) (sCons (sExpr (eCall f_check_depth (aCons (eVar 1) aNil))) (sCons (sExpr (eCall f_check_place (aCons (eBin oIx (eBin oIx (eVar 0) (eD (.int 0))) (eD (.int 0))) (aCons (eVar 1) (aCons (eVar 2) (aCons (eVar 3) aNil)))))) (sRet (eCall f_found_letter (aCons (eVar 0) (aCons (eVar 1) (aCons (eVar 2) (aCons (eVar 3) aNil)))))))))
@[irreducible] def f_letter_at : Fd := sealF 13 (fnD 4 [] b_letter_at)
theorem f_letter_at_eq : f_letter_at = fnD 4 [] b_letter_at := by unfold f_letter_at; exact sealF_eq _ _
def b_shade_at : Cmd := (sCons (sSet 4 (eCall f_letter_at (aCons (eVar 0) (aCons (eVar 1) (aCons (eVar 2) (aCons (eVar 3) aNil)))))) (sRet (eBin oIx (eBin oIx (eBin oIx (eVar 0) (eD (.int 0))) (eD (.int 1))) (eVar 4))))
@[irreducible] def f_shade_at : Fd := sealF 14 (fnD 4 [()] b_shade_at)
theorem f_shade_at_eq : f_shade_at = fnD 4 [()] b_shade_at := by unfold f_shade_at; exact sealF_eq _ _
def b_part : Cmd := (sCons (sSet 4 (eCall f_letter_at (aCons (eVar 0) (aCons (eVar 1) (aCons (eVar 2) (aCons (eVar 3) aNil)))))) (sRet (eTup (aCons (eBin oIx (eVar 0) (eD (.int 0))) (aCons (eVar 4) aNil)))))
@[irreducible] def f_part : Fd := sealF 15 (fnD 4 [()] b_part)
theorem f_part_eq : f_part = fnD 4 [()] b_part := by unfold f_part; exact sealF_eq _ _
def b_ink_l : Cmd := (sCons (sSet 2 (eAdd (eAdd (eBin oMul (eD (.int 31)) (eVar 1)) (eD (.int 7))) (eCallB bLen (aCons (eVar 0) aNil)))) (sCons (sIf (eBin oLt (eVar 1) (eCallB bLen (aCons (eVar 0) aNil))) (sSet 2 (eBin oIx (eVar 0) (eVar 1))) sNil) (sCons (sSet 3 (eCallB bSum (aCons (eF (lComp (gName 4) (wSeq (eVar 0)) (eD (.bl true)) (eBin oMod (eCallB bInt (aCons (eVar 4) aNil)) (eAdd (eBin oPow (eD (.int 10)) (eD (.int 21))) (eD (.int 117)))) [4])) aNil))) (sCons (sSet 5 (eBin oMod (eCallB bInt (aCons (eAdd (eAdd (eBin oMul (eVar 2) (eD (.int 15485867))) (eBin oMul (eVar 3) (eD (.int 2750159)))) (eBin oMul (eVar 1) (eD (.int 7368787)))) aNil)) (eAdd (eBin oPow (eD (.int 10)) (eD (.int 27))) (eD (.int 103))))) (sRet (eM (lDisp (aCons (eCallB bMax2 (aCons (eD (.int 0)) (aCons (eBin oSub (eCallB bAbs (aCons (eVar 2) aNil)) (eBin oPow (eD (.int 10)) (eD (.int 18)))) aNil))) (aCons (eVar 5) (aCons (eD (.int 0)) aNil))))))))))
@[irreducible] def f_ink_l : Fd := sealF 16 (fnD 2 [(), (), (), ()] b_ink_l)
theorem f_ink_l_eq : f_ink_l = fnD 2 [(), (), (), ()] b_ink_l := by unfold f_ink_l; exact sealF_eq _ _
def b_drip_l : Cmd := (sCons (sKil [2] (sIf (eBin oGt (eBin oIx (eVar 0) (eD (.int 0))) (eD (.int 0))) (sCons (sSet 2 (eBin oMod (eCallB bInt (aCons (eBin oIx (eVar 0) (eD (.int 0))) aNil)) (eVar 1))) (sCons (sAsg (gItem (eVar 0) (eD (.int 0))) (eBin oDiv (eBin oIx (eVar 0) (eD (.int 0))) (eVar 1))) (sRet (eVar 2)))) sNil)) (sCons (sAsg (gItem (eVar 0) (eD (.int 2))) (eAdd (eBin oIx (eVar 0) (eD (.int 2))) (eD (.int 1)))) (sCons (sSet 3 (eBin oMod (eCallB bInt (aCons (eBin oPow (eAdd (eBin oIx (eVar 0) (eD (.int 1))) (eBin oMul (eD (.int 32452867)) (eBin oIx (eVar 0) (eD (.int 2))))) (eD (.int 3))) aNil)) (eAdd (eBin oPow (eD (.int 10)) (eD (.int 29))) (eD (.int 319))))) (sRet (eBin oMod (eBin oDiv (eBin oMod (eCallB bInt (aCons (eBin oMul (eVar 3) (eAdd (eVar 3) (eD (.int 7643)))) aNil)) (eAdd (eBin oPow (eD (.int 10)) (eD (.int 28))) (eD (.int 331)))) (eD (.int 5471))) (eVar 1))))))
@[irreducible] def f_drip_l : Fd := sealF 17 (fnD 2 [(), ()] b_drip_l)
theorem f_drip_l_eq : f_drip_l = fnD 2 [(), ()] b_drip_l := by unfold f_drip_l; exact sealF_eq _ _
def b_same_l (self : Fd) : Cmd := (sCons (sKil [2] (sIf (eIsI2 .tup .lst (eVar 1)) (sCons (sIf (eOr (eBin oNe (eIsI .tup (eVar 0)) (eIsI .tup (eVar 1))) (eBin oNe (eIsI .lst (eVar 0)) (eIsI .lst (eVar 1)))) (sRet (eD (.bl false))) sNil) (sRet (eAnd (eBin oEq (eCallB bLen (aCons (eVar 0) aNil)) (eCallB bLen (aCons (eVar 1) aNil))) (eCallB bAll (aCons (eF (lComp (gName 2) (wRange1 (eCallB bLen (aCons (eVar 1) aNil))) (eD (.bl true)) (eCall self (aCons (eBin oIx (eVar 0) (eVar 2)) (aCons (eBin oIx (eVar 1) (eVar 2)) aNil))) [2])) aNil))))) sNil)) (sCons (sIf (eBin oIs (eVar 1) (eD .non)) (sRet (eBin oIs (eVar 0) (eD .non))) sNil) (sCons (sIf (eIsI .bl (eVar 1)) (sRet (eAnd (eIsI .bl (eVar 0)) (eBin oEq (eVar 0) (eVar 1)))) sNil) (sRet (eAnd (eIsI .int (eVar 0)) (eAnd (eNot (eIsI .bl (eVar 0))) (eBin oEq (eVar 0) (eVar 1))))))))
def f_same_l : Nat → Fd
  | 0 => fdBot
  | n + 1 => sealF 18 (fnD 2 [()] (b_same_l (f_same_l n)))
theorem f_same_l_eq (n : Nat) : f_same_l (n + 1) = fnD 2 [()] (b_same_l (f_same_l n)) := sealF_eq _ _
def l_order_l_1 : Cmd := (sKil [1, 4] (sExpr (eAppend (eVar 3) (ePopI (eVar 2) (eCall f_drip_l (aCons (eVar 0) (aCons (eCallB bLen (aCons (eVar 2) aNil)) aNil)))))))
def b_order_l : Cmd := (sCons (sSet 2 (eM (lRange (eVar 1)))) (sCons (sSet 3 (eM (lDisp aNil))) (sCons (sKil0 [4] (sFor (gName 4) (wRange1 (eVar 1)) l_order_l_1)) (sRet (eFz (eVar 3))))))
@[irreducible] def f_order_l : Fd := sealF 19 (fnD 2 [(), (), ()] b_order_l)
theorem f_order_l_eq : f_order_l = fnD 2 [(), (), ()] b_order_l := by unfold f_order_l; exact sealF_eq _ _
def b_shades_l : Cmd := (sCons (sSet 2 (eCall f_drip_l (aCons (eVar 0) (aCons (eD (.int 4)) aNil)))) (sCons (sSet 3 (eCall f_drip_l (aCons (eVar 0) (aCons (eD (.int 4)) aNil)))) (sCons (sSet 4 (eCall f_drip_l (aCons (eVar 0) (aCons (eD (.int 4)) aNil)))) (sCons (sSet 5 (eM (lRep (eM (lDisp (aCons (eVar 3) aNil))) (eVar 1)))) (sCons (sKil [6] (sIf (eBin oEq (eVar 2) (eD (.int 0))) (sSet 5 (eM (lComp (gName 6) (wRange1 (eVar 1)) (eD (.bl true)) (eCall f_drip_l (aCons (eVar 0) (aCons (eD (.int 4)) aNil))) [6]))) sNil)) (sCons (sKil [6] (sIf (eBin oEq (eVar 2) (eD (.int 1))) (sSet 5 (eM (lComp (gName 6) (wRange1 (eVar 1)) (eD (.bl true)) (eBin oIx (eF (lDisp (aCons (eVar 3) (aCons (eVar 4) aNil)))) (eCall f_drip_l (aCons (eVar 0) (aCons (eD (.int 2)) aNil)))) [6]))) sNil)) (sCons (sIf (eBin oEq (eVar 2) (eD (.int 2))) (sAsg (gItem (eVar 5) (eCall f_drip_l (aCons (eVar 0) (aCons (eVar 1) aNil)))) (eVar 4)) sNil) (sCons (sIf (eBin oEq (eVar 2) (eD (.int 3))) (sAsg (gItem (eVar 5) (eBin oSub (eVar 1) (eD (.int 1)))) (eVar 4)) sNil) (sRet (eCallB bTuple (aCons (eFz (eVar 5)) aNil)))))))))))
@[irreducible] def f_shades_l : Fd := sealF 20 (fnD 2 [(), (), (), (), ()] b_shades_l)
theorem f_shades_l_eq : f_shades_l = fnD 2 [(), (), (), (), ()] b_shades_l := by unfold f_shades_l; exact sealF_eq _ _
def l_block_l_1 : Cmd := (sKil [7, 8] (sCons (sSet 8 (eVar 5)) (sCons (sIf (eBin oEq (eVar 1) (eD (.int 0))) (sSet 8 (eCall f_drip_l (aCons (eVar 0) (aCons (eVar 3) aNil)))) sNil) (sCons (sIf (eBin oEq (eVar 1) (eD (.int 1))) (sSet 8 (eCallB bMin2 (aCons (eBin oSub (eVar 3) (eD (.int 1))) (aCons (eAdd (eVar 2) (eCall f_drip_l (aCons (eVar 0) (aCons (eD (.int 2)) aNil)))) aNil)))) sNil) (sCons (sIf (eBin oEq (eVar 1) (eD (.int 2))) (sSet 8 (eBin oMod (eCallB bInt (aCons (eAdd (eVar 2) (eD (.int 1))) aNil)) (eVar 3))) sNil) (sCons (sIf (eBin oEq (eVar 1) (eD (.int 3))) (sSet 8 (eBin oIx (eF (lDisp (aCons (eVar 5) (aCons (eVar 2) aNil)))) (eCall f_drip_l (aCons (eVar 0) (aCons (eD (.int 2)) aNil))))) sNil) (sExpr (eAppend (eVar 6) (eVar 8)))))))))
def b_block_l : Cmd := (sCons (sSet 5 (eCall f_drip_l (aCons (eVar 0) (aCons (eVar 3) aNil)))) (sCons (sSet 6 (eM (lDisp aNil))) (sCons (sKil0 [7, 8] (sFor (gName 7) (wRange1 (eBin oMul (eVar 4) (eVar 4))) l_block_l_1)) (sCons (sIf (eAnd (eBin oGt (eVar 1) (eD (.int 0))) (eBin oEq (eCall f_drip_l (aCons (eVar 0) (aCons (eD (.int 4)) aNil))) (eD (.int 0)))) (sAsg (gItem (eVar 6) (eCall f_drip_l (aCons (eVar 0) (aCons (eBin oMul (eVar 4) (eVar 4)) aNil)))) (eCall f_drip_l (aCons (eVar 0) (aCons (eVar 3) aNil)))) sNil) (sRet (eCallB bTuple (aCons (eF (lComp (gName 9) (wRange1 (eVar 4)) (eD (.bl true)) (eCallB bTuple (aCons (eCut (eVar 6) (oSome (eBin oMul (eVar 4) (eVar 9))) (oSome (eAdd (eBin oMul (eVar 4) (eVar 9)) (eVar 4)))) aNil)) [9])) aNil)))))))
@[irreducible] def f_block_l : Fd := sealF 21 (fnD 5 [(), (), (), (), ()] b_block_l)
theorem f_block_l_eq : f_block_l = fnD 5 [(), (), (), (), ()] b_block_l := by unfold f_block_l; exact sealF_eq _ _
def l_renamed_l_1 : Cmd := (sKil [3] (sExpr (eAppend (eVar 4) (eCallB bTuple (aCons (eF (lComp (gName 7) (wSeq (eBin oIx (eBin oIx (eVar 0) (eD (.int 2))) (eVar 5))) (eD (.bl true)) (eCallB bTuple (aCons (eF (lComp (gName 6) (wSeq (eVar 7)) (eD (.bl true)) (eBin oIx (eVar 1) (eVar 6)) [6])) aNil)) [7])) aNil)))))
def b_renamed_l : Cmd := (sCons (sSet 2 (eF (lComp (gName 3) (wRange1 (eCallB bLen (aCons (eVar 1) aNil))) (eD (.bl true)) (eIndex' (eVar 1) (eVar 3)) [3]))) (sCons (sSet 4 (eM (lDisp aNil))) (sCons (sKil0 [3] (sFor (gName 5) (wSeq (eVar 2)) l_renamed_l_1)) (sRet (eTup (aCons (eBin oIx (eVar 0) (eD (.int 0))) (aCons (eCallB bTuple (aCons (eF (lComp (gName 5) (wSeq (eVar 2)) (eD (.bl true)) (eBin oIx (eBin oIx (eVar 0) (eD (.int 1))) (eVar 5)) [5])) aNil)) (aCons (eCallB bTuple (aCons (eFz (eVar 4)) aNil)) aNil))))))))
@[irreducible] def f_renamed_l : Fd := sealF 22 (fnD 2 [(), (), (), (), (), ()] b_renamed_l)
theorem f_renamed_l_eq : f_renamed_l = fnD 2 [(), (), (), (), (), ()] b_renamed_l := by unfold f_renamed_l; exact sealF_eq _ _
def b_book_l : Cmd := (sCons (sSet 3 (eAdd (eD (.int 1)) (eCall f_drip_l (aCons (eVar 0) (aCons (eVar 2) aNil))))) (sCons (sSet 4 (eCall f_drip_l (aCons (eVar 0) (aCons (eD (.int 5)) aNil)))) (sCons (sSet 5 (eF (lComp (gName 6) (wRange1 (eVar 3)) (eD (.bl true)) (eCall f_block_l (aCons (eVar 0) (aCons (eVar 4) (aCons (eVar 6) (aCons (eVar 3) (aCons (eVar 1) aNil)))))) [6]))) (sRet (eCall f_renamed_l (aCons (eTup (aCons (eVar 1) (aCons (eCall f_shades_l (aCons (eVar 0) (aCons (eVar 3) aNil))) (aCons (eCallB bTuple (aCons (eVar 5) aNil)) aNil)))) (aCons (eCall f_order_l (aCons (eVar 0) (aCons (eVar 3) aNil))) aNil)))))))
@[irreducible] def f_book_l : Fd := sealF 23 (fnD 3 [(), (), (), ()] b_book_l)
theorem f_book_l_eq : f_book_l = fnD 3 [(), (), (), ()] b_book_l := by unfold f_book_l; exact sealF_eq _ _
def b_depth_l : Cmd := (sCons (sIf (eBin oEq (eCall f_drip_l (aCons (eVar 0) (aCons (eD (.int 2)) aNil))) (eD (.int 0))) (sRet (eBin oIx (eF (lDisp (aCons (eD (.int 0)) (aCons (eD (.int 1)) (aCons (eD (.int 2)) (aCons (eD (.int 3)) (aCons (eD (.int 17)) (aCons (eD (.int 88)) (aCons (eD (.int 89)) (aCons (eD (.int 90)) aNil)))))))))) (eCall f_drip_l (aCons (eVar 0) (aCons (eD (.int 8)) aNil))))) sNil) (sRet (eCall f_drip_l (aCons (eVar 0) (aCons (eD (.int 91)) aNil)))))
@[irreducible] def f_depth_l : Fd := sealF 24 (fnD 1 [] b_depth_l)
theorem f_depth_l_eq : f_depth_l = fnD 1 [] b_depth_l := by unfold f_depth_l; exact sealF_eq _ _
def b_line_l : Cmd := (sCons (sSet 3 (eCall f_drip_l (aCons (eVar 0) (aCons (eD (.int 3)) aNil)))) (sCons (sKil [4] (sIf (eBin oEq (eVar 3) (eD (.int 0))) (sRet (eF (lComp (gName 4) (wRange1 (eVar 2)) (eD (.bl true)) (eCall f_drip_l (aCons (eVar 0) (aCons (eVar 1) aNil))) [4]))) sNil)) (sCons (sSet 5 (eM (lRep (eM (lDisp (aCons (eCall f_drip_l (aCons (eVar 0) (aCons (eVar 1) aNil))) aNil))) (eVar 2)))) (sCons (sIf (eAnd (eBin oEq (eVar 3) (eD (.int 1))) (eBin oGt (eVar 2) (eD (.int 0)))) (sAsg (gItem (eVar 5) (eCall f_drip_l (aCons (eVar 0) (aCons (eVar 2) aNil)))) (eCall f_drip_l (aCons (eVar 0) (aCons (eVar 1) aNil)))) sNil) (sRet (eFz (eVar 5)))))))
@[irreducible] def f_line_l : Fd := sealF 25 (fnD 3 [(), (), ()] b_line_l)
theorem f_line_l_eq : f_line_l = fnD 3 [(), (), ()] b_line_l := by unfold f_line_l; exact sealF_eq _ _
def l_number_l_1 : Cmd := (sKil [0, 3] (sSet 2 (eAdd (eBin oMul (eVar 2) (eVar 1)) (eVar 3))))
def b_number_l : Cmd := (sCons (sSet 2 (eD (.int 0))) (sCons (sKil0 [3] (sFor (gName 3) (wSeq (eVar 0)) l_number_l_1)) (sRet (eVar 2))))
@[irreducible] def f_number_l : Fd := sealF 26 (fnD 2 [(), ()] b_number_l)
theorem f_number_l_eq : f_number_l = fnD 2 [(), ()] b_number_l := by unfold f_number_l; exact sealF_eq _ _
def l_led_l_1 : Cmd := (sKil [4] (sSet 1 (eBin oIx (eBin oIx (eBin oIx (eBin oIx (eVar 0) (eD (.int 2))) (eVar 1)) (eBin oIx (eVar 2) (eVar 4))) (eBin oIx (eVar 3) (eVar 4)))))
def b_led_l : Cmd := (sCons (sKil0 [4] (sFor (gName 4) (wRange1 (eCallB bLen (aCons (eVar 2) aNil))) l_led_l_1)) (sRet (eVar 1)))
@[irreducible] def f_led_l : Fd := sealF 27 (fnD 4 [()] b_led_l)
theorem f_led_l_eq : f_led_l = fnD 4 [()] b_led_l := by unfold f_led_l; exact sealF_eq _ _
def b_cell_right_l : Cmd := (sCons (sAsg (gTup 2 (gCons (gName 2) (gCons (gName 3) gNil))) (eVar 1)) (sCons (sSet 4 (eCall f_depth_l (aCons (eVar 0) aNil))) (sCons (sSet 5 (eCall f_line_l (aCons (eVar 0) (aCons (eBin oIx (eVar 2) (eD (.int 0))) (aCons (eVar 4) aNil))))) (sCons (sSet 6 (eCall f_line_l (aCons (eVar 0) (aCons (eBin oIx (eVar 2) (eD (.int 0))) (aCons (eVar 4) aNil))))) (sCons (sIf (eBin oEq (eCall f_drip_l (aCons (eVar 0) (aCons (eD (.int 4)) aNil))) (eD (.int 0))) (sSet 6 (eF (lList (eVar 5)))) sNil) (sCons (sPar 7 8 (aCons (eCall f_number_l (aCons (eVar 5) (aCons (eBin oIx (eVar 2) (eD (.int 0))) aNil))) (aCons (eCall f_number_l (aCons (eVar 6) (aCons (eBin oIx (eVar 2) (eD (.int 0))) aNil))) aNil))) (sCons (sSet 9 (eCall f_led_l (aCons (eVar 2) (aCons (eVar 3) (aCons (eVar 5) (aCons (eVar 6) aNil)))))) (sCons (sIf (eNot (eCall (f_same_l 8) (aCons (eCall f_letter_at (aCons (eVar 1) (aCons (eVar 4) (aCons (eVar 7) (aCons (eVar 8) aNil))))) (aCons (eVar 9) aNil)))) (sRet (eD (.bl false))) sNil) (sCons (sIf (eNot (eCall (f_same_l 8) (aCons (eCall f_shade_at (aCons (eVar 1) (aCons (eVar 4) (aCons (eVar 7) (aCons (eVar 8) aNil))))) (aCons (eBin oIx (eBin oIx (eVar 2) (eD (.int 1))) (eVar 9)) aNil)))) (sRet (eD (.bl false))) sNil) (sCons (sIf (eNot (eCall (f_same_l 8) (aCons (eCall f_part (aCons (eVar 1) (aCons (eVar 4) (aCons (eVar 7) (aCons (eVar 8) aNil))))) (aCons (eTup (aCons (eVar 2) (aCons (eVar 9) aNil))) aNil)))) (sRet (eD (.bl false))) sNil) (sCons (sIf (eNot (eCall (f_same_l 8) (aCons (eBin oIx (eCallK f_part (aCons (eVar 1) (aCons (eVar 4) (aCons (eVar 7) (aCons (eVar 8) aNil))))) (eD (.int 1))) (aCons (eVar 9) aNil)))) (sRet (eD (.bl false))) sNil) (sCons (sIf (eNot (eCall (f_same_l 8) (aCons (eCallK f_shade_at (aCons (eVar 1) (aCons (eVar 4) (aCons (eVar 7) (aCons (eVar 8) aNil))))) (aCons (eBin oIx (eBin oIx (eVar 2) (eD (.int 1))) (eVar 9)) aNil)))) (sRet (eD (.bl false))) sNil) (sRet (eCall (f_same_l 8) (aCons (eCallK f_letter_at (aCons (eVar 1) (aCons (eVar 4) (aCons (eVar 7) (aCons (eVar 8) aNil))))) (aCons (eVar 9) aNil))))))))))))))))
@[irreducible] def f_cell_right_l : Fd := sealF 28 (fnD 2 [(), (), (), (), (), (), (), ()] b_cell_right_l)
theorem f_cell_right_l_eq : f_cell_right_l = fnD 2 [(), (), (), (), (), (), (), ()] b_cell_right_l := by unfold f_cell_right_l; exact sealF_eq _ _
def b_caught_l : Cmd := (sCons (sSet 5 (eD .non)) (sCons (sKeep 6 5 [1, 4, 7] (sIf (eBin oEq (eVar 0) (eD (.int 0))) (sExpr (eCall f_letter_at (aCons (eVar 1) (aCons (eVar 2) (aCons (eVar 3) (aCons (eVar 4) aNil)))))) (sIf (eBin oEq (eVar 0) (eD (.int 1))) (sExpr (eCall f_shade_at (aCons (eVar 1) (aCons (eVar 2) (aCons (eVar 3) (aCons (eVar 4) aNil)))))) (sExpr (eCall f_part (aCons (eVar 1) (aCons (eVar 2) (aCons (eVar 3) (aCons (eVar 4) aNil))))))))) (sRet (eVar 5))))
@[irreducible] def f_caught_l : Fd := sealF 29 (fnD 5 [(), ()] b_caught_l)
theorem f_caught_l_eq : f_caught_l = fnD 5 [(), ()] b_caught_l := by unfold f_caught_l; exact sealF_eq _ _
def b_refused_l : Cmd := (sCons (sSet 2 (eCall f_depth_l (aCons (eVar 0) aNil))) (sCons (sSet 3 (eAdd (eCall f_number_l (aCons (eF (lRep (eM (lDisp (aCons (eBin oSub (eBin oIx (eBin oIx (eVar 1) (eD (.int 0))) (eD (.int 0))) (eD (.int 1))) aNil))) (eVar 2))) (aCons (eBin oIx (eBin oIx (eVar 1) (eD (.int 0))) (eD (.int 0))) aNil))) (eD (.int 1)))) (sCons (sSet 4 (eBin oIx (eF (lDisp (aCons (eD (.int 0)) (aCons (eBin oSub (eVar 3) (eD (.int 1))) (aCons (eBin oMod (eCallB bInt (aCons (eCall f_drip_l (aCons (eVar 0) (aCons (eBin oPow (eD (.int 10)) (eD (.int 20))) aNil))) aNil)) (eVar 3)) aNil))))) (eCall f_drip_l (aCons (eVar 0) (aCons (eD (.int 3)) aNil))))) (sCons (sSet 5 (eBin oIx (eF (lDisp (aCons (eVar 3) (aCons (eUn oNeg (eD (.int 1))) (aCons (eAdd (eVar 3) (eCall f_drip_l (aCons (eVar 0) (aCons (eBin oPow (eD (.int 10)) (eD (.int 20))) aNil)))) (aCons (eBin oSub (eUn oNeg (eD (.int 2))) (eCall f_drip_l (aCons (eVar 0) (aCons (eBin oPow (eD (.int 10)) (eD (.int 20))) aNil)))) aNil)))))) (eCall f_drip_l (aCons (eVar 0) (aCons (eD (.int 4)) aNil))))) (sCons (sAsg (gTup 2 (gCons (gName 6) (gCons (gName 7) gNil))) (eBin oIx (eF (lDisp (aCons (eTup (aCons (eVar 4) (aCons (eVar 5) aNil))) (aCons (eTup (aCons (eVar 5) (aCons (eVar 4) aNil))) (aCons (eTup (aCons (eVar 5) (aCons (eVar 5) aNil))) aNil))))) (eCall f_drip_l (aCons (eVar 0) (aCons (eD (.int 3)) aNil))))) (sCons (sSet 8 (eCall f_drip_l (aCons (eVar 0) (aCons (eD (.int 3)) aNil)))) (sCons (sSet 9 (eCall f_caught_l (aCons (eVar 8) (aCons (eVar 1) (aCons (eVar 2) (aCons (eVar 6) (aCons (eVar 7) aNil))))))) (sCons (sIf (eOr (eNot (eIsX [1, 4, 7] 7 (eVar 9))) (eNot (eCall (f_same_l 8) (aCons (eValIn [1, 4, 7] (eVar 9)) (aCons (eTup (aCons (eVar 6) (aCons (eVar 7) aNil))) aNil))))) (sRet (eD (.bl false))) sNil) (sCons (sSet 10 (eBin oIx (eF (lDisp (aCons (eUn oNeg (eD (.int 1))) (aCons (eUn oNeg (eD (.int 2))) (aCons (eUn oNeg (eD (.int 90))) (aCons (eBin oSub (eUn oNeg (eD (.int 1))) (eCall f_drip_l (aCons (eVar 0) (aCons (eBin oPow (eD (.int 10)) (eD (.int 25))) aNil)))) aNil)))))) (eCall f_drip_l (aCons (eVar 0) (aCons (eD (.int 4)) aNil))))) (sCons (sSet 9 (eCall f_caught_l (aCons (eVar 8) (aCons (eVar 1) (aCons (eVar 10) (aCons (eVar 6) (aCons (eVar 7) aNil))))))) (sCons (sIf (eOr (eNot (eIsX [1, 4, 7] 4 (eVar 9))) (eNot (eCall (f_same_l 8) (aCons (eValIn [1, 4, 7] (eVar 9)) (aCons (eVar 10) aNil))))) (sRet (eD (.bl false))) sNil) (sCons (sIf (eBin oNotN (eCall f_caught_l (aCons (eVar 8) (aCons (eVar 1) (aCons (eVar 2) (aCons (eVar 4) (aCons (eVar 4) aNil)))))) (eD .non)) (sRet (eD (.bl false))) sNil) (sRet (eBin oIs (eCall f_caught_l (aCons (eVar 8) (aCons (eVar 1) (aCons (eVar 2) (aCons (eBin oSub (eVar 3) (eD (.int 1))) (aCons (eBin oSub (eVar 3) (eD (.int 1))) aNil)))))) (eD .non)))))))))))))))
@[irreducible] def f_refused_l : Fd := sealF 30 (fnD 2 [(), (), (), (), (), (), (), (), ()] b_refused_l)
theorem f_refused_l_eq : f_refused_l = fnD 2 [(), (), (), (), (), (), (), (), ()] b_refused_l := by unfold f_refused_l; exact sealF_eq _ _
def l_right_l_1 : Cmd := (sKil [1, 3] (sIf (eNot (eCall f_cell_right_l (aCons (eVar 0) (aCons (eVar 2) aNil)))) (sRet (eD (.bl false))) sNil))
def b_right_l : Cmd := (sCons (sSet 1 (eCall f_book_l (aCons (eVar 0) (aCons (eAdd (eD (.int 2)) (eCall f_drip_l (aCons (eVar 0) (aCons (eD (.int 3)) aNil)))) (aCons (eD (.int 8)) aNil))))) (sCons (sSet 2 (eTup (aCons (eVar 1) (aCons (eCall f_drip_l (aCons (eVar 0) (aCons (eCallB bLen (aCons (eBin oIx (eVar 1) (eD (.int 1))) aNil)) aNil))) aNil)))) (sCons (sKil0 [1, 3] (sFor (gName 3) (wRange1 (eD (.int 5))) l_right_l_1)) (sRet (eCall f_refused_l (aCons (eVar 0) (aCons (eVar 2) aNil)))))))
@[irreducible] def f_right_l : Fd := sealF 31 (fnD 1 [(), (), ()] b_right_l)
theorem f_right_l_eq : f_right_l = fnD 1 [(), (), ()] b_right_l := by unfold f_right_l; exact sealF_eq _ _
def l_law_1 : Cmd := (sKil [1] (sIf (eNot (eCall f_right_l (aCons (eCall f_ink_l (aCons (eVar 0) (aCons (eVar 1) aNil))) aNil))) (sRet (eD (.bl false))) sNil))
def b_law : Cmd := (sCons (sKil0 [1] (sFor (gName 1) (wRange1 (eCallB bMax2 (aCons (eD (.int 1)) (aCons (eCallB bMin2 (aCons (eD (.int 10)) (aCons (eCallB bLen (aCons (eVar 0) aNil)) aNil))) aNil)))) l_law_1)) (sRet (eD (.bl true))))
@[irreducible] def f_law : Fd := sealF 32 (fnD 1 [()] b_law)
theorem f_law_eq : f_law = fnD 1 [()] b_law := by unfold f_law; exact sealF_eq _ _
end
end Sy

set_option Elab.async false
set_option linter.all false
set_option maxRecDepth 100000
set_option maxHeartbeats 4000000
namespace Sy
open PySem PySem.Spec PyProof.Rows L2
def topS (i : Nat) : Stmt := PySem.Challenge.pw_everydepth_k01_cells_by_their_figures.main.body.getD i (.Pass ⟨0, 0, 0, 0⟩)
/-- the names of built-ins are not the module's -/
structure Txt (mg : Str → Option Value) : Prop where
  abs : mg "abs" = none
  all : mg "all" = none
  bool : mg "bool" = none
  int : mg "int" = none
  isinstance : mg "isinstance" = none
  len : mg "len" = none
  list : mg "list" = none
  max : mg "max" = none
  min : mg "min" = none
  range : mg "range" = none
  sum : mg "sum" = none
  tuple : mg "tuple" = none
  zip : mg "zip" = none
local macro_rules | `(tactic| walk_at "nmt") => `(tactic| ((try dsimp only); decide +kernel))
local macro_rules | `(tactic| walk_at "lvl") => `(tactic| ((try dsimp only); first | decide | omega))
local macro_rules | `(tactic| walk_at "swp") => `(tactic| (intro env henv; unfold swappedStores; simp only [Env.blockKind, Env.kindOf, henv]; rfl))
section
variable {P : Program} {w : World} {K : PySem.W.Frag} {mg : Str → Option Value} {base : Heap}
abbrev s_anew : Stmt := topS 5
theorem sc_anew : FnScope ["value", "entry", "inner"] ["value"] (defScope s_anew) := ⟨rfl, rfl, rfl, by decide +kernel, rfl, by decide +kernel, by decide +kernel⟩
theorem ok_anew {self : Fd} {k : Nat} {f : Addr} {fd : FuncData} (F : Fun K "anew" "anew" s_anew f fd) (T : Txt mg) (F_self : Fn P w K mg base "anew" k (C_of mg self)) (hk : 0 ≤ k) : FnOk P w K mg base (L2.CX P w) (k + 1) f fd ["value"] (SpC K (C_of mg (fnD 1 [(), ()] (b_anew self)))) := by
  have g_int : glB (defScope s_anew) "int" = true := by decide +kernel
  have g_isinstance : glB (defScope s_anew) "isinstance" = true := by decide +kernel
  have g_list : glB (defScope s_anew) "list" = true := by decide +kernel
  have g_tuple : glB (defScope s_anew) "tuple" = true := by decide +kernel
  have l1 : lcB ["value", "entry", "inner"] (defScope s_anew) 1 "entry" = true := by decide +kernel
  have n0 : nmB ["value", "entry", "inner"] (defScope s_anew) 0 "value" = true := by decide +kernel
  have n1 : nmB ["value", "entry", "inner"] (defScope s_anew) 1 "entry" = true := by decide +kernel
  unfold b_anew l_anew_1
  exact fd_ok F sc_anew rfl ((sb_cn (ss_kil (ss_fi (sndt_val (snd_isi .tup T.isinstance g_isinstance T.tuple bt_tuple g_tuple (snd_var 0 n0))) (sb_cn (ss_kil0 (ss_fr (sg_nm 1 l1) (snd_wSeq (snd_var 0 n0)) (sb_kil (sb_on (ss_fi (sndt_not (sndt_val (snd_isi .int T.isinstance g_isinstance T.int bt_int g_int (snd_var 1 n1)))) (sb_on (ss_rt (snd_callT snd_bTuple T.tuple bt_tuple g_tuple (snd_cons (snd_F (snd_lc [("inner", 2)] (by walk_at "nmt") (snd_wSeq (snd_var 0 n0)) (own_nm 2 (by walk_at "nmt") (by walk_at "nmt")) gm_name sts_nil (snd_call F_self (by walk_at "nmt") (Nat.le_refl _) (snd_cons (snd_var 2 (by walk_at "nmt")) snd_nil)))) snd_nil)))) sb_nl))))) (sb_on (ss_rt (snd_tup (snd_star (snd_var 0 n0) snd_nil))))) sb_nl)) (sb_cn (ss_kil (ss_fi (sndt_val (snd_isi .lst T.isinstance g_isinstance T.list bt_list g_list (snd_var 0 n0))) (sb_on (ss_rt (snd_F (snd_lc [("entry", 1)] (by walk_at "nmt") (snd_wSeq (snd_var 0 n0)) (own_nm 1 (by walk_at "nmt") (by walk_at "nmt")) gm_name sts_nil (snd_if (sndt_val (snd_isi .int T.isinstance (by walk_at "nmt") T.int bt_int (by walk_at "nmt") (snd_var 1 (by walk_at "nmt")))) (snd_var 1 (by walk_at "nmt")) (snd_call F_self (by walk_at "nmt") (Nat.le_refl _) (snd_cons (snd_var 1 (by walk_at "nmt")) snd_nil))))))) sb_nl)) (sb_on (ss_rt (snd_var 0 n0))))))
abbrev s_is_shelf : Stmt := topS 8
theorem sc_is_shelf : FnScope ["value", "base", "shades", "blocks"] ["value"] (defScope s_is_shelf) := ⟨rfl, rfl, rfl, by decide +kernel, rfl, by decide +kernel, by decide +kernel⟩
theorem ok_is_shelf {f : Addr} {fd : FuncData} (F : Fun K "is_shelf" "is_shelf" s_is_shelf f fd) (T : Txt mg) {t_MOST_LETTERS : Tok} (c_MOST_LETTERS : mg "MOST_LETTERS" = some (.int 64 t_MOST_LETTERS)) : FnOk P w K mg base (L2.CX P w) 1 f fd ["value"] (SpC K (C_of mg f_is_shelf)) := by
  have g_MOST_LETTERS : glB (defScope s_is_shelf) "MOST_LETTERS" = true := by decide +kernel
  have g_bool : glB (defScope s_is_shelf) "bool" = true := by decide +kernel
  have g_int : glB (defScope s_is_shelf) "int" = true := by decide +kernel
  have g_isinstance : glB (defScope s_is_shelf) "isinstance" = true := by decide +kernel
  have g_len : glB (defScope s_is_shelf) "len" = true := by decide +kernel
  have g_tuple : glB (defScope s_is_shelf) "tuple" = true := by decide +kernel
  have l1 : lcB ["value", "base", "shades", "blocks"] (defScope s_is_shelf) 1 "base" = true := by decide +kernel
  have l2 : lcB ["value", "base", "shades", "blocks"] (defScope s_is_shelf) 2 "shades" = true := by decide +kernel
  have l3 : lcB ["value", "base", "shades", "blocks"] (defScope s_is_shelf) 3 "blocks" = true := by decide +kernel
  have n0 : nmB ["value", "base", "shades", "blocks"] (defScope s_is_shelf) 0 "value" = true := by decide +kernel
  have n1 : nmB ["value", "base", "shades", "blocks"] (defScope s_is_shelf) 1 "base" = true := by decide +kernel
  have n2 : nmB ["value", "base", "shades", "blocks"] (defScope s_is_shelf) 2 "shades" = true := by decide +kernel
  have n3 : nmB ["value", "base", "shades", "blocks"] (defScope s_is_shelf) 3 "blocks" = true := by decide +kernel
  rw [f_is_shelf_eq]
  unfold b_is_shelf
  exact fd_ok F sc_is_shelf rfl ((sb_cn (ss_fi (sndt_w (sndw_or (sndt_not (sndt_val (snd_isi .tup T.isinstance g_isinstance T.tuple bt_tuple g_tuple (snd_var 0 n0)))) (sndw_or1 (sndt_cmp snd_ne (snd_callB snd_len T.len bf_len g_len (snd_cons (snd_var 0 n0) snd_nil)) snd_int)))) (sb_on (ss_rt snd_bl)) sb_nl) (sb_cn (ss_as (sg_tp (sg_cn (sg_nm 1 l1) (sg_cn (sg_nm 2 l2) (sg_cn (sg_nm 3 l3) sg_nl)))) (snd_var 0 n0)) (sb_cn (ss_fi (sndt_w (sndw_or (sndt_not (sndt_val (snd_isi .int T.isinstance g_isinstance T.int bt_int g_int (snd_var 1 n1)))) (sndw_or (sndt_val (snd_isi .bl T.isinstance g_isinstance T.bool bt_bool g_bool (snd_var 1 n1))) (sndw_or1 (sndt_not (sndt_chain snd_le snd_le snd_int (snd_var 1 n1) snd_int)))))) (sb_on (ss_rt snd_bl)) sb_nl) (sb_cn (ss_fi (sndt_w (sndw_or (sndt_not (sndt_val (snd_isi .tup T.isinstance g_isinstance T.tuple bt_tuple g_tuple (snd_var 2 n2)))) (sndw_or1 (sndt_not (sndt_val (snd_isi .tup T.isinstance g_isinstance T.tuple bt_tuple g_tuple (snd_var 3 n3))))))) (sb_on (ss_rt snd_bl)) sb_nl) (sb_on (ss_rt (snd_and (snd_chain snd_le snd_le snd_int (snd_callB snd_len T.len bf_len g_len (snd_cons (snd_var 2 n2) snd_nil)) (snd_gint c_MOST_LETTERS g_MOST_LETTERS)) (snd_one (snd_cmp snd_eq (snd_callB snd_len T.len bf_len g_len (snd_cons (snd_var 3 n3) snd_nil)) (snd_callB snd_len T.len bf_len g_len (snd_cons (snd_var 2 n2) snd_nil))))))))))))
abbrev s_are_shades : Stmt := topS 9
theorem sc_are_shades : FnScope ["entries", "entry"] ["entries"] (defScope s_are_shades) := ⟨rfl, rfl, rfl, by decide +kernel, rfl, by decide +kernel, by decide +kernel⟩
theorem ok_are_shades {f : Addr} {fd : FuncData} (F : Fun K "are_shades" "are_shades" s_are_shades f fd) (T : Txt mg) : FnOk P w K mg base (L2.CX P w) 1 f fd ["entries"] (SpC K (C_of mg f_are_shades)) := by
  have g_int : glB (defScope s_are_shades) "int" = true := by decide +kernel
  have g_isinstance : glB (defScope s_are_shades) "isinstance" = true := by decide +kernel
  have l1 : lcB ["entries", "entry"] (defScope s_are_shades) 1 "entry" = true := by decide +kernel
  have n0 : nmB ["entries", "entry"] (defScope s_are_shades) 0 "entries" = true := by decide +kernel
  have n1 : nmB ["entries", "entry"] (defScope s_are_shades) 1 "entry" = true := by decide +kernel
  rw [f_are_shades_eq]
  unfold b_are_shades l_are_shades_1
  exact fd_ok F sc_are_shades rfl ((sb_cn (ss_kil0 (ss_fr (sg_nm 1 l1) (snd_wSeq (snd_var 0 n0)) (sb_kil (sb_on (ss_fi (sndt_w (sndw_or (sndt_cmp snd_is (snd_var 1 n1) snd_bl) (sndw_or (sndt_cmp snd_is (snd_var 1 n1) snd_bl) (sndw_or (sndt_not (sndt_val (snd_isi .int T.isinstance g_isinstance T.int bt_int g_int (snd_var 1 n1)))) (sndw_or (sndt_cmp snd_lt (snd_var 1 n1) snd_int) (sndw_or1 (sndt_cmp snd_gt (snd_var 1 n1) snd_int))))))) (sb_on (ss_rt snd_bl)) sb_nl))))) (sb_on (ss_rt snd_bl))))
abbrev s_are_blocks : Stmt := topS 10
theorem sc_are_blocks : FnScope ["entries", "base", "many", "block", "row", "letter"] ["entries", "base"] (defScope s_are_blocks) := ⟨rfl, rfl, rfl, by decide +kernel, rfl, by decide +kernel, by decide +kernel⟩
theorem ok_are_blocks {f : Addr} {fd : FuncData} (F : Fun K "are_blocks" "are_blocks" s_are_blocks f fd) (T : Txt mg) : FnOk P w K mg base (L2.CX P w) 1 f fd ["entries", "base"] (SpC K (C_of mg f_are_blocks)) := by
  have g_int : glB (defScope s_are_blocks) "int" = true := by decide +kernel
  have g_isinstance : glB (defScope s_are_blocks) "isinstance" = true := by decide +kernel
  have g_len : glB (defScope s_are_blocks) "len" = true := by decide +kernel
  have g_tuple : glB (defScope s_are_blocks) "tuple" = true := by decide +kernel
  have l2 : lcB ["entries", "base", "many", "block", "row", "letter"] (defScope s_are_blocks) 2 "many" = true := by decide +kernel
  have l3 : lcB ["entries", "base", "many", "block", "row", "letter"] (defScope s_are_blocks) 3 "block" = true := by decide +kernel
  have l4 : lcB ["entries", "base", "many", "block", "row", "letter"] (defScope s_are_blocks) 4 "row" = true := by decide +kernel
  have l5 : lcB ["entries", "base", "many", "block", "row", "letter"] (defScope s_are_blocks) 5 "letter" = true := by decide +kernel
  have n0 : nmB ["entries", "base", "many", "block", "row", "letter"] (defScope s_are_blocks) 0 "entries" = true := by decide +kernel
  have n1 : nmB ["entries", "base", "many", "block", "row", "letter"] (defScope s_are_blocks) 1 "base" = true := by decide +kernel
  have n2 : nmB ["entries", "base", "many", "block", "row", "letter"] (defScope s_are_blocks) 2 "many" = true := by decide +kernel
  have n3 : nmB ["entries", "base", "many", "block", "row", "letter"] (defScope s_are_blocks) 3 "block" = true := by decide +kernel
  have n4 : nmB ["entries", "base", "many", "block", "row", "letter"] (defScope s_are_blocks) 4 "row" = true := by decide +kernel
  have n5 : nmB ["entries", "base", "many", "block", "row", "letter"] (defScope s_are_blocks) 5 "letter" = true := by decide +kernel
  rw [f_are_blocks_eq]
  unfold b_are_blocks l_are_blocks_1 l_are_blocks_2 l_are_blocks_3
  exact fd_ok F sc_are_blocks rfl ((sb_cn (ss_st 2 l2 (snd_callB snd_len T.len bf_len g_len (snd_cons (snd_var 0 n0) snd_nil))) (sb_cn (ss_kil0 (ss_fr (sg_nm 3 l3) (snd_wSeq (snd_var 0 n0)) (sb_kil (sb_cn (ss_fi (sndt_w (sndw_or (sndt_not (sndt_val (snd_isi .tup T.isinstance g_isinstance T.tuple bt_tuple g_tuple (snd_var 3 n3)))) (sndw_or1 (sndt_cmp snd_ne (snd_callB snd_len T.len bf_len g_len (snd_cons (snd_var 3 n3) snd_nil)) (snd_var 1 n1))))) (sb_on (ss_rt snd_bl)) sb_nl) (sb_on (ss_kil0 (ss_fr (sg_nm 4 l4) (snd_wSeq (snd_var 3 n3)) (sb_kil (sb_cn (ss_fi (sndt_w (sndw_or (sndt_not (sndt_val (snd_isi .tup T.isinstance g_isinstance T.tuple bt_tuple g_tuple (snd_var 4 n4)))) (sndw_or1 (sndt_cmp snd_ne (snd_callB snd_len T.len bf_len g_len (snd_cons (snd_var 4 n4) snd_nil)) (snd_var 1 n1))))) (sb_on (ss_rt snd_bl)) sb_nl) (sb_on (ss_kil0 (ss_fr (sg_nm 5 l5) (snd_wSeq (snd_var 4 n4)) (sb_kil (sb_on (ss_fi (sndt_w (sndw_or (sndt_cmp snd_is (snd_var 5 n5) snd_bl) (sndw_or (sndt_cmp snd_is (snd_var 5 n5) snd_bl) (sndw_or (sndt_not (sndt_val (snd_isi .int T.isinstance g_isinstance T.int bt_int g_int (snd_var 5 n5)))) (sndw_or (sndt_cmp snd_lt (snd_var 5 n5) snd_int) (sndw_or1 (sndt_cmp snd_ge (snd_var 5 n5) (snd_var 2 n2)))))))) (sb_on (ss_rt snd_bl)) sb_nl))))))))))))))) (sb_on (ss_rt snd_bl)))))
abbrev s_is_int : Stmt := topS 12
theorem sc_is_int : FnScope ["value"] ["value"] (defScope s_is_int) := ⟨rfl, rfl, rfl, by decide +kernel, rfl, by decide +kernel, by decide +kernel⟩
theorem ok_is_int {f : Addr} {fd : FuncData} (F : Fun K "is_int" "is_int" s_is_int f fd) (T : Txt mg) : FnOk P w K mg base (L2.CX P w) 1 f fd ["value"] (SpC K (C_of mg f_is_int)) := by
  have g_bool : glB (defScope s_is_int) "bool" = true := by decide +kernel
  have g_int : glB (defScope s_is_int) "int" = true := by decide +kernel
  have g_isinstance : glB (defScope s_is_int) "isinstance" = true := by decide +kernel
  have n0 : nmB ["value"] (defScope s_is_int) 0 "value" = true := by decide +kernel
  rw [f_is_int_eq]
  unfold b_is_int
  exact fd_ok F sc_is_int rfl ((sb_on (ss_rt (snd_and (snd_isi .int T.isinstance g_isinstance T.int bt_int g_int (snd_var 0 n0)) (snd_one (snd_not (snd_isi .bl T.isinstance g_isinstance T.bool bt_bool g_bool (snd_var 0 n0))))))))
abbrev s_is_picture : Stmt := topS 11
theorem sc_is_picture : FnScope ["value", "book", "letter"] ["value"] (defScope s_is_picture) := ⟨rfl, rfl, rfl, by decide +kernel, rfl, by decide +kernel, by decide +kernel⟩
theorem ok_is_picture {f : Addr} {fd : FuncData} (F : Fun K "is_picture" "is_picture" s_is_picture f fd) (T : Txt mg) (F_are_blocks : Fn P w K mg base "are_blocks" 1 (C_of mg f_are_blocks)) (F_are_shades : Fn P w K mg base "are_shades" 1 (C_of mg f_are_shades)) (F_is_int : Fn P w K mg base "is_int" 1 (C_of mg f_is_int)) (F_is_shelf : Fn P w K mg base "is_shelf" 1 (C_of mg f_is_shelf)) : FnOk P w K mg base (L2.CX P w) 2 f fd ["value"] (SpC K (C_of mg f_is_picture)) := by
  have g_are_blocks : glB (defScope s_is_picture) "are_blocks" = true := by decide +kernel
  have g_are_shades : glB (defScope s_is_picture) "are_shades" = true := by decide +kernel
  have g_is_int : glB (defScope s_is_picture) "is_int" = true := by decide +kernel
  have g_is_shelf : glB (defScope s_is_picture) "is_shelf" = true := by decide +kernel
  have g_isinstance : glB (defScope s_is_picture) "isinstance" = true := by decide +kernel
  have g_len : glB (defScope s_is_picture) "len" = true := by decide +kernel
  have g_tuple : glB (defScope s_is_picture) "tuple" = true := by decide +kernel
  have l1 : lcB ["value", "book", "letter"] (defScope s_is_picture) 1 "book" = true := by decide +kernel
  have l2 : lcB ["value", "book", "letter"] (defScope s_is_picture) 2 "letter" = true := by decide +kernel
  have n0 : nmB ["value", "book", "letter"] (defScope s_is_picture) 0 "value" = true := by decide +kernel
  have n1 : nmB ["value", "book", "letter"] (defScope s_is_picture) 1 "book" = true := by decide +kernel
  have n2 : nmB ["value", "book", "letter"] (defScope s_is_picture) 2 "letter" = true := by decide +kernel
  rw [f_is_picture_eq]
  unfold b_is_picture
  exact fd_ok F sc_is_picture rfl ((sb_cn (ss_fi (sndt_w (sndw_or (sndt_not (sndt_val (snd_isi .tup T.isinstance g_isinstance T.tuple bt_tuple g_tuple (snd_var 0 n0)))) (sndw_or1 (sndt_cmp snd_ne (snd_callB snd_len T.len bf_len g_len (snd_cons (snd_var 0 n0) snd_nil)) snd_int)))) (sb_on (ss_rt snd_bl)) sb_nl) (sb_cn (ss_as (sg_tp (sg_cn (sg_nm 1 l1) (sg_cn (sg_nm 2 l2) sg_nl))) (snd_var 0 n0)) (sb_cn (ss_fi (sndt_w (sndw_or (sndt_not (sndt_val (snd_call F_is_shelf g_is_shelf (by walk_at "lvl") (snd_cons (snd_var 1 n1) snd_nil)))) (sndw_or (sndt_not (sndt_val (snd_call F_is_int g_is_int (by walk_at "lvl") (snd_cons (snd_var 2 n2) snd_nil)))) (sndw_or1 (sndt_not (sndt_chain snd_le snd_lt snd_int (snd_var 2 n2) (snd_callB snd_len T.len bf_len g_len (snd_cons (snd_ix snd_oIx (snd_var 1 n1) snd_int) snd_nil)))))))) (sb_on (ss_rt snd_bl)) sb_nl) (sb_on (ss_rt (snd_and (snd_call F_are_shades g_are_shades (by walk_at "lvl") (snd_cons (snd_ix snd_oIx (snd_var 1 n1) snd_int) snd_nil)) (snd_one (snd_call F_are_blocks g_are_blocks (by walk_at "lvl") (snd_cons (snd_ix snd_oIx (snd_var 1 n1) snd_int) (snd_cons (snd_ix snd_oIx (snd_var 1 n1) snd_int) snd_nil)))))))))))
abbrev s_check_picture : Stmt := topS 13
theorem sc_check_picture : FnScope ["picture"] ["picture"] (defScope s_check_picture) := ⟨rfl, rfl, rfl, by decide +kernel, rfl, by decide +kernel, by decide +kernel⟩
theorem ok_check_picture {f : Addr} {fd : FuncData} (F : Fun K "check_picture" "check_picture" s_check_picture f fd) (F_anew : Fn P w K mg base "anew" 9 (C_of mg (f_anew 8))) (F_is_picture : Fn P w K mg base "is_picture" 2 (C_of mg f_is_picture)) (X_InvalidPicture : XC K mg 1) : FnOk P w K mg base (L2.CX P w) 10 f fd ["picture"] (SpC K (C_of mg f_check_picture)) := by
  have g_InvalidPicture : glB (defScope s_check_picture) "InvalidPicture" = true := by decide +kernel
  have g_anew : glB (defScope s_check_picture) "anew" = true := by decide +kernel
  have g_is_picture : glB (defScope s_check_picture) "is_picture" = true := by decide +kernel
  have n0 : nmB ["picture"] (defScope s_check_picture) 0 "picture" = true := by decide +kernel
  rw [f_check_picture_eq]
  unfold b_check_picture
  exact fd_ok F sc_check_picture rfl ((sb_on (ss_fi (sndt_not (sndt_val (snd_call F_is_picture g_is_picture (by walk_at "lvl") (snd_cons (snd_var 0 n0) snd_nil)))) (sb_on (ss_rs 1 X_InvalidPicture rfl g_InvalidPicture (snd_call F_anew g_anew (by walk_at "lvl") (snd_cons (snd_var 0 n0) snd_nil)))) sb_nl)))
abbrev s_check_depth : Stmt := topS 14
theorem sc_check_depth : FnScope ["depth"] ["depth"] (defScope s_check_depth) := ⟨rfl, rfl, rfl, by decide +kernel, rfl, by decide +kernel, by decide +kernel⟩
theorem ok_check_depth {f : Addr} {fd : FuncData} (F : Fun K "check_depth" "check_depth" s_check_depth f fd) (X_InvalidDepth : XC K mg 4) : FnOk P w K mg base (L2.CX P w) 1 f fd ["depth"] (SpC K (C_of mg f_check_depth)) := by
  have g_InvalidDepth : glB (defScope s_check_depth) "InvalidDepth" = true := by decide +kernel
  have n0 : nmB ["depth"] (defScope s_check_depth) 0 "depth" = true := by decide +kernel
  rw [f_check_depth_eq]
  unfold b_check_depth
  exact fd_ok F sc_check_depth rfl ((sb_on (ss_fi (sndt_cmp snd_lt (snd_var 0 n0) snd_int) (sb_on (ss_rs 4 X_InvalidDepth rfl g_InvalidDepth (snd_var 0 n0))) sb_nl)))
abbrev s_side_of : Stmt := topS 20
theorem sc_side_of : FnScope ["base", "depth", "side", "power"] ["base", "depth"] (defScope s_side_of) := ⟨rfl, rfl, rfl, by decide +kernel, rfl, by decide +kernel, by decide +kernel⟩
theorem ok_side_of {f : Addr} {fd : FuncData} (F : Fun K "side_of" "side_of" s_side_of f fd)  : FnOk P w K mg base (L2.CX P w) 1 f fd ["base", "depth"] (SpC K (C_of mg f_side_of)) := by
  have l1 : lcB ["base", "depth", "side", "power"] (defScope s_side_of) 1 "depth" = true := by decide +kernel
  have l2 : lcB ["base", "depth", "side", "power"] (defScope s_side_of) 2 "side" = true := by decide +kernel
  have l3 : lcB ["base", "depth", "side", "power"] (defScope s_side_of) 3 "power" = true := by decide +kernel
  have n0 : nmB ["base", "depth", "side", "power"] (defScope s_side_of) 0 "base" = true := by decide +kernel
  have n1 : nmB ["base", "depth", "side", "power"] (defScope s_side_of) 1 "depth" = true := by decide +kernel
  have n2 : nmB ["base", "depth", "side", "power"] (defScope s_side_of) 2 "side" = true := by decide +kernel
  have n3 : nmB ["base", "depth", "side", "power"] (defScope s_side_of) 3 "power" = true := by decide +kernel
  rw [f_side_of_eq]
  unfold b_side_of l_side_of_1
  exact fd_ok F sc_side_of rfl ((sb_cn (ss_st 2 l2 snd_int) (sb_cn (ss_st 3 l3 (snd_var 0 n0)) (sb_cn (ss_kil0 (ss_wh (sndt_cmp snd_gt (snd_var 1 n1) snd_int) (sb_kil (sb_cn (ss_fi (sndt_cmp snd_eq (snd_bin snd_mod (snd_var 1 n1) snd_int) snd_int) (sb_on (ss_st 2 l2 (snd_bin snd_mul (snd_var 2 n2) (snd_var 3 n3)))) sb_nl) (sb_cn (ss_st 3 l3 (snd_bin snd_mul (snd_var 3 n3) (snd_var 3 n3))) (sb_on (ss_st 1 l1 (snd_bin snd_div (snd_var 1 n1) snd_int)))))))) (sb_on (ss_rt (snd_var 2 n2)))))))
abbrev s_check_place : Stmt := topS 19
theorem sc_check_place : FnScope ["base", "depth", "row", "column", "side"] ["base", "depth", "row", "column"] (defScope s_check_place) := ⟨rfl, rfl, rfl, by decide +kernel, rfl, by decide +kernel, by decide +kernel⟩
theorem ok_check_place {f : Addr} {fd : FuncData} (F : Fun K "check_place" "check_place" s_check_place f fd) (F_side_of : Fn P w K mg base "side_of" 1 (C_of mg f_side_of)) (X_InvalidPlace : XC K mg 7) : FnOk P w K mg base (L2.CX P w) 2 f fd ["base", "depth", "row", "column"] (SpC K (C_of mg f_check_place)) := by
  have g_InvalidPlace : glB (defScope s_check_place) "InvalidPlace" = true := by decide +kernel
  have g_side_of : glB (defScope s_check_place) "side_of" = true := by decide +kernel
  have l4 : lcB ["base", "depth", "row", "column", "side"] (defScope s_check_place) 4 "side" = true := by decide +kernel
  have n0 : nmB ["base", "depth", "row", "column", "side"] (defScope s_check_place) 0 "base" = true := by decide +kernel
  have n1 : nmB ["base", "depth", "row", "column", "side"] (defScope s_check_place) 1 "depth" = true := by decide +kernel
  have n2 : nmB ["base", "depth", "row", "column", "side"] (defScope s_check_place) 2 "row" = true := by decide +kernel
  have n3 : nmB ["base", "depth", "row", "column", "side"] (defScope s_check_place) 3 "column" = true := by decide +kernel
  have n4 : nmB ["base", "depth", "row", "column", "side"] (defScope s_check_place) 4 "side" = true := by decide +kernel
  rw [f_check_place_eq]
  unfold b_check_place
  exact fd_ok F sc_check_place rfl ((sb_cn (ss_st 4 l4 (snd_call F_side_of g_side_of (by walk_at "lvl") (snd_cons (snd_var 0 n0) (snd_cons (snd_var 1 n1) snd_nil)))) (sb_on (ss_fi (sndt_not (sndt_w (sndw_and (sndt_chain snd_le snd_lt snd_int (snd_var 2 n2) (snd_var 4 n4)) (sndw_and1 (sndt_chain snd_le snd_lt snd_int (snd_var 3 n3) (snd_var 4 n4)))))) (sb_on (ss_rs 7 X_InvalidPlace rfl g_InvalidPlace (snd_tup (snd_cons (snd_var 2 n2) (snd_cons (snd_var 3 n3) snd_nil))))) sb_nl))))
abbrev s_figures_of : Stmt := topS 22
theorem sc_figures_of : FnScope ["base", "depth", "number", "figures", "_"] ["base", "depth", "number"] (defScope s_figures_of) := ⟨rfl, rfl, rfl, by decide +kernel, rfl, by decide +kernel, by decide +kernel⟩
theorem ok_figures_of {f : Addr} {fd : FuncData} (F : Fun K "figures_of" "figures_of" s_figures_of f fd) (T : Txt mg) : FnOk P w K mg base (L2.CX P w) 1 f fd ["base", "depth", "number"] (SpC K (C_of mg f_figures_of)) := by
  have g_range : glB (defScope s_figures_of) "range" = true := by decide +kernel
  have l2 : lcB ["base", "depth", "number", "figures", "_"] (defScope s_figures_of) 2 "number" = true := by decide +kernel
  have l3 : lcB ["base", "depth", "number", "figures", "_"] (defScope s_figures_of) 3 "figures" = true := by decide +kernel
  have l4 : lcB ["base", "depth", "number", "figures", "_"] (defScope s_figures_of) 4 "_" = true := by decide +kernel
  have n0 : nmB ["base", "depth", "number", "figures", "_"] (defScope s_figures_of) 0 "base" = true := by decide +kernel
  have n1 : nmB ["base", "depth", "number", "figures", "_"] (defScope s_figures_of) 1 "depth" = true := by decide +kernel
  have n2 : nmB ["base", "depth", "number", "figures", "_"] (defScope s_figures_of) 2 "number" = true := by decide +kernel
  have n3 : nmB ["base", "depth", "number", "figures", "_"] (defScope s_figures_of) 3 "figures" = true := by decide +kernel
  rw [f_figures_of_eq]
  unfold b_figures_of l_figures_of_1
  exact fd_ok F sc_figures_of rfl ((sb_cn (ss_st 3 l3 (snd_M (snd_disp snd_nil))) (sb_cn (ss_kil0 (ss_fr (sg_nm 4 l4) (snd_range1 T.range g_range (snd_var 1 n1)) (sb_kil (sb_cn (ss_ex (snd_append (snd_var 3 n3) (snd_bin snd_mod (snd_var 2 n2) (snd_var 0 n0)))) (sb_on (ss_st 2 l2 (snd_bin snd_div (snd_var 2 n2) (snd_var 0 n0)))))))) (sb_cn (ss_ex (snd_reverse (snd_var 3 n3))) (sb_on (ss_rt (snd_fz (snd_var 3 n3))))))))
abbrev s_found_letter : Stmt := topS 21
theorem sc_found_letter : FnScope ["picture", "depth", "row", "column", "base", "_", "blocks", "letter", "i", "j"] ["picture", "depth", "row", "column"] (defScope s_found_letter) := ⟨rfl, rfl, rfl, by decide +kernel, rfl, by decide +kernel, by decide +kernel⟩
theorem ok_found_letter {f : Addr} {fd : FuncData} (F : Fun K "found_letter" "found_letter" s_found_letter f fd) (T : Txt mg) (F_figures_of : Fn P w K mg base "figures_of" 1 (C_of mg f_figures_of)) : FnOk P w K mg base (L2.CX P w) 2 f fd ["picture", "depth", "row", "column"] (SpC K (C_of mg f_found_letter)) := by
  have g_figures_of : glB (defScope s_found_letter) "figures_of" = true := by decide +kernel
  have g_zip : glB (defScope s_found_letter) "zip" = true := by decide +kernel
  have l4 : lcB ["picture", "depth", "row", "column", "base", "_", "blocks", "letter", "i", "j"] (defScope s_found_letter) 4 "base" = true := by decide +kernel
  have l5 : lcB ["picture", "depth", "row", "column", "base", "_", "blocks", "letter", "i", "j"] (defScope s_found_letter) 5 "_" = true := by decide +kernel
  have l6 : lcB ["picture", "depth", "row", "column", "base", "_", "blocks", "letter", "i", "j"] (defScope s_found_letter) 6 "blocks" = true := by decide +kernel
  have l7 : lcB ["picture", "depth", "row", "column", "base", "_", "blocks", "letter", "i", "j"] (defScope s_found_letter) 7 "letter" = true := by decide +kernel
  have l8 : lcB ["picture", "depth", "row", "column", "base", "_", "blocks", "letter", "i", "j"] (defScope s_found_letter) 8 "i" = true := by decide +kernel
  have l9 : lcB ["picture", "depth", "row", "column", "base", "_", "blocks", "letter", "i", "j"] (defScope s_found_letter) 9 "j" = true := by decide +kernel
  have n0 : nmB ["picture", "depth", "row", "column", "base", "_", "blocks", "letter", "i", "j"] (defScope s_found_letter) 0 "picture" = true := by decide +kernel
  have n1 : nmB ["picture", "depth", "row", "column", "base", "_", "blocks", "letter", "i", "j"] (defScope s_found_letter) 1 "depth" = true := by decide +kernel
  have n2 : nmB ["picture", "depth", "row", "column", "base", "_", "blocks", "letter", "i", "j"] (defScope s_found_letter) 2 "row" = true := by decide +kernel
  have n3 : nmB ["picture", "depth", "row", "column", "base", "_", "blocks", "letter", "i", "j"] (defScope s_found_letter) 3 "column" = true := by decide +kernel
  have n4 : nmB ["picture", "depth", "row", "column", "base", "_", "blocks", "letter", "i", "j"] (defScope s_found_letter) 4 "base" = true := by decide +kernel
  have n6 : nmB ["picture", "depth", "row", "column", "base", "_", "blocks", "letter", "i", "j"] (defScope s_found_letter) 6 "blocks" = true := by decide +kernel
  have n7 : nmB ["picture", "depth", "row", "column", "base", "_", "blocks", "letter", "i", "j"] (defScope s_found_letter) 7 "letter" = true := by decide +kernel
  have n8 : nmB ["picture", "depth", "row", "column", "base", "_", "blocks", "letter", "i", "j"] (defScope s_found_letter) 8 "i" = true := by decide +kernel
  have n9 : nmB ["picture", "depth", "row", "column", "base", "_", "blocks", "letter", "i", "j"] (defScope s_found_letter) 9 "j" = true := by decide +kernel
  rw [f_found_letter_eq]
  unfold b_found_letter l_found_letter_1
  exact fd_ok F sc_found_letter rfl ((sb_cn (ss_as (sg_tp (sg_cn (sg_nm 4 l4) (sg_cn (sg_nm 5 l5) (sg_cn (sg_nm 6 l6) sg_nl)))) (snd_ix snd_oIx (snd_var 0 n0) snd_int)) (sb_cn (ss_st 7 l7 (snd_ix snd_oIx (snd_var 0 n0) snd_int)) (sb_cn (ss_kil0 (ss_fr (sg_tp (sg_cn (sg_nm 8 l8) (sg_cn (sg_nm 9 l9) sg_nl))) (snd_wZip T.zip g_zip (snd_call F_figures_of g_figures_of (by walk_at "lvl") (snd_cons (snd_var 4 n4) (snd_cons (snd_var 1 n1) (snd_cons (snd_var 2 n2) snd_nil)))) (snd_call F_figures_of g_figures_of (by walk_at "lvl") (snd_cons (snd_var 4 n4) (snd_cons (snd_var 1 n1) (snd_cons (snd_var 3 n3) snd_nil))))) (sb_kil (sb_on (ss_st 7 l7 (snd_ix snd_oIx (snd_ix snd_oIx (snd_ix snd_oIx (snd_var 6 n6) (snd_var 7 n7)) (snd_var 8 n8)) (snd_var 9 n9))))))) (sb_on (ss_rt (snd_var 7 n7)))))))
abbrev s_letter_at : Stmt := topS 16
theorem sc_letter_at : FnScope ["picture", "depth", "row", "column"] ["picture", "depth", "row", "column"] (defScope s_letter_at) := ⟨rfl, rfl, rfl, by decide +kernel, rfl, by decide +kernel, by decide +kernel⟩
theorem ok_letter_at {f : Addr} {fd : FuncData} (F : Fun K "letter_at" "letter_at" s_letter_at f fd) (F_check_depth : Fn P w K mg base "check_depth" 1 (C_of mg f_check_depth)) (F_check_picture : Fn P w K mg base "check_picture" 10 (C_of mg f_check_picture)) (F_check_place : Fn P w K mg base "check_place" 2 (C_of mg f_check_place)) (F_found_letter : Fn P w K mg base "found_letter" 2 (C_of mg f_found_letter)) : FnOk P w K mg base (L2.CX P w) 11 f fd ["picture", "depth", "row", "column"] (SpC K (C_of mg f_letter_at)) := by
  have g_check_depth : glB (defScope s_letter_at) "check_depth" = true := by decide +kernel
  have g_check_picture : glB (defScope s_letter_at) "check_picture" = true := by decide +kernel
  have g_check_place : glB (defScope s_letter_at) "check_place" = true := by decide +kernel
  have g_found_letter : glB (defScope s_letter_at) "found_letter" = true := by decide +kernel
  have n0 : nmB ["picture", "depth", "row", "column"] (defScope s_letter_at) 0 "picture" = true := by decide +kernel
  have n1 : nmB ["picture", "depth", "row", "column"] (defScope s_letter_at) 1 "depth" = true := by decide +kernel
  have n2 : nmB ["picture", "depth", "row", "column"] (defScope s_letter_at) 2 "row" = true := by decide +kernel
  have n3 : nmB ["picture", "depth", "row", "column"] (defScope s_letter_at) 3 "column" = true := by decide +kernel
  rw [f_letter_at_eq]
  unfold b_letter_at
  exact fd_ok F sc_letter_at rfl ((sb_cn (ss_ex (snd_call F_check_picture g_check_picture (by walk_at "lvl") (snd_cons (snd_var 0 n0) snd_nil))) (sb_cn (ss_ex (snd_call F_check_depth g_check_depth (by walk_at "lvl") (snd_cons (snd_var 1 n1) snd_nil))) (sb_cn (ss_ex (snd_call F_check_place g_check_place (by walk_at "lvl") (snd_cons (snd_ix snd_oIx (snd_ix snd_oIx (snd_var 0 n0) snd_int) snd_int) (snd_cons (snd_var 1 n1) (snd_cons (snd_var 2 n2) (snd_cons (snd_var 3 n3) snd_nil)))))) (sb_on (ss_rt (snd_call F_found_letter g_found_letter (by walk_at "lvl") (snd_cons (snd_var 0 n0) (snd_cons (snd_var 1 n1) (snd_cons (snd_var 2 n2) (snd_cons (snd_var 3 n3) snd_nil)))))))))))
abbrev s_shade_at : Stmt := topS 17
theorem sc_shade_at : FnScope ["picture", "depth", "row", "column", "letter"] ["picture", "depth", "row", "column"] (defScope s_shade_at) := ⟨rfl, rfl, rfl, by decide +kernel, rfl, by decide +kernel, by decide +kernel⟩
theorem ok_shade_at {f : Addr} {fd : FuncData} (F : Fun K "shade_at" "shade_at" s_shade_at f fd) (F_letter_at : Fn P w K mg base "letter_at" 11 (C_of mg f_letter_at)) : FnOk P w K mg base (L2.CX P w) 12 f fd ["picture", "depth", "row", "column"] (SpC K (C_of mg f_shade_at)) := by
  have g_letter_at : glB (defScope s_shade_at) "letter_at" = true := by decide +kernel
  have l4 : lcB ["picture", "depth", "row", "column", "letter"] (defScope s_shade_at) 4 "letter" = true := by decide +kernel
  have n0 : nmB ["picture", "depth", "row", "column", "letter"] (defScope s_shade_at) 0 "picture" = true := by decide +kernel
  have n1 : nmB ["picture", "depth", "row", "column", "letter"] (defScope s_shade_at) 1 "depth" = true := by decide +kernel
  have n2 : nmB ["picture", "depth", "row", "column", "letter"] (defScope s_shade_at) 2 "row" = true := by decide +kernel
  have n3 : nmB ["picture", "depth", "row", "column", "letter"] (defScope s_shade_at) 3 "column" = true := by decide +kernel
  have n4 : nmB ["picture", "depth", "row", "column", "letter"] (defScope s_shade_at) 4 "letter" = true := by decide +kernel
  rw [f_shade_at_eq]
  unfold b_shade_at
  exact fd_ok F sc_shade_at rfl ((sb_cn (ss_st 4 l4 (snd_call F_letter_at g_letter_at (by walk_at "lvl") (snd_cons (snd_var 0 n0) (snd_cons (snd_var 1 n1) (snd_cons (snd_var 2 n2) (snd_cons (snd_var 3 n3) snd_nil)))))) (sb_on (ss_rt (snd_ix snd_oIx (snd_ix snd_oIx (snd_ix snd_oIx (snd_var 0 n0) snd_int) snd_int) (snd_var 4 n4))))))
abbrev s_part : Stmt := topS 18
theorem sc_part : FnScope ["picture", "steps", "row", "column", "letter"] ["picture", "steps", "row", "column"] (defScope s_part) := ⟨rfl, rfl, rfl, by decide +kernel, rfl, by decide +kernel, by decide +kernel⟩
theorem ok_part {f : Addr} {fd : FuncData} (F : Fun K "part" "part" s_part f fd) (F_letter_at : Fn P w K mg base "letter_at" 11 (C_of mg f_letter_at)) : FnOk P w K mg base (L2.CX P w) 12 f fd ["picture", "steps", "row", "column"] (SpC K (C_of mg f_part)) := by
  have g_letter_at : glB (defScope s_part) "letter_at" = true := by decide +kernel
  have l4 : lcB ["picture", "steps", "row", "column", "letter"] (defScope s_part) 4 "letter" = true := by decide +kernel
  have n0 : nmB ["picture", "steps", "row", "column", "letter"] (defScope s_part) 0 "picture" = true := by decide +kernel
  have n1 : nmB ["picture", "steps", "row", "column", "letter"] (defScope s_part) 1 "steps" = true := by decide +kernel
  have n2 : nmB ["picture", "steps", "row", "column", "letter"] (defScope s_part) 2 "row" = true := by decide +kernel
  have n3 : nmB ["picture", "steps", "row", "column", "letter"] (defScope s_part) 3 "column" = true := by decide +kernel
  have n4 : nmB ["picture", "steps", "row", "column", "letter"] (defScope s_part) 4 "letter" = true := by decide +kernel
  rw [f_part_eq]
  unfold b_part
  exact fd_ok F sc_part rfl ((sb_cn (ss_st 4 l4 (snd_call F_letter_at g_letter_at (by walk_at "lvl") (snd_cons (snd_var 0 n0) (snd_cons (snd_var 1 n1) (snd_cons (snd_var 2 n2) (snd_cons (snd_var 3 n3) snd_nil)))))) (sb_on (ss_rt (snd_tup (snd_cons (snd_ix snd_oIx (snd_var 0 n0) snd_int) (snd_cons (snd_var 4 n4) snd_nil)))))))
abbrev s_ink_l : Stmt := topS 24
theorem sc_ink_l : FnScope ["_law_script", "_law_k", "_law_cell", "_law_total", "_law_other", "_law_mixed"] ["_law_script", "_law_k"] (defScope s_ink_l) := ⟨rfl, rfl, rfl, by decide +kernel, rfl, by decide +kernel, by decide +kernel⟩
theorem ok_ink_l {f : Addr} {fd : FuncData} (F : Fun K "_law_ink" "_law_ink" s_ink_l f fd) (T : Txt mg) : FnOk P w K mg base (L2.CX P w) 1 f fd ["_law_script", "_law_k"] (SpC K (C_of mg f_ink_l)) := by
  have g_abs : glB (defScope s_ink_l) "abs" = true := by decide +kernel
  have g_int : glB (defScope s_ink_l) "int" = true := by decide +kernel
  have g_len : glB (defScope s_ink_l) "len" = true := by decide +kernel
  have g_max : glB (defScope s_ink_l) "max" = true := by decide +kernel
  have g_sum : glB (defScope s_ink_l) "sum" = true := by decide +kernel
  have l2 : lcB ["_law_script", "_law_k", "_law_cell", "_law_total", "_law_other", "_law_mixed"] (defScope s_ink_l) 2 "_law_cell" = true := by decide +kernel
  have l3 : lcB ["_law_script", "_law_k", "_law_cell", "_law_total", "_law_other", "_law_mixed"] (defScope s_ink_l) 3 "_law_total" = true := by decide +kernel
  have l5 : lcB ["_law_script", "_law_k", "_law_cell", "_law_total", "_law_other", "_law_mixed"] (defScope s_ink_l) 5 "_law_mixed" = true := by decide +kernel
  have n0 : nmB ["_law_script", "_law_k", "_law_cell", "_law_total", "_law_other", "_law_mixed"] (defScope s_ink_l) 0 "_law_script" = true := by decide +kernel
  have n1 : nmB ["_law_script", "_law_k", "_law_cell", "_law_total", "_law_other", "_law_mixed"] (defScope s_ink_l) 1 "_law_k" = true := by decide +kernel
  have n2 : nmB ["_law_script", "_law_k", "_law_cell", "_law_total", "_law_other", "_law_mixed"] (defScope s_ink_l) 2 "_law_cell" = true := by decide +kernel
  have n3 : nmB ["_law_script", "_law_k", "_law_cell", "_law_total", "_law_other", "_law_mixed"] (defScope s_ink_l) 3 "_law_total" = true := by decide +kernel
  have n5 : nmB ["_law_script", "_law_k", "_law_cell", "_law_total", "_law_other", "_law_mixed"] (defScope s_ink_l) 5 "_law_mixed" = true := by decide +kernel
  rw [f_ink_l_eq]
  unfold b_ink_l
  exact fd_ok F sc_ink_l rfl ((sb_cn (ss_st 2 l2 (snd_eAdd (snd_eAdd (snd_bin snd_mul snd_int (snd_var 1 n1)) snd_int) (snd_callB snd_len T.len bf_len g_len (snd_cons (snd_var 0 n0) snd_nil)))) (sb_cn (ss_fi (sndt_cmp snd_lt (snd_var 1 n1) (snd_callB snd_len T.len bf_len g_len (snd_cons (snd_var 0 n0) snd_nil))) (sb_on (ss_st 2 l2 (snd_ix snd_oIx (snd_var 0 n0) (snd_var 1 n1)))) sb_nl) (sb_cn (ss_st 3 l3 (snd_callB snd_sum T.sum bf_sum g_sum (snd_cons (snd_F (snd_lc [("_law_other", 4)] (by walk_at "nmt") (snd_wSeq (snd_var 0 n0)) (own_nm 4 (by walk_at "nmt") (by walk_at "nmt")) gm_name sts_nil (snd_bin snd_mod (snd_callT snd_bInt T.int bt_int (by walk_at "nmt") (snd_cons (snd_var 4 (by walk_at "nmt")) snd_nil)) (snd_eAdd (snd_bin snd_pow snd_int snd_int) snd_int)))) snd_nil))) (sb_cn (ss_st 5 l5 (snd_bin snd_mod (snd_callT snd_bInt T.int bt_int g_int (snd_cons (snd_eAdd (snd_eAdd (snd_bin snd_mul (snd_var 2 n2) snd_int) (snd_bin snd_mul (snd_var 3 n3) snd_int)) (snd_bin snd_mul (snd_var 1 n1) snd_int)) snd_nil)) (snd_eAdd (snd_bin snd_pow snd_int snd_int) snd_int))) (sb_on (ss_rt (snd_M (snd_disp (snd_cons (snd_callB snd_max2 T.max bf_max g_max (snd_cons snd_int (snd_cons (snd_bin snd_sub (snd_callB snd_abs T.abs bf_abs g_abs (snd_cons (snd_var 2 n2) snd_nil)) (snd_bin snd_pow snd_int snd_int)) snd_nil))) (snd_cons (snd_var 5 n5) (snd_cons snd_int snd_nil))))))))))))
abbrev s_drip_l : Stmt := topS 25
theorem sc_drip_l : FnScope ["_law_ink_here", "_law_many", "_law_drop", "_law_mixed"] ["_law_ink_here", "_law_many"] (defScope s_drip_l) := ⟨rfl, rfl, rfl, by decide +kernel, rfl, by decide +kernel, by decide +kernel⟩
theorem ok_drip_l {f : Addr} {fd : FuncData} (F : Fun K "_law_drip" "_law_drip" s_drip_l f fd) (T : Txt mg) : FnOk P w K mg base (L2.CX P w) 1 f fd ["_law_ink_here", "_law_many"] (SpC K (C_of mg f_drip_l)) := by
  have g_int : glB (defScope s_drip_l) "int" = true := by decide +kernel
  have l2 : lcB ["_law_ink_here", "_law_many", "_law_drop", "_law_mixed"] (defScope s_drip_l) 2 "_law_drop" = true := by decide +kernel
  have l3 : lcB ["_law_ink_here", "_law_many", "_law_drop", "_law_mixed"] (defScope s_drip_l) 3 "_law_mixed" = true := by decide +kernel
  have n0 : nmB ["_law_ink_here", "_law_many", "_law_drop", "_law_mixed"] (defScope s_drip_l) 0 "_law_ink_here" = true := by decide +kernel
  have n1 : nmB ["_law_ink_here", "_law_many", "_law_drop", "_law_mixed"] (defScope s_drip_l) 1 "_law_many" = true := by decide +kernel
  have n2 : nmB ["_law_ink_here", "_law_many", "_law_drop", "_law_mixed"] (defScope s_drip_l) 2 "_law_drop" = true := by decide +kernel
  have n3 : nmB ["_law_ink_here", "_law_many", "_law_drop", "_law_mixed"] (defScope s_drip_l) 3 "_law_mixed" = true := by decide +kernel
  rw [f_drip_l_eq]
  unfold b_drip_l
  exact fd_ok F sc_drip_l rfl ((sb_cn (ss_kil (ss_fi (sndt_cmp snd_gt (snd_ix snd_oIx (snd_var 0 n0) snd_int) snd_int) (sb_cn (ss_st 2 l2 (snd_bin snd_mod (snd_callT snd_bInt T.int bt_int g_int (snd_cons (snd_ix snd_oIx (snd_var 0 n0) snd_int) snd_nil)) (snd_var 1 n1))) (sb_cn (ss_as (sg_it (snd_var 0 n0) snd_int) (snd_bin snd_div (snd_ix snd_oIx (snd_var 0 n0) snd_int) (snd_var 1 n1))) (sb_on (ss_rt (snd_var 2 n2))))) sb_nl)) (sb_cn (ss_as (sg_it (snd_var 0 n0) snd_int) (snd_eAdd (snd_ix snd_oIx (snd_var 0 n0) snd_int) snd_int)) (sb_cn (ss_st 3 l3 (snd_bin snd_mod (snd_callT snd_bInt T.int bt_int g_int (snd_cons (snd_bin snd_pow (snd_eAdd (snd_ix snd_oIx (snd_var 0 n0) snd_int) (snd_bin snd_mul snd_int (snd_ix snd_oIx (snd_var 0 n0) snd_int))) snd_int) snd_nil)) (snd_eAdd (snd_bin snd_pow snd_int snd_int) snd_int))) (sb_on (ss_rt (snd_bin snd_mod (snd_bin snd_div (snd_bin snd_mod (snd_callT snd_bInt T.int bt_int g_int (snd_cons (snd_bin snd_mul (snd_var 3 n3) (snd_eAdd (snd_var 3 n3) snd_int)) snd_nil)) (snd_eAdd (snd_bin snd_pow snd_int snd_int) snd_int)) snd_int) (snd_var 1 n1))))))))
abbrev s_same_l : Stmt := topS 26
theorem sc_same_l : FnScope ["_law_told", "_law_due", "_law_k"] ["_law_told", "_law_due"] (defScope s_same_l) := ⟨rfl, rfl, rfl, by decide +kernel, rfl, by decide +kernel, by decide +kernel⟩
theorem ok_same_l {self : Fd} {k : Nat} {f : Addr} {fd : FuncData} (F : Fun K "_law_same" "_law_same" s_same_l f fd) (T : Txt mg) (F_self : Fn P w K mg base "_law_same" k (C_of mg self)) (hk : 0 ≤ k) : FnOk P w K mg base (L2.CX P w) (k + 1) f fd ["_law_told", "_law_due"] (SpC K (C_of mg (fnD 2 [()] (b_same_l self)))) := by
  have g_all : glB (defScope s_same_l) "all" = true := by decide +kernel
  have g_bool : glB (defScope s_same_l) "bool" = true := by decide +kernel
  have g_int : glB (defScope s_same_l) "int" = true := by decide +kernel
  have g_isinstance : glB (defScope s_same_l) "isinstance" = true := by decide +kernel
  have g_len : glB (defScope s_same_l) "len" = true := by decide +kernel
  have g_list : glB (defScope s_same_l) "list" = true := by decide +kernel
  have g_range : glB (defScope s_same_l) "range" = true := by decide +kernel
  have g_tuple : glB (defScope s_same_l) "tuple" = true := by decide +kernel
  have n0 : nmB ["_law_told", "_law_due", "_law_k"] (defScope s_same_l) 0 "_law_told" = true := by decide +kernel
  have n1 : nmB ["_law_told", "_law_due", "_law_k"] (defScope s_same_l) 1 "_law_due" = true := by decide +kernel
  unfold b_same_l
  exact fd_ok F sc_same_l rfl ((sb_cn (ss_kil (ss_fi (sndt_val (snd_isi2 .tup .lst T.isinstance g_isinstance T.tuple bt_tuple g_tuple T.list bt_list g_list (snd_var 1 n1))) (sb_cn (ss_fi (sndt_w (sndw_or (sndt_cmp snd_ne (snd_isi .tup T.isinstance g_isinstance T.tuple bt_tuple g_tuple (snd_var 0 n0)) (snd_isi .tup T.isinstance g_isinstance T.tuple bt_tuple g_tuple (snd_var 1 n1))) (sndw_or1 (sndt_cmp snd_ne (snd_isi .lst T.isinstance g_isinstance T.list bt_list g_list (snd_var 0 n0)) (snd_isi .lst T.isinstance g_isinstance T.list bt_list g_list (snd_var 1 n1)))))) (sb_on (ss_rt snd_bl)) sb_nl) (sb_on (ss_rt (snd_and (snd_cmp snd_eq (snd_callB snd_len T.len bf_len g_len (snd_cons (snd_var 0 n0) snd_nil)) (snd_callB snd_len T.len bf_len g_len (snd_cons (snd_var 1 n1) snd_nil))) (snd_one (snd_callB snd_all T.all bf_all g_all (snd_cons (snd_F (snd_lc [("_law_k", 2)] (by walk_at "nmt") (snd_range1 T.range g_range (snd_callB snd_len T.len bf_len g_len (snd_cons (snd_var 1 n1) snd_nil))) (own_nm 2 (by walk_at "nmt") (by walk_at "nmt")) gm_name sts_nil (snd_call F_self (by walk_at "nmt") (Nat.le_refl _) (snd_cons (snd_ix snd_oIx (snd_var 0 (by walk_at "nmt")) (snd_var 2 (by walk_at "nmt"))) (snd_cons (snd_ix snd_oIx (snd_var 1 (by walk_at "nmt")) (snd_var 2 (by walk_at "nmt"))) snd_nil))))) snd_nil))))))) sb_nl)) (sb_cn (ss_fi (sndt_cmp snd_is (snd_var 1 n1) snd_non) (sb_on (ss_rt (snd_cmp snd_is (snd_var 0 n0) snd_non))) sb_nl) (sb_cn (ss_fi (sndt_val (snd_isi .bl T.isinstance g_isinstance T.bool bt_bool g_bool (snd_var 1 n1))) (sb_on (ss_rt (snd_and (snd_isi .bl T.isinstance g_isinstance T.bool bt_bool g_bool (snd_var 0 n0)) (snd_one (snd_cmp snd_eq (snd_var 0 n0) (snd_var 1 n1)))))) sb_nl) (sb_on (ss_rt (snd_and (snd_isi .int T.isinstance g_isinstance T.int bt_int g_int (snd_var 0 n0)) (snd_and (snd_not (snd_isi .bl T.isinstance g_isinstance T.bool bt_bool g_bool (snd_var 0 n0))) (snd_one (snd_cmp snd_eq (snd_var 0 n0) (snd_var 1 n1)))))))))))
abbrev s_order_l : Stmt := topS 27
theorem sc_order_l : FnScope ["_law_ink_here", "_law_many", "_law_left", "_law_order_here", "_law_turn"] ["_law_ink_here", "_law_many"] (defScope s_order_l) := ⟨rfl, rfl, rfl, by decide +kernel, rfl, by decide +kernel, by decide +kernel⟩
theorem ok_order_l {f : Addr} {fd : FuncData} (F : Fun K "_law_order" "_law_order" s_order_l f fd) (T : Txt mg) (F_drip_l : Fn P w K mg base "_law_drip" 1 (C_of mg f_drip_l)) : FnOk P w K mg base (L2.CX P w) 2 f fd ["_law_ink_here", "_law_many"] (SpC K (C_of mg f_order_l)) := by
  have g__law_drip : glB (defScope s_order_l) "_law_drip" = true := by decide +kernel
  have g_len : glB (defScope s_order_l) "len" = true := by decide +kernel
  have g_list : glB (defScope s_order_l) "list" = true := by decide +kernel
  have g_range : glB (defScope s_order_l) "range" = true := by decide +kernel
  have l2 : lcB ["_law_ink_here", "_law_many", "_law_left", "_law_order_here", "_law_turn"] (defScope s_order_l) 2 "_law_left" = true := by decide +kernel
  have l3 : lcB ["_law_ink_here", "_law_many", "_law_left", "_law_order_here", "_law_turn"] (defScope s_order_l) 3 "_law_order_here" = true := by decide +kernel
  have l4 : lcB ["_law_ink_here", "_law_many", "_law_left", "_law_order_here", "_law_turn"] (defScope s_order_l) 4 "_law_turn" = true := by decide +kernel
  have n0 : nmB ["_law_ink_here", "_law_many", "_law_left", "_law_order_here", "_law_turn"] (defScope s_order_l) 0 "_law_ink_here" = true := by decide +kernel
  have n1 : nmB ["_law_ink_here", "_law_many", "_law_left", "_law_order_here", "_law_turn"] (defScope s_order_l) 1 "_law_many" = true := by decide +kernel
  have n2 : nmB ["_law_ink_here", "_law_many", "_law_left", "_law_order_here", "_law_turn"] (defScope s_order_l) 2 "_law_left" = true := by decide +kernel
  have n3 : nmB ["_law_ink_here", "_law_many", "_law_left", "_law_order_here", "_law_turn"] (defScope s_order_l) 3 "_law_order_here" = true := by decide +kernel
  rw [f_order_l_eq]
  unfold b_order_l l_order_l_1
  exact fd_ok F sc_order_l rfl ((sb_cn (ss_st 2 l2 (snd_M (snd_lrange T.list g_list T.range g_range (snd_var 1 n1)))) (sb_cn (ss_st 3 l3 (snd_M (snd_disp snd_nil))) (sb_cn (ss_kil0 (ss_fr (sg_nm 4 l4) (snd_range1 T.range g_range (snd_var 1 n1)) (sb_kil (sb_on (ss_ex (snd_append (snd_var 3 n3) (snd_popI (snd_var 2 n2) (snd_call F_drip_l g__law_drip (by walk_at "lvl") (snd_cons (snd_var 0 n0) (snd_cons (snd_callB snd_len T.len bf_len g_len (snd_cons (snd_var 2 n2) snd_nil)) snd_nil)))))))))) (sb_on (ss_rt (snd_fz (snd_var 3 n3))))))))
abbrev s_shades_l : Stmt := topS 28
theorem sc_shades_l : FnScope ["_law_ink_here", "_law_letters", "_law_way", "_law_one", "_law_other", "_law_shades_here", "_law_letter"] ["_law_ink_here", "_law_letters"] (defScope s_shades_l) := ⟨rfl, rfl, rfl, by decide +kernel, rfl, by decide +kernel, by decide +kernel⟩
theorem ok_shades_l {f : Addr} {fd : FuncData} (F : Fun K "_law_shades" "_law_shades" s_shades_l f fd) (T : Txt mg) (F_drip_l : Fn P w K mg base "_law_drip" 1 (C_of mg f_drip_l)) : FnOk P w K mg base (L2.CX P w) 2 f fd ["_law_ink_here", "_law_letters"] (SpC K (C_of mg f_shades_l)) := by
  have g__law_drip : glB (defScope s_shades_l) "_law_drip" = true := by decide +kernel
  have g_range : glB (defScope s_shades_l) "range" = true := by decide +kernel
  have g_tuple : glB (defScope s_shades_l) "tuple" = true := by decide +kernel
  have l2 : lcB ["_law_ink_here", "_law_letters", "_law_way", "_law_one", "_law_other", "_law_shades_here", "_law_letter"] (defScope s_shades_l) 2 "_law_way" = true := by decide +kernel
  have l3 : lcB ["_law_ink_here", "_law_letters", "_law_way", "_law_one", "_law_other", "_law_shades_here", "_law_letter"] (defScope s_shades_l) 3 "_law_one" = true := by decide +kernel
  have l4 : lcB ["_law_ink_here", "_law_letters", "_law_way", "_law_one", "_law_other", "_law_shades_here", "_law_letter"] (defScope s_shades_l) 4 "_law_other" = true := by decide +kernel
  have l5 : lcB ["_law_ink_here", "_law_letters", "_law_way", "_law_one", "_law_other", "_law_shades_here", "_law_letter"] (defScope s_shades_l) 5 "_law_shades_here" = true := by decide +kernel
  have n0 : nmB ["_law_ink_here", "_law_letters", "_law_way", "_law_one", "_law_other", "_law_shades_here", "_law_letter"] (defScope s_shades_l) 0 "_law_ink_here" = true := by decide +kernel
  have n1 : nmB ["_law_ink_here", "_law_letters", "_law_way", "_law_one", "_law_other", "_law_shades_here", "_law_letter"] (defScope s_shades_l) 1 "_law_letters" = true := by decide +kernel
  have n2 : nmB ["_law_ink_here", "_law_letters", "_law_way", "_law_one", "_law_other", "_law_shades_here", "_law_letter"] (defScope s_shades_l) 2 "_law_way" = true := by decide +kernel
  have n3 : nmB ["_law_ink_here", "_law_letters", "_law_way", "_law_one", "_law_other", "_law_shades_here", "_law_letter"] (defScope s_shades_l) 3 "_law_one" = true := by decide +kernel
  have n4 : nmB ["_law_ink_here", "_law_letters", "_law_way", "_law_one", "_law_other", "_law_shades_here", "_law_letter"] (defScope s_shades_l) 4 "_law_other" = true := by decide +kernel
  have n5 : nmB ["_law_ink_here", "_law_letters", "_law_way", "_law_one", "_law_other", "_law_shades_here", "_law_letter"] (defScope s_shades_l) 5 "_law_shades_here" = true := by decide +kernel
  have o5 : loB ["_law_ink_here", "_law_letters", "_law_way", "_law_one", "_law_other", "_law_shades_here", "_law_letter"] (defScope s_shades_l) 5 "_law_shades_here" = true := by decide +kernel
  rw [f_shades_l_eq]
  unfold b_shades_l
  exact fd_ok F sc_shades_l rfl ((sb_cn (ss_st 2 l2 (snd_call F_drip_l g__law_drip (by walk_at "lvl") (snd_cons (snd_var 0 n0) (snd_cons snd_int snd_nil)))) (sb_cn (ss_st 3 l3 (snd_call F_drip_l g__law_drip (by walk_at "lvl") (snd_cons (snd_var 0 n0) (snd_cons snd_int snd_nil)))) (sb_cn (ss_st 4 l4 (snd_call F_drip_l g__law_drip (by walk_at "lvl") (snd_cons (snd_var 0 n0) (snd_cons snd_int snd_nil)))) (sb_cn (ss_st 5 l5 (snd_M (snd_rep (snd_M (snd_disp (snd_cons (snd_var 3 n3) snd_nil))) (snd_var 1 n1)))) (sb_cn (ss_kil (ss_fi (sndt_cmp snd_eq (snd_var 2 n2) snd_int) (sb_on (ss_lcM 5 o5 rfl (by walk_at "nmt") rfl [("_law_letter", 6)] (by walk_at "nmt") (snd_range1 T.range g_range (snd_var 1 n1)) (own_nm 6 (by walk_at "nmt") (by walk_at "nmt")) gm_name sts_nil (snd_call F_drip_l (by walk_at "nmt") (by walk_at "lvl") (snd_cons (snd_var 0 (by walk_at "nmt")) (snd_cons snd_int snd_nil))))) sb_nl)) (sb_cn (ss_kil (ss_fi (sndt_cmp snd_eq (snd_var 2 n2) snd_int) (sb_on (ss_lcM 5 o5 rfl (by walk_at "nmt") rfl [("_law_letter", 6)] (by walk_at "nmt") (snd_range1 T.range g_range (snd_var 1 n1)) (own_nm 6 (by walk_at "nmt") (by walk_at "nmt")) gm_name sts_nil (snd_ix snd_oIx (snd_F (snd_disp (snd_cons (snd_var 3 (by walk_at "nmt")) (snd_cons (snd_var 4 (by walk_at "nmt")) snd_nil)))) (snd_call F_drip_l (by walk_at "nmt") (by walk_at "lvl") (snd_cons (snd_var 0 (by walk_at "nmt")) (snd_cons snd_int snd_nil)))))) sb_nl)) (sb_cn (ss_fi (sndt_cmp snd_eq (snd_var 2 n2) snd_int) (sb_on (ss_as (sg_it (snd_var 5 n5) (snd_call F_drip_l g__law_drip (by walk_at "lvl") (snd_cons (snd_var 0 n0) (snd_cons (snd_var 1 n1) snd_nil)))) (snd_var 4 n4))) sb_nl) (sb_cn (ss_fi (sndt_cmp snd_eq (snd_var 2 n2) snd_int) (sb_on (ss_as (sg_it (snd_var 5 n5) (snd_bin snd_sub (snd_var 1 n1) snd_int)) (snd_var 4 n4))) sb_nl) (sb_on (ss_rt (snd_callT snd_bTuple T.tuple bt_tuple g_tuple (snd_cons (snd_fz (snd_var 5 n5)) snd_nil)))))))))))))
abbrev s_block_l : Stmt := topS 29
theorem sc_block_l : FnScope ["_law_ink_here", "_law_way", "_law_letter", "_law_letters", "_law_base", "_law_near", "_law_goals", "_law_place", "_law_goal", "_law_i"] ["_law_ink_here", "_law_way", "_law_letter", "_law_letters", "_law_base"] (defScope s_block_l) := ⟨rfl, rfl, rfl, by decide +kernel, rfl, by decide +kernel, by decide +kernel⟩
theorem ok_block_l {f : Addr} {fd : FuncData} (F : Fun K "_law_block" "_law_block" s_block_l f fd) (T : Txt mg) (F_drip_l : Fn P w K mg base "_law_drip" 1 (C_of mg f_drip_l)) : FnOk P w K mg base (L2.CX P w) 2 f fd ["_law_ink_here", "_law_way", "_law_letter", "_law_letters", "_law_base"] (SpC K (C_of mg f_block_l)) := by
  have g__law_drip : glB (defScope s_block_l) "_law_drip" = true := by decide +kernel
  have g_int : glB (defScope s_block_l) "int" = true := by decide +kernel
  have g_min : glB (defScope s_block_l) "min" = true := by decide +kernel
  have g_range : glB (defScope s_block_l) "range" = true := by decide +kernel
  have g_tuple : glB (defScope s_block_l) "tuple" = true := by decide +kernel
  have l5 : lcB ["_law_ink_here", "_law_way", "_law_letter", "_law_letters", "_law_base", "_law_near", "_law_goals", "_law_place", "_law_goal", "_law_i"] (defScope s_block_l) 5 "_law_near" = true := by decide +kernel
  have l6 : lcB ["_law_ink_here", "_law_way", "_law_letter", "_law_letters", "_law_base", "_law_near", "_law_goals", "_law_place", "_law_goal", "_law_i"] (defScope s_block_l) 6 "_law_goals" = true := by decide +kernel
  have l7 : lcB ["_law_ink_here", "_law_way", "_law_letter", "_law_letters", "_law_base", "_law_near", "_law_goals", "_law_place", "_law_goal", "_law_i"] (defScope s_block_l) 7 "_law_place" = true := by decide +kernel
  have l8 : lcB ["_law_ink_here", "_law_way", "_law_letter", "_law_letters", "_law_base", "_law_near", "_law_goals", "_law_place", "_law_goal", "_law_i"] (defScope s_block_l) 8 "_law_goal" = true := by decide +kernel
  have n0 : nmB ["_law_ink_here", "_law_way", "_law_letter", "_law_letters", "_law_base", "_law_near", "_law_goals", "_law_place", "_law_goal", "_law_i"] (defScope s_block_l) 0 "_law_ink_here" = true := by decide +kernel
  have n1 : nmB ["_law_ink_here", "_law_way", "_law_letter", "_law_letters", "_law_base", "_law_near", "_law_goals", "_law_place", "_law_goal", "_law_i"] (defScope s_block_l) 1 "_law_way" = true := by decide +kernel
  have n2 : nmB ["_law_ink_here", "_law_way", "_law_letter", "_law_letters", "_law_base", "_law_near", "_law_goals", "_law_place", "_law_goal", "_law_i"] (defScope s_block_l) 2 "_law_letter" = true := by decide +kernel
  have n3 : nmB ["_law_ink_here", "_law_way", "_law_letter", "_law_letters", "_law_base", "_law_near", "_law_goals", "_law_place", "_law_goal", "_law_i"] (defScope s_block_l) 3 "_law_letters" = true := by decide +kernel
  have n4 : nmB ["_law_ink_here", "_law_way", "_law_letter", "_law_letters", "_law_base", "_law_near", "_law_goals", "_law_place", "_law_goal", "_law_i"] (defScope s_block_l) 4 "_law_base" = true := by decide +kernel
  have n5 : nmB ["_law_ink_here", "_law_way", "_law_letter", "_law_letters", "_law_base", "_law_near", "_law_goals", "_law_place", "_law_goal", "_law_i"] (defScope s_block_l) 5 "_law_near" = true := by decide +kernel
  have n6 : nmB ["_law_ink_here", "_law_way", "_law_letter", "_law_letters", "_law_base", "_law_near", "_law_goals", "_law_place", "_law_goal", "_law_i"] (defScope s_block_l) 6 "_law_goals" = true := by decide +kernel
  have n8 : nmB ["_law_ink_here", "_law_way", "_law_letter", "_law_letters", "_law_base", "_law_near", "_law_goals", "_law_place", "_law_goal", "_law_i"] (defScope s_block_l) 8 "_law_goal" = true := by decide +kernel
  rw [f_block_l_eq]
  unfold b_block_l l_block_l_1
  exact fd_ok F sc_block_l rfl ((sb_cn (ss_st 5 l5 (snd_call F_drip_l g__law_drip (by walk_at "lvl") (snd_cons (snd_var 0 n0) (snd_cons (snd_var 3 n3) snd_nil)))) (sb_cn (ss_st 6 l6 (snd_M (snd_disp snd_nil))) (sb_cn (ss_kil0 (ss_fr (sg_nm 7 l7) (snd_range1 T.range g_range (snd_bin snd_mul (snd_var 4 n4) (snd_var 4 n4))) (sb_kil (sb_cn (ss_st 8 l8 (snd_var 5 n5)) (sb_cn (ss_fi (sndt_cmp snd_eq (snd_var 1 n1) snd_int) (sb_on (ss_st 8 l8 (snd_call F_drip_l g__law_drip (by walk_at "lvl") (snd_cons (snd_var 0 n0) (snd_cons (snd_var 3 n3) snd_nil))))) sb_nl) (sb_cn (ss_fi (sndt_cmp snd_eq (snd_var 1 n1) snd_int) (sb_on (ss_st 8 l8 (snd_callB snd_min2 T.min bf_min g_min (snd_cons (snd_bin snd_sub (snd_var 3 n3) snd_int) (snd_cons (snd_eAdd (snd_var 2 n2) (snd_call F_drip_l g__law_drip (by walk_at "lvl") (snd_cons (snd_var 0 n0) (snd_cons snd_int snd_nil)))) snd_nil))))) sb_nl) (sb_cn (ss_fi (sndt_cmp snd_eq (snd_var 1 n1) snd_int) (sb_on (ss_st 8 l8 (snd_bin snd_mod (snd_callT snd_bInt T.int bt_int g_int (snd_cons (snd_eAdd (snd_var 2 n2) snd_int) snd_nil)) (snd_var 3 n3)))) sb_nl) (sb_cn (ss_fi (sndt_cmp snd_eq (snd_var 1 n1) snd_int) (sb_on (ss_st 8 l8 (snd_ix snd_oIx (snd_F (snd_disp (snd_cons (snd_var 5 n5) (snd_cons (snd_var 2 n2) snd_nil)))) (snd_call F_drip_l g__law_drip (by walk_at "lvl") (snd_cons (snd_var 0 n0) (snd_cons snd_int snd_nil)))))) sb_nl) (sb_on (ss_ex (snd_append (snd_var 6 n6) (snd_var 8 n8)))))))))))) (sb_cn (ss_fi (sndt_w (sndw_and (sndt_cmp snd_gt (snd_var 1 n1) snd_int) (sndw_and1 (sndt_cmp snd_eq (snd_call F_drip_l g__law_drip (by walk_at "lvl") (snd_cons (snd_var 0 n0) (snd_cons snd_int snd_nil))) snd_int)))) (sb_on (ss_as (sg_it (snd_var 6 n6) (snd_call F_drip_l g__law_drip (by walk_at "lvl") (snd_cons (snd_var 0 n0) (snd_cons (snd_bin snd_mul (snd_var 4 n4) (snd_var 4 n4)) snd_nil)))) (snd_call F_drip_l g__law_drip (by walk_at "lvl") (snd_cons (snd_var 0 n0) (snd_cons (snd_var 3 n3) snd_nil))))) sb_nl) (sb_on (ss_rt (snd_callT snd_bTuple T.tuple bt_tuple g_tuple (snd_cons (snd_F (snd_lc [("_law_i", 9)] (by walk_at "nmt") (snd_range1 T.range g_range (snd_var 4 n4)) (own_nm 9 (by walk_at "nmt") (by walk_at "nmt")) gm_name sts_nil (snd_callT snd_bTuple T.tuple bt_tuple (by walk_at "nmt") (snd_cons (snd_cut (snd_var 6 (by walk_at "nmt")) (snd_oSome (snd_bin snd_mul (snd_var 4 (by walk_at "nmt")) (snd_var 9 (by walk_at "nmt")))) (snd_oSome (snd_eAdd (snd_bin snd_mul (snd_var 4 (by walk_at "nmt")) (snd_var 9 (by walk_at "nmt"))) (snd_var 4 (by walk_at "nmt"))))) snd_nil)))) snd_nil)))))))))
abbrev s_renamed_l : Stmt := topS 31
theorem sc_renamed_l : FnScope ["_law_book_here", "_law_order_here", "_law_back", "_law_name", "_law_made", "_law_old", "_law_letter", "_law_row"] ["_law_book_here", "_law_order_here"] (defScope s_renamed_l) := ⟨rfl, rfl, rfl, by decide +kernel, rfl, by decide +kernel, by decide +kernel⟩
theorem ok_renamed_l {f : Addr} {fd : FuncData} (F : Fun K "_law_renamed" "_law_renamed" s_renamed_l f fd) (T : Txt mg) : FnOk P w K mg base (L2.CX P w) 1 f fd ["_law_book_here", "_law_order_here"] (SpC K (C_of mg f_renamed_l)) := by
  have g_len : glB (defScope s_renamed_l) "len" = true := by decide +kernel
  have g_range : glB (defScope s_renamed_l) "range" = true := by decide +kernel
  have g_tuple : glB (defScope s_renamed_l) "tuple" = true := by decide +kernel
  have l4 : lcB ["_law_book_here", "_law_order_here", "_law_back", "_law_name", "_law_made", "_law_old", "_law_letter", "_law_row"] (defScope s_renamed_l) 4 "_law_made" = true := by decide +kernel
  have l5 : lcB ["_law_book_here", "_law_order_here", "_law_back", "_law_name", "_law_made", "_law_old", "_law_letter", "_law_row"] (defScope s_renamed_l) 5 "_law_old" = true := by decide +kernel
  have n0 : nmB ["_law_book_here", "_law_order_here", "_law_back", "_law_name", "_law_made", "_law_old", "_law_letter", "_law_row"] (defScope s_renamed_l) 0 "_law_book_here" = true := by decide +kernel
  have n1 : nmB ["_law_book_here", "_law_order_here", "_law_back", "_law_name", "_law_made", "_law_old", "_law_letter", "_law_row"] (defScope s_renamed_l) 1 "_law_order_here" = true := by decide +kernel
  have n2 : nmB ["_law_book_here", "_law_order_here", "_law_back", "_law_name", "_law_made", "_law_old", "_law_letter", "_law_row"] (defScope s_renamed_l) 2 "_law_back" = true := by decide +kernel
  have n4 : nmB ["_law_book_here", "_law_order_here", "_law_back", "_law_name", "_law_made", "_law_old", "_law_letter", "_law_row"] (defScope s_renamed_l) 4 "_law_made" = true := by decide +kernel
  have n5 : nmB ["_law_book_here", "_law_order_here", "_law_back", "_law_name", "_law_made", "_law_old", "_law_letter", "_law_row"] (defScope s_renamed_l) 5 "_law_old" = true := by decide +kernel
  have o2 : loB ["_law_book_here", "_law_order_here", "_law_back", "_law_name", "_law_made", "_law_old", "_law_letter", "_law_row"] (defScope s_renamed_l) 2 "_law_back" = true := by decide +kernel
  rw [f_renamed_l_eq]
  unfold b_renamed_l l_renamed_l_1
  exact fd_ok F sc_renamed_l rfl ((sb_cn (ss_lcF 2 o2 rfl (by walk_at "nmt") rfl [("_law_name", 3)] (by walk_at "nmt") (snd_range1 T.range g_range (snd_callB snd_len T.len bf_len g_len (snd_cons (snd_var 1 n1) snd_nil))) (own_nm 3 (by walk_at "nmt") (by walk_at "nmt")) gm_name sts_nil (snd_index (snd_var 1 (by walk_at "nmt")) (snd_var 3 (by walk_at "nmt")))) (sb_cn (ss_st 4 l4 (snd_M (snd_disp snd_nil))) (sb_cn (ss_kil0 (ss_fr (sg_nm 5 l5) (snd_wSeq (snd_var 2 n2)) (sb_kil (sb_on (ss_ex (snd_append (snd_var 4 n4) (snd_callT snd_bTuple T.tuple bt_tuple g_tuple (snd_cons (snd_F (snd_lc [("_law_row", 7)] (by walk_at "nmt") (snd_wSeq (snd_ix snd_oIx (snd_ix snd_oIx (snd_var 0 n0) snd_int) (snd_var 5 n5))) (own_nm 7 (by walk_at "nmt") (by walk_at "nmt")) gm_name sts_nil (snd_callT snd_bTuple T.tuple bt_tuple (by walk_at "nmt") (snd_cons (snd_F (snd_lc [("_law_letter", 6)] (by walk_at "nmt") (snd_wSeq (snd_var 7 (by walk_at "nmt"))) (own_nm 6 (by walk_at "nmt") (by walk_at "nmt")) gm_name sts_nil (snd_ix snd_oIx (snd_var 1 (by walk_at "nmt")) (snd_var 6 (by walk_at "nmt"))))) snd_nil)))) snd_nil)))))))) (sb_on (ss_rt (snd_tup (snd_cons (snd_ix snd_oIx (snd_var 0 n0) snd_int) (snd_cons (snd_callT snd_bTuple T.tuple bt_tuple g_tuple (snd_cons (snd_F (snd_lc [("_law_old", 5)] (by walk_at "nmt") (snd_wSeq (snd_var 2 n2)) (own_nm 5 (by walk_at "nmt") (by walk_at "nmt")) gm_name sts_nil (snd_ix snd_oIx (snd_ix snd_oIx (snd_var 0 (by walk_at "nmt")) snd_int) (snd_var 5 (by walk_at "nmt"))))) snd_nil)) (snd_cons (snd_callT snd_bTuple T.tuple bt_tuple g_tuple (snd_cons (snd_fz (snd_var 4 n4)) snd_nil)) snd_nil))))))))))
abbrev s_book_l : Stmt := topS 30
theorem sc_book_l : FnScope ["_law_ink_here", "_law_base", "_law_most", "_law_letters", "_law_way", "_law_blocks", "_law_letter"] ["_law_ink_here", "_law_base", "_law_most"] (defScope s_book_l) := ⟨rfl, rfl, rfl, by decide +kernel, rfl, by decide +kernel, by decide +kernel⟩
theorem ok_book_l {f : Addr} {fd : FuncData} (F : Fun K "_law_book" "_law_book" s_book_l f fd) (T : Txt mg) (F_block_l : Fn P w K mg base "_law_block" 2 (C_of mg f_block_l)) (F_drip_l : Fn P w K mg base "_law_drip" 1 (C_of mg f_drip_l)) (F_order_l : Fn P w K mg base "_law_order" 2 (C_of mg f_order_l)) (F_renamed_l : Fn P w K mg base "_law_renamed" 1 (C_of mg f_renamed_l)) (F_shades_l : Fn P w K mg base "_law_shades" 2 (C_of mg f_shades_l)) : FnOk P w K mg base (L2.CX P w) 3 f fd ["_law_ink_here", "_law_base", "_law_most"] (SpC K (C_of mg f_book_l)) := by
  have g__law_drip : glB (defScope s_book_l) "_law_drip" = true := by decide +kernel
  have g__law_order : glB (defScope s_book_l) "_law_order" = true := by decide +kernel
  have g__law_renamed : glB (defScope s_book_l) "_law_renamed" = true := by decide +kernel
  have g__law_shades : glB (defScope s_book_l) "_law_shades" = true := by decide +kernel
  have g_range : glB (defScope s_book_l) "range" = true := by decide +kernel
  have g_tuple : glB (defScope s_book_l) "tuple" = true := by decide +kernel
  have l3 : lcB ["_law_ink_here", "_law_base", "_law_most", "_law_letters", "_law_way", "_law_blocks", "_law_letter"] (defScope s_book_l) 3 "_law_letters" = true := by decide +kernel
  have l4 : lcB ["_law_ink_here", "_law_base", "_law_most", "_law_letters", "_law_way", "_law_blocks", "_law_letter"] (defScope s_book_l) 4 "_law_way" = true := by decide +kernel
  have n0 : nmB ["_law_ink_here", "_law_base", "_law_most", "_law_letters", "_law_way", "_law_blocks", "_law_letter"] (defScope s_book_l) 0 "_law_ink_here" = true := by decide +kernel
  have n1 : nmB ["_law_ink_here", "_law_base", "_law_most", "_law_letters", "_law_way", "_law_blocks", "_law_letter"] (defScope s_book_l) 1 "_law_base" = true := by decide +kernel
  have n2 : nmB ["_law_ink_here", "_law_base", "_law_most", "_law_letters", "_law_way", "_law_blocks", "_law_letter"] (defScope s_book_l) 2 "_law_most" = true := by decide +kernel
  have n3 : nmB ["_law_ink_here", "_law_base", "_law_most", "_law_letters", "_law_way", "_law_blocks", "_law_letter"] (defScope s_book_l) 3 "_law_letters" = true := by decide +kernel
  have n5 : nmB ["_law_ink_here", "_law_base", "_law_most", "_law_letters", "_law_way", "_law_blocks", "_law_letter"] (defScope s_book_l) 5 "_law_blocks" = true := by decide +kernel
  have o5 : loB ["_law_ink_here", "_law_base", "_law_most", "_law_letters", "_law_way", "_law_blocks", "_law_letter"] (defScope s_book_l) 5 "_law_blocks" = true := by decide +kernel
  rw [f_book_l_eq]
  unfold b_book_l
  exact fd_ok F sc_book_l rfl ((sb_cn (ss_st 3 l3 (snd_eAdd snd_int (snd_call F_drip_l g__law_drip (by walk_at "lvl") (snd_cons (snd_var 0 n0) (snd_cons (snd_var 2 n2) snd_nil))))) (sb_cn (ss_st 4 l4 (snd_call F_drip_l g__law_drip (by walk_at "lvl") (snd_cons (snd_var 0 n0) (snd_cons snd_int snd_nil)))) (sb_cn (ss_lcF 5 o5 rfl (by walk_at "nmt") rfl [("_law_letter", 6)] (by walk_at "nmt") (snd_range1 T.range g_range (snd_var 3 n3)) (own_nm 6 (by walk_at "nmt") (by walk_at "nmt")) gm_name sts_nil (snd_call F_block_l (by walk_at "nmt") (by walk_at "lvl") (snd_cons (snd_var 0 (by walk_at "nmt")) (snd_cons (snd_var 4 (by walk_at "nmt")) (snd_cons (snd_var 6 (by walk_at "nmt")) (snd_cons (snd_var 3 (by walk_at "nmt")) (snd_cons (snd_var 1 (by walk_at "nmt")) snd_nil))))))) (sb_on (ss_rt (snd_call F_renamed_l g__law_renamed (by walk_at "lvl") (snd_cons (snd_tup (snd_cons (snd_var 1 n1) (snd_cons (snd_call F_shades_l g__law_shades (by walk_at "lvl") (snd_cons (snd_var 0 n0) (snd_cons (snd_var 3 n3) snd_nil))) (snd_cons (snd_callT snd_bTuple T.tuple bt_tuple g_tuple (snd_cons (snd_var 5 n5) snd_nil)) snd_nil)))) (snd_cons (snd_call F_order_l g__law_order (by walk_at "lvl") (snd_cons (snd_var 0 n0) (snd_cons (snd_var 3 n3) snd_nil))) snd_nil)))))))))
abbrev s_depth_l : Stmt := topS 32
theorem sc_depth_l : FnScope ["_law_ink_here"] ["_law_ink_here"] (defScope s_depth_l) := ⟨rfl, rfl, rfl, by decide +kernel, rfl, by decide +kernel, by decide +kernel⟩
theorem ok_depth_l {f : Addr} {fd : FuncData} (F : Fun K "_law_depth" "_law_depth" s_depth_l f fd) (F_drip_l : Fn P w K mg base "_law_drip" 1 (C_of mg f_drip_l)) : FnOk P w K mg base (L2.CX P w) 2 f fd ["_law_ink_here"] (SpC K (C_of mg f_depth_l)) := by
  have g__law_drip : glB (defScope s_depth_l) "_law_drip" = true := by decide +kernel
  have n0 : nmB ["_law_ink_here"] (defScope s_depth_l) 0 "_law_ink_here" = true := by decide +kernel
  rw [f_depth_l_eq]
  unfold b_depth_l
  exact fd_ok F sc_depth_l rfl ((sb_cn (ss_fi (sndt_cmp snd_eq (snd_call F_drip_l g__law_drip (by walk_at "lvl") (snd_cons (snd_var 0 n0) (snd_cons snd_int snd_nil))) snd_int) (sb_on (ss_rt (snd_ix snd_oIx (snd_F (snd_disp (snd_cons snd_int (snd_cons snd_int (snd_cons snd_int (snd_cons snd_int (snd_cons snd_int (snd_cons snd_int (snd_cons snd_int (snd_cons snd_int snd_nil)))))))))) (snd_call F_drip_l g__law_drip (by walk_at "lvl") (snd_cons (snd_var 0 n0) (snd_cons snd_int snd_nil)))))) sb_nl) (sb_on (ss_rt (snd_call F_drip_l g__law_drip (by walk_at "lvl") (snd_cons (snd_var 0 n0) (snd_cons snd_int snd_nil)))))))
abbrev s_line_l : Stmt := topS 33
theorem sc_line_l : FnScope ["_law_ink_here", "_law_base", "_law_depth_here", "_law_way", "_law_turn", "_law_figures"] ["_law_ink_here", "_law_base", "_law_depth_here"] (defScope s_line_l) := ⟨rfl, rfl, rfl, by decide +kernel, rfl, by decide +kernel, by decide +kernel⟩
theorem ok_line_l {f : Addr} {fd : FuncData} (F : Fun K "_law_line" "_law_line" s_line_l f fd) (T : Txt mg) (F_drip_l : Fn P w K mg base "_law_drip" 1 (C_of mg f_drip_l)) : FnOk P w K mg base (L2.CX P w) 2 f fd ["_law_ink_here", "_law_base", "_law_depth_here"] (SpC K (C_of mg f_line_l)) := by
  have g__law_drip : glB (defScope s_line_l) "_law_drip" = true := by decide +kernel
  have g_range : glB (defScope s_line_l) "range" = true := by decide +kernel
  have l3 : lcB ["_law_ink_here", "_law_base", "_law_depth_here", "_law_way", "_law_turn", "_law_figures"] (defScope s_line_l) 3 "_law_way" = true := by decide +kernel
  have l5 : lcB ["_law_ink_here", "_law_base", "_law_depth_here", "_law_way", "_law_turn", "_law_figures"] (defScope s_line_l) 5 "_law_figures" = true := by decide +kernel
  have n0 : nmB ["_law_ink_here", "_law_base", "_law_depth_here", "_law_way", "_law_turn", "_law_figures"] (defScope s_line_l) 0 "_law_ink_here" = true := by decide +kernel
  have n1 : nmB ["_law_ink_here", "_law_base", "_law_depth_here", "_law_way", "_law_turn", "_law_figures"] (defScope s_line_l) 1 "_law_base" = true := by decide +kernel
  have n2 : nmB ["_law_ink_here", "_law_base", "_law_depth_here", "_law_way", "_law_turn", "_law_figures"] (defScope s_line_l) 2 "_law_depth_here" = true := by decide +kernel
  have n3 : nmB ["_law_ink_here", "_law_base", "_law_depth_here", "_law_way", "_law_turn", "_law_figures"] (defScope s_line_l) 3 "_law_way" = true := by decide +kernel
  have n5 : nmB ["_law_ink_here", "_law_base", "_law_depth_here", "_law_way", "_law_turn", "_law_figures"] (defScope s_line_l) 5 "_law_figures" = true := by decide +kernel
  rw [f_line_l_eq]
  unfold b_line_l
  exact fd_ok F sc_line_l rfl ((sb_cn (ss_st 3 l3 (snd_call F_drip_l g__law_drip (by walk_at "lvl") (snd_cons (snd_var 0 n0) (snd_cons snd_int snd_nil)))) (sb_cn (ss_kil (ss_fi (sndt_cmp snd_eq (snd_var 3 n3) snd_int) (sb_on (ss_rt (snd_F (snd_lc [("_law_turn", 4)] (by walk_at "nmt") (snd_range1 T.range g_range (snd_var 2 n2)) (own_nm 4 (by walk_at "nmt") (by walk_at "nmt")) gm_name sts_nil (snd_call F_drip_l (by walk_at "nmt") (by walk_at "lvl") (snd_cons (snd_var 0 (by walk_at "nmt")) (snd_cons (snd_var 1 (by walk_at "nmt")) snd_nil))))))) sb_nl)) (sb_cn (ss_st 5 l5 (snd_M (snd_rep (snd_M (snd_disp (snd_cons (snd_call F_drip_l g__law_drip (by walk_at "lvl") (snd_cons (snd_var 0 n0) (snd_cons (snd_var 1 n1) snd_nil))) snd_nil))) (snd_var 2 n2)))) (sb_cn (ss_fi (sndt_w (sndw_and (sndt_cmp snd_eq (snd_var 3 n3) snd_int) (sndw_and1 (sndt_cmp snd_gt (snd_var 2 n2) snd_int)))) (sb_on (ss_as (sg_it (snd_var 5 n5) (snd_call F_drip_l g__law_drip (by walk_at "lvl") (snd_cons (snd_var 0 n0) (snd_cons (snd_var 2 n2) snd_nil)))) (snd_call F_drip_l g__law_drip (by walk_at "lvl") (snd_cons (snd_var 0 n0) (snd_cons (snd_var 1 n1) snd_nil))))) sb_nl) (sb_on (ss_rt (snd_fz (snd_var 5 n5)))))))))
abbrev s_number_l : Stmt := topS 34
theorem sc_number_l : FnScope ["_law_figures", "_law_base", "_law_number_here", "_law_figure"] ["_law_figures", "_law_base"] (defScope s_number_l) := ⟨rfl, rfl, rfl, by decide +kernel, rfl, by decide +kernel, by decide +kernel⟩
theorem ok_number_l {f : Addr} {fd : FuncData} (F : Fun K "_law_number" "_law_number" s_number_l f fd)  : FnOk P w K mg base (L2.CX P w) 1 f fd ["_law_figures", "_law_base"] (SpC K (C_of mg f_number_l)) := by
  have l2 : lcB ["_law_figures", "_law_base", "_law_number_here", "_law_figure"] (defScope s_number_l) 2 "_law_number_here" = true := by decide +kernel
  have l3 : lcB ["_law_figures", "_law_base", "_law_number_here", "_law_figure"] (defScope s_number_l) 3 "_law_figure" = true := by decide +kernel
  have n0 : nmB ["_law_figures", "_law_base", "_law_number_here", "_law_figure"] (defScope s_number_l) 0 "_law_figures" = true := by decide +kernel
  have n1 : nmB ["_law_figures", "_law_base", "_law_number_here", "_law_figure"] (defScope s_number_l) 1 "_law_base" = true := by decide +kernel
  have n2 : nmB ["_law_figures", "_law_base", "_law_number_here", "_law_figure"] (defScope s_number_l) 2 "_law_number_here" = true := by decide +kernel
  have n3 : nmB ["_law_figures", "_law_base", "_law_number_here", "_law_figure"] (defScope s_number_l) 3 "_law_figure" = true := by decide +kernel
  rw [f_number_l_eq]
  unfold b_number_l l_number_l_1
  exact fd_ok F sc_number_l rfl ((sb_cn (ss_st 2 l2 snd_int) (sb_cn (ss_kil0 (ss_fr (sg_nm 3 l3) (snd_wSeq (snd_var 0 n0)) (sb_kil (sb_on (ss_st 2 l2 (snd_eAdd (snd_bin snd_mul (snd_var 2 n2) (snd_var 1 n1)) (snd_var 3 n3))))))) (sb_on (ss_rt (snd_var 2 n2))))))
abbrev s_led_l : Stmt := topS 35
theorem sc_led_l : FnScope ["_law_book_here", "_law_letter", "_law_down", "_law_across", "_law_k"] ["_law_book_here", "_law_letter", "_law_down", "_law_across"] (defScope s_led_l) := ⟨rfl, rfl, rfl, by decide +kernel, rfl, by decide +kernel, by decide +kernel⟩
theorem ok_led_l {f : Addr} {fd : FuncData} (F : Fun K "_law_led" "_law_led" s_led_l f fd) (T : Txt mg) : FnOk P w K mg base (L2.CX P w) 1 f fd ["_law_book_here", "_law_letter", "_law_down", "_law_across"] (SpC K (C_of mg f_led_l)) := by
  have g_len : glB (defScope s_led_l) "len" = true := by decide +kernel
  have g_range : glB (defScope s_led_l) "range" = true := by decide +kernel
  have l1 : lcB ["_law_book_here", "_law_letter", "_law_down", "_law_across", "_law_k"] (defScope s_led_l) 1 "_law_letter" = true := by decide +kernel
  have l4 : lcB ["_law_book_here", "_law_letter", "_law_down", "_law_across", "_law_k"] (defScope s_led_l) 4 "_law_k" = true := by decide +kernel
  have n0 : nmB ["_law_book_here", "_law_letter", "_law_down", "_law_across", "_law_k"] (defScope s_led_l) 0 "_law_book_here" = true := by decide +kernel
  have n1 : nmB ["_law_book_here", "_law_letter", "_law_down", "_law_across", "_law_k"] (defScope s_led_l) 1 "_law_letter" = true := by decide +kernel
  have n2 : nmB ["_law_book_here", "_law_letter", "_law_down", "_law_across", "_law_k"] (defScope s_led_l) 2 "_law_down" = true := by decide +kernel
  have n3 : nmB ["_law_book_here", "_law_letter", "_law_down", "_law_across", "_law_k"] (defScope s_led_l) 3 "_law_across" = true := by decide +kernel
  have n4 : nmB ["_law_book_here", "_law_letter", "_law_down", "_law_across", "_law_k"] (defScope s_led_l) 4 "_law_k" = true := by decide +kernel
  rw [f_led_l_eq]
  unfold b_led_l l_led_l_1
  exact fd_ok F sc_led_l rfl ((sb_cn (ss_kil0 (ss_fr (sg_nm 4 l4) (snd_range1 T.range g_range (snd_callB snd_len T.len bf_len g_len (snd_cons (snd_var 2 n2) snd_nil))) (sb_kil (sb_on (ss_st 1 l1 (snd_ix snd_oIx (snd_ix snd_oIx (snd_ix snd_oIx (snd_ix snd_oIx (snd_var 0 n0) snd_int) (snd_var 1 n1)) (snd_ix snd_oIx (snd_var 2 n2) (snd_var 4 n4))) (snd_ix snd_oIx (snd_var 3 n3) (snd_var 4 n4)))))))) (sb_on (ss_rt (snd_var 1 n1)))))
abbrev s_cell_right_l : Stmt := topS 36
theorem sc_cell_right_l : FnScope ["_law_ink_here", "_law_picture", "_law_book_here", "_law_letter", "_law_depth_here", "_law_down", "_law_across", "_law_row", "_law_column", "_law_due"] ["_law_ink_here", "_law_picture"] (defScope s_cell_right_l) := ⟨rfl, rfl, rfl, by decide +kernel, rfl, by decide +kernel, by decide +kernel⟩
theorem ok_cell_right_l {f : Addr} {fd : FuncData} (F : Fun K "_law_cell_right" "_law_cell_right" s_cell_right_l f fd) (T : Txt mg) (F_depth_l : Fn P w K mg base "_law_depth" 2 (C_of mg f_depth_l)) (F_drip_l : Fn P w K mg base "_law_drip" 1 (C_of mg f_drip_l)) (F_led_l : Fn P w K mg base "_law_led" 1 (C_of mg f_led_l)) (F_line_l : Fn P w K mg base "_law_line" 2 (C_of mg f_line_l)) (F_number_l : Fn P w K mg base "_law_number" 1 (C_of mg f_number_l)) (F_same_l : Fn P w K mg base "_law_same" 9 (C_of mg (f_same_l 8))) (F_letter_at : Fn P w K mg base "letter_at" 11 (C_of mg f_letter_at)) (F_part : Fn P w K mg base "part" 12 (C_of mg f_part)) (F_shade_at : Fn P w K mg base "shade_at" 12 (C_of mg f_shade_at)) (K_letter_at : FnK P w K mg base "letter_at" 11 ["picture", "depth", "row", "column"] (C_of mg f_letter_at)) (K_part : FnK P w K mg base "part" 12 ["picture", "steps", "row", "column"] (C_of mg f_part)) (K_shade_at : FnK P w K mg base "shade_at" 12 ["picture", "depth", "row", "column"] (C_of mg f_shade_at)) : FnOk P w K mg base (L2.CX P w) 13 f fd ["_law_ink_here", "_law_picture"] (SpC K (C_of mg f_cell_right_l)) := by
  have g__law_depth : glB (defScope s_cell_right_l) "_law_depth" = true := by decide +kernel
  have g__law_drip : glB (defScope s_cell_right_l) "_law_drip" = true := by decide +kernel
  have g__law_led : glB (defScope s_cell_right_l) "_law_led" = true := by decide +kernel
  have g__law_line : glB (defScope s_cell_right_l) "_law_line" = true := by decide +kernel
  have g__law_number : glB (defScope s_cell_right_l) "_law_number" = true := by decide +kernel
  have g__law_same : glB (defScope s_cell_right_l) "_law_same" = true := by decide +kernel
  have g_letter_at : glB (defScope s_cell_right_l) "letter_at" = true := by decide +kernel
  have g_list : glB (defScope s_cell_right_l) "list" = true := by decide +kernel
  have g_part : glB (defScope s_cell_right_l) "part" = true := by decide +kernel
  have g_shade_at : glB (defScope s_cell_right_l) "shade_at" = true := by decide +kernel
  have l2 : lcB ["_law_ink_here", "_law_picture", "_law_book_here", "_law_letter", "_law_depth_here", "_law_down", "_law_across", "_law_row", "_law_column", "_law_due"] (defScope s_cell_right_l) 2 "_law_book_here" = true := by decide +kernel
  have l3 : lcB ["_law_ink_here", "_law_picture", "_law_book_here", "_law_letter", "_law_depth_here", "_law_down", "_law_across", "_law_row", "_law_column", "_law_due"] (defScope s_cell_right_l) 3 "_law_letter" = true := by decide +kernel
  have l4 : lcB ["_law_ink_here", "_law_picture", "_law_book_here", "_law_letter", "_law_depth_here", "_law_down", "_law_across", "_law_row", "_law_column", "_law_due"] (defScope s_cell_right_l) 4 "_law_depth_here" = true := by decide +kernel
  have l5 : lcB ["_law_ink_here", "_law_picture", "_law_book_here", "_law_letter", "_law_depth_here", "_law_down", "_law_across", "_law_row", "_law_column", "_law_due"] (defScope s_cell_right_l) 5 "_law_down" = true := by decide +kernel
  have l6 : lcB ["_law_ink_here", "_law_picture", "_law_book_here", "_law_letter", "_law_depth_here", "_law_down", "_law_across", "_law_row", "_law_column", "_law_due"] (defScope s_cell_right_l) 6 "_law_across" = true := by decide +kernel
  have l9 : lcB ["_law_ink_here", "_law_picture", "_law_book_here", "_law_letter", "_law_depth_here", "_law_down", "_law_across", "_law_row", "_law_column", "_law_due"] (defScope s_cell_right_l) 9 "_law_due" = true := by decide +kernel
  have n0 : nmB ["_law_ink_here", "_law_picture", "_law_book_here", "_law_letter", "_law_depth_here", "_law_down", "_law_across", "_law_row", "_law_column", "_law_due"] (defScope s_cell_right_l) 0 "_law_ink_here" = true := by decide +kernel
  have n1 : nmB ["_law_ink_here", "_law_picture", "_law_book_here", "_law_letter", "_law_depth_here", "_law_down", "_law_across", "_law_row", "_law_column", "_law_due"] (defScope s_cell_right_l) 1 "_law_picture" = true := by decide +kernel
  have n2 : nmB ["_law_ink_here", "_law_picture", "_law_book_here", "_law_letter", "_law_depth_here", "_law_down", "_law_across", "_law_row", "_law_column", "_law_due"] (defScope s_cell_right_l) 2 "_law_book_here" = true := by decide +kernel
  have n3 : nmB ["_law_ink_here", "_law_picture", "_law_book_here", "_law_letter", "_law_depth_here", "_law_down", "_law_across", "_law_row", "_law_column", "_law_due"] (defScope s_cell_right_l) 3 "_law_letter" = true := by decide +kernel
  have n4 : nmB ["_law_ink_here", "_law_picture", "_law_book_here", "_law_letter", "_law_depth_here", "_law_down", "_law_across", "_law_row", "_law_column", "_law_due"] (defScope s_cell_right_l) 4 "_law_depth_here" = true := by decide +kernel
  have n5 : nmB ["_law_ink_here", "_law_picture", "_law_book_here", "_law_letter", "_law_depth_here", "_law_down", "_law_across", "_law_row", "_law_column", "_law_due"] (defScope s_cell_right_l) 5 "_law_down" = true := by decide +kernel
  have n6 : nmB ["_law_ink_here", "_law_picture", "_law_book_here", "_law_letter", "_law_depth_here", "_law_down", "_law_across", "_law_row", "_law_column", "_law_due"] (defScope s_cell_right_l) 6 "_law_across" = true := by decide +kernel
  have n7 : nmB ["_law_ink_here", "_law_picture", "_law_book_here", "_law_letter", "_law_depth_here", "_law_down", "_law_across", "_law_row", "_law_column", "_law_due"] (defScope s_cell_right_l) 7 "_law_row" = true := by decide +kernel
  have n8 : nmB ["_law_ink_here", "_law_picture", "_law_book_here", "_law_letter", "_law_depth_here", "_law_down", "_law_across", "_law_row", "_law_column", "_law_due"] (defScope s_cell_right_l) 8 "_law_column" = true := by decide +kernel
  have n9 : nmB ["_law_ink_here", "_law_picture", "_law_book_here", "_law_letter", "_law_depth_here", "_law_down", "_law_across", "_law_row", "_law_column", "_law_due"] (defScope s_cell_right_l) 9 "_law_due" = true := by decide +kernel
  have o7 : loB ["_law_ink_here", "_law_picture", "_law_book_here", "_law_letter", "_law_depth_here", "_law_down", "_law_across", "_law_row", "_law_column", "_law_due"] (defScope s_cell_right_l) 7 "_law_row" = true := by decide +kernel
  have o8 : loB ["_law_ink_here", "_law_picture", "_law_book_here", "_law_letter", "_law_depth_here", "_law_down", "_law_across", "_law_row", "_law_column", "_law_due"] (defScope s_cell_right_l) 8 "_law_column" = true := by decide +kernel
  rw [f_cell_right_l_eq]
  unfold b_cell_right_l
  exact fd_ok F sc_cell_right_l rfl ((sb_cn (ss_as (sg_tp (sg_cn (sg_nm 2 l2) (sg_cn (sg_nm 3 l3) sg_nl))) (snd_var 1 n1)) (sb_cn (ss_st 4 l4 (snd_call F_depth_l g__law_depth (by walk_at "lvl") (snd_cons (snd_var 0 n0) snd_nil))) (sb_cn (ss_st 5 l5 (snd_call F_line_l g__law_line (by walk_at "lvl") (snd_cons (snd_var 0 n0) (snd_cons (snd_ix snd_oIx (snd_var 2 n2) snd_int) (snd_cons (snd_var 4 n4) snd_nil))))) (sb_cn (ss_st 6 l6 (snd_call F_line_l g__law_line (by walk_at "lvl") (snd_cons (snd_var 0 n0) (snd_cons (snd_ix snd_oIx (snd_var 2 n2) snd_int) (snd_cons (snd_var 4 n4) snd_nil))))) (sb_cn (ss_fi (sndt_cmp snd_eq (snd_call F_drip_l g__law_drip (by walk_at "lvl") (snd_cons (snd_var 0 n0) (snd_cons snd_int snd_nil))) snd_int) (sb_on (ss_st 6 l6 (snd_F (snd_list T.list g_list (snd_var 5 n5))))) sb_nl) (sb_cn (ss_pr 7 8 o7 o8 (by decide) (snd_cons (snd_call F_number_l g__law_number (by walk_at "lvl") (snd_cons (snd_var 5 n5) (snd_cons (snd_ix snd_oIx (snd_var 2 n2) snd_int) snd_nil))) (snd_cons (snd_call F_number_l g__law_number (by walk_at "lvl") (snd_cons (snd_var 6 n6) (snd_cons (snd_ix snd_oIx (snd_var 2 n2) snd_int) snd_nil))) snd_nil)) (by walk_at "swp")) (sb_cn (ss_st 9 l9 (snd_call F_led_l g__law_led (by walk_at "lvl") (snd_cons (snd_var 2 n2) (snd_cons (snd_var 3 n3) (snd_cons (snd_var 5 n5) (snd_cons (snd_var 6 n6) snd_nil)))))) (sb_cn (ss_fi (sndt_not (sndt_val (snd_call F_same_l g__law_same (by walk_at "lvl") (snd_cons (snd_call F_letter_at g_letter_at (by walk_at "lvl") (snd_cons (snd_var 1 n1) (snd_cons (snd_var 4 n4) (snd_cons (snd_var 7 n7) (snd_cons (snd_var 8 n8) snd_nil))))) (snd_cons (snd_var 9 n9) snd_nil))))) (sb_on (ss_rt snd_bl)) sb_nl) (sb_cn (ss_fi (sndt_not (sndt_val (snd_call F_same_l g__law_same (by walk_at "lvl") (snd_cons (snd_call F_shade_at g_shade_at (by walk_at "lvl") (snd_cons (snd_var 1 n1) (snd_cons (snd_var 4 n4) (snd_cons (snd_var 7 n7) (snd_cons (snd_var 8 n8) snd_nil))))) (snd_cons (snd_ix snd_oIx (snd_ix snd_oIx (snd_var 2 n2) snd_int) (snd_var 9 n9)) snd_nil))))) (sb_on (ss_rt snd_bl)) sb_nl) (sb_cn (ss_fi (sndt_not (sndt_val (snd_call F_same_l g__law_same (by walk_at "lvl") (snd_cons (snd_call F_part g_part (by walk_at "lvl") (snd_cons (snd_var 1 n1) (snd_cons (snd_var 4 n4) (snd_cons (snd_var 7 n7) (snd_cons (snd_var 8 n8) snd_nil))))) (snd_cons (snd_tup (snd_cons (snd_var 2 n2) (snd_cons (snd_var 9 n9) snd_nil))) snd_nil))))) (sb_on (ss_rt snd_bl)) sb_nl) (sb_cn (ss_fi (sndt_not (sndt_val (snd_call F_same_l g__law_same (by walk_at "lvl") (snd_cons (snd_ix snd_oIx (snd_kw K_part g_part (by walk_at "lvl") (sk_cn (snd_var 1 n1) (sk_cn (snd_var 4 n4) (sk_cn (snd_var 7 n7) (sk_cn (snd_var 8 n8) sk_nl))))) snd_int) (snd_cons (snd_var 9 n9) snd_nil))))) (sb_on (ss_rt snd_bl)) sb_nl) (sb_cn (ss_fi (sndt_not (sndt_val (snd_call F_same_l g__law_same (by walk_at "lvl") (snd_cons (snd_kw K_shade_at g_shade_at (by walk_at "lvl") (sk_cn (snd_var 1 n1) (sk_cn (snd_var 4 n4) (sk_cn (snd_var 7 n7) (sk_cn (snd_var 8 n8) sk_nl))))) (snd_cons (snd_ix snd_oIx (snd_ix snd_oIx (snd_var 2 n2) snd_int) (snd_var 9 n9)) snd_nil))))) (sb_on (ss_rt snd_bl)) sb_nl) (sb_on (ss_rt (snd_call F_same_l g__law_same (by walk_at "lvl") (snd_cons (snd_kw K_letter_at g_letter_at (by walk_at "lvl") (sk_cn (snd_var 1 n1) (sk_cn (snd_var 4 n4) (sk_cn (snd_var 7 n7) (sk_cn (snd_var 8 n8) sk_nl))))) (snd_cons (snd_var 9 n9) snd_nil))))))))))))))))))
abbrev s_caught_l : Stmt := topS 37
theorem sc_caught_l : FnScope ["_law_door", "_law_picture", "_law_depth_here", "_law_row", "_law_column", "_law_caught_here", "e"] ["_law_door", "_law_picture", "_law_depth_here", "_law_row", "_law_column"] (defScope s_caught_l) := ⟨rfl, rfl, rfl, by decide +kernel, rfl, by decide +kernel, by decide +kernel⟩
theorem ok_caught_l {f : Addr} {fd : FuncData} (F : Fun K "_law_caught" "_law_caught" s_caught_l f fd) (F_letter_at : Fn P w K mg base "letter_at" 11 (C_of mg f_letter_at)) (F_part : Fn P w K mg base "part" 12 (C_of mg f_part)) (F_shade_at : Fn P w K mg base "shade_at" 12 (C_of mg f_shade_at)) {cS : Addr} (XS : mg "SheetError" = some (.ref cS)) (XMs0 : ∀ q, q ∈ [1, 4, 7] → PySem.W.exmOne K (.ref (clOf mg q)) (.ref cS) = some true) : FnOk P w K mg base (L2.CX P w) 13 f fd ["_law_door", "_law_picture", "_law_depth_here", "_law_row", "_law_column"] (SpC K (C_of mg f_caught_l)) := by
  have g_SheetError : glB (defScope s_caught_l) "SheetError" = true := by decide +kernel
  have g_letter_at : glB (defScope s_caught_l) "letter_at" = true := by decide +kernel
  have g_part : glB (defScope s_caught_l) "part" = true := by decide +kernel
  have g_shade_at : glB (defScope s_caught_l) "shade_at" = true := by decide +kernel
  have l5 : lcB ["_law_door", "_law_picture", "_law_depth_here", "_law_row", "_law_column", "_law_caught_here", "e"] (defScope s_caught_l) 5 "_law_caught_here" = true := by decide +kernel
  have n0 : nmB ["_law_door", "_law_picture", "_law_depth_here", "_law_row", "_law_column", "_law_caught_here", "e"] (defScope s_caught_l) 0 "_law_door" = true := by decide +kernel
  have n1 : nmB ["_law_door", "_law_picture", "_law_depth_here", "_law_row", "_law_column", "_law_caught_here", "e"] (defScope s_caught_l) 1 "_law_picture" = true := by decide +kernel
  have n2 : nmB ["_law_door", "_law_picture", "_law_depth_here", "_law_row", "_law_column", "_law_caught_here", "e"] (defScope s_caught_l) 2 "_law_depth_here" = true := by decide +kernel
  have n3 : nmB ["_law_door", "_law_picture", "_law_depth_here", "_law_row", "_law_column", "_law_caught_here", "e"] (defScope s_caught_l) 3 "_law_row" = true := by decide +kernel
  have n4 : nmB ["_law_door", "_law_picture", "_law_depth_here", "_law_row", "_law_column", "_law_caught_here", "e"] (defScope s_caught_l) 4 "_law_column" = true := by decide +kernel
  have n5 : nmB ["_law_door", "_law_picture", "_law_depth_here", "_law_row", "_law_column", "_law_caught_here", "e"] (defScope s_caught_l) 5 "_law_caught_here" = true := by decide +kernel
  have o5 : loB ["_law_door", "_law_picture", "_law_depth_here", "_law_row", "_law_column", "_law_caught_here", "e"] (defScope s_caught_l) 5 "_law_caught_here" = true := by decide +kernel
  have o6 : loB ["_law_door", "_law_picture", "_law_depth_here", "_law_row", "_law_column", "_law_caught_here", "e"] (defScope s_caught_l) 6 "e" = true := by decide +kernel
  rw [f_caught_l_eq]
  unfold b_caught_l
  exact fd_ok F sc_caught_l rfl ((sb_cn (ss_st 5 l5 snd_non) (sb_cn (ss_keep' 6 5 o6 o5 (by decide) g_SheetError XS XMs0 (sb_on (ss_fi (sndt_cmp snd_eq (snd_var 0 n0) snd_int) (sb_on (ss_ex (snd_call F_letter_at g_letter_at (by walk_at "lvl") (snd_cons (snd_var 1 n1) (snd_cons (snd_var 2 n2) (snd_cons (snd_var 3 n3) (snd_cons (snd_var 4 n4) snd_nil))))))) (sb_on (ss_fi (sndt_cmp snd_eq (snd_var 0 n0) snd_int) (sb_on (ss_ex (snd_call F_shade_at g_shade_at (by walk_at "lvl") (snd_cons (snd_var 1 n1) (snd_cons (snd_var 2 n2) (snd_cons (snd_var 3 n3) (snd_cons (snd_var 4 n4) snd_nil))))))) (sb_on (ss_ex (snd_call F_part g_part (by walk_at "lvl") (snd_cons (snd_var 1 n1) (snd_cons (snd_var 2 n2) (snd_cons (snd_var 3 n3) (snd_cons (snd_var 4 n4) snd_nil)))))))))))) (sb_on (ss_rt (snd_var 5 n5))))))
abbrev s_refused_l : Stmt := topS 38
theorem sc_refused_l : FnScope ["_law_ink_here", "_law_picture", "_law_depth_here", "_law_side", "_law_good", "_law_bad", "_law_row", "_law_column", "_law_door", "_law_caught_here", "_law_below"] ["_law_ink_here", "_law_picture"] (defScope s_refused_l) := ⟨rfl, rfl, rfl, by decide +kernel, rfl, by decide +kernel, by decide +kernel⟩
theorem ok_refused_l {f : Addr} {fd : FuncData} (F : Fun K "_law_refused" "_law_refused" s_refused_l f fd) (T : Txt mg) (F_caught_l : Fn P w K mg base "_law_caught" 13 (C_of mg f_caught_l)) (F_depth_l : Fn P w K mg base "_law_depth" 2 (C_of mg f_depth_l)) (F_drip_l : Fn P w K mg base "_law_drip" 1 (C_of mg f_drip_l)) (F_number_l : Fn P w K mg base "_law_number" 1 (C_of mg f_number_l)) (F_same_l : Fn P w K mg base "_law_same" 9 (C_of mg (f_same_l 8))) (XKs : ∀ ns, ns = [1, 4, 7] → ∀ n, n ∈ ns → XK K mg n) (XIs0 : ∀ n m, n ∈ [1, 4, 7] → m ∈ [1, 4, 7] → XI K mg n m) (XKe0 : ∀ m C, m ∈ [1, 4, 7] → mg (excN m) = some (.ref C) → PySem.W.keepIn K (.ref C) = true) : FnOk P w K mg base (L2.CX P w) 14 f fd ["_law_ink_here", "_law_picture"] (SpC K (C_of mg f_refused_l)) := by
  have g_InvalidDepth : glB (defScope s_refused_l) "InvalidDepth" = true := by decide +kernel
  have g_InvalidPlace : glB (defScope s_refused_l) "InvalidPlace" = true := by decide +kernel
  have g__law_caught : glB (defScope s_refused_l) "_law_caught" = true := by decide +kernel
  have g__law_depth : glB (defScope s_refused_l) "_law_depth" = true := by decide +kernel
  have g__law_drip : glB (defScope s_refused_l) "_law_drip" = true := by decide +kernel
  have g__law_number : glB (defScope s_refused_l) "_law_number" = true := by decide +kernel
  have g__law_same : glB (defScope s_refused_l) "_law_same" = true := by decide +kernel
  have g_int : glB (defScope s_refused_l) "int" = true := by decide +kernel
  have g_isinstance : glB (defScope s_refused_l) "isinstance" = true := by decide +kernel
  have l10 : lcB ["_law_ink_here", "_law_picture", "_law_depth_here", "_law_side", "_law_good", "_law_bad", "_law_row", "_law_column", "_law_door", "_law_caught_here", "_law_below"] (defScope s_refused_l) 10 "_law_below" = true := by decide +kernel
  have l2 : lcB ["_law_ink_here", "_law_picture", "_law_depth_here", "_law_side", "_law_good", "_law_bad", "_law_row", "_law_column", "_law_door", "_law_caught_here", "_law_below"] (defScope s_refused_l) 2 "_law_depth_here" = true := by decide +kernel
  have l3 : lcB ["_law_ink_here", "_law_picture", "_law_depth_here", "_law_side", "_law_good", "_law_bad", "_law_row", "_law_column", "_law_door", "_law_caught_here", "_law_below"] (defScope s_refused_l) 3 "_law_side" = true := by decide +kernel
  have l4 : lcB ["_law_ink_here", "_law_picture", "_law_depth_here", "_law_side", "_law_good", "_law_bad", "_law_row", "_law_column", "_law_door", "_law_caught_here", "_law_below"] (defScope s_refused_l) 4 "_law_good" = true := by decide +kernel
  have l5 : lcB ["_law_ink_here", "_law_picture", "_law_depth_here", "_law_side", "_law_good", "_law_bad", "_law_row", "_law_column", "_law_door", "_law_caught_here", "_law_below"] (defScope s_refused_l) 5 "_law_bad" = true := by decide +kernel
  have l6 : lcB ["_law_ink_here", "_law_picture", "_law_depth_here", "_law_side", "_law_good", "_law_bad", "_law_row", "_law_column", "_law_door", "_law_caught_here", "_law_below"] (defScope s_refused_l) 6 "_law_row" = true := by decide +kernel
  have l7 : lcB ["_law_ink_here", "_law_picture", "_law_depth_here", "_law_side", "_law_good", "_law_bad", "_law_row", "_law_column", "_law_door", "_law_caught_here", "_law_below"] (defScope s_refused_l) 7 "_law_column" = true := by decide +kernel
  have l8 : lcB ["_law_ink_here", "_law_picture", "_law_depth_here", "_law_side", "_law_good", "_law_bad", "_law_row", "_law_column", "_law_door", "_law_caught_here", "_law_below"] (defScope s_refused_l) 8 "_law_door" = true := by decide +kernel
  have l9 : lcB ["_law_ink_here", "_law_picture", "_law_depth_here", "_law_side", "_law_good", "_law_bad", "_law_row", "_law_column", "_law_door", "_law_caught_here", "_law_below"] (defScope s_refused_l) 9 "_law_caught_here" = true := by decide +kernel
  have n0 : nmB ["_law_ink_here", "_law_picture", "_law_depth_here", "_law_side", "_law_good", "_law_bad", "_law_row", "_law_column", "_law_door", "_law_caught_here", "_law_below"] (defScope s_refused_l) 0 "_law_ink_here" = true := by decide +kernel
  have n1 : nmB ["_law_ink_here", "_law_picture", "_law_depth_here", "_law_side", "_law_good", "_law_bad", "_law_row", "_law_column", "_law_door", "_law_caught_here", "_law_below"] (defScope s_refused_l) 1 "_law_picture" = true := by decide +kernel
  have n10 : nmB ["_law_ink_here", "_law_picture", "_law_depth_here", "_law_side", "_law_good", "_law_bad", "_law_row", "_law_column", "_law_door", "_law_caught_here", "_law_below"] (defScope s_refused_l) 10 "_law_below" = true := by decide +kernel
  have n2 : nmB ["_law_ink_here", "_law_picture", "_law_depth_here", "_law_side", "_law_good", "_law_bad", "_law_row", "_law_column", "_law_door", "_law_caught_here", "_law_below"] (defScope s_refused_l) 2 "_law_depth_here" = true := by decide +kernel
  have n3 : nmB ["_law_ink_here", "_law_picture", "_law_depth_here", "_law_side", "_law_good", "_law_bad", "_law_row", "_law_column", "_law_door", "_law_caught_here", "_law_below"] (defScope s_refused_l) 3 "_law_side" = true := by decide +kernel
  have n4 : nmB ["_law_ink_here", "_law_picture", "_law_depth_here", "_law_side", "_law_good", "_law_bad", "_law_row", "_law_column", "_law_door", "_law_caught_here", "_law_below"] (defScope s_refused_l) 4 "_law_good" = true := by decide +kernel
  have n5 : nmB ["_law_ink_here", "_law_picture", "_law_depth_here", "_law_side", "_law_good", "_law_bad", "_law_row", "_law_column", "_law_door", "_law_caught_here", "_law_below"] (defScope s_refused_l) 5 "_law_bad" = true := by decide +kernel
  have n6 : nmB ["_law_ink_here", "_law_picture", "_law_depth_here", "_law_side", "_law_good", "_law_bad", "_law_row", "_law_column", "_law_door", "_law_caught_here", "_law_below"] (defScope s_refused_l) 6 "_law_row" = true := by decide +kernel
  have n7 : nmB ["_law_ink_here", "_law_picture", "_law_depth_here", "_law_side", "_law_good", "_law_bad", "_law_row", "_law_column", "_law_door", "_law_caught_here", "_law_below"] (defScope s_refused_l) 7 "_law_column" = true := by decide +kernel
  have n8 : nmB ["_law_ink_here", "_law_picture", "_law_depth_here", "_law_side", "_law_good", "_law_bad", "_law_row", "_law_column", "_law_door", "_law_caught_here", "_law_below"] (defScope s_refused_l) 8 "_law_door" = true := by decide +kernel
  have n9 : nmB ["_law_ink_here", "_law_picture", "_law_depth_here", "_law_side", "_law_good", "_law_bad", "_law_row", "_law_column", "_law_door", "_law_caught_here", "_law_below"] (defScope s_refused_l) 9 "_law_caught_here" = true := by decide +kernel
  rw [f_refused_l_eq]
  unfold b_refused_l
  exact fd_ok F sc_refused_l rfl ((sb_cn (ss_st 2 l2 (snd_call F_depth_l g__law_depth (by walk_at "lvl") (snd_cons (snd_var 0 n0) snd_nil))) (sb_cn (ss_st 3 l3 (snd_eAdd (snd_call F_number_l g__law_number (by walk_at "lvl") (snd_cons (snd_F (snd_rep (snd_M (snd_disp (snd_cons (snd_bin snd_sub (snd_ix snd_oIx (snd_ix snd_oIx (snd_var 1 n1) snd_int) snd_int) snd_int) snd_nil))) (snd_var 2 n2))) (snd_cons (snd_ix snd_oIx (snd_ix snd_oIx (snd_var 1 n1) snd_int) snd_int) snd_nil))) snd_int)) (sb_cn (ss_st 4 l4 (snd_ix snd_oIx (snd_F (snd_disp (snd_cons snd_int (snd_cons (snd_bin snd_sub (snd_var 3 n3) snd_int) (snd_cons (snd_bin snd_mod (snd_callT snd_bInt T.int bt_int g_int (snd_cons (snd_call F_drip_l g__law_drip (by walk_at "lvl") (snd_cons (snd_var 0 n0) (snd_cons (snd_bin snd_pow snd_int snd_int) snd_nil))) snd_nil)) (snd_var 3 n3)) snd_nil))))) (snd_call F_drip_l g__law_drip (by walk_at "lvl") (snd_cons (snd_var 0 n0) (snd_cons snd_int snd_nil))))) (sb_cn (ss_st 5 l5 (snd_ix snd_oIx (snd_F (snd_disp (snd_cons (snd_var 3 n3) (snd_cons (snd_un snd_neg snd_int) (snd_cons (snd_eAdd (snd_var 3 n3) (snd_call F_drip_l g__law_drip (by walk_at "lvl") (snd_cons (snd_var 0 n0) (snd_cons (snd_bin snd_pow snd_int snd_int) snd_nil)))) (snd_cons (snd_bin snd_sub (snd_un snd_neg snd_int) (snd_call F_drip_l g__law_drip (by walk_at "lvl") (snd_cons (snd_var 0 n0) (snd_cons (snd_bin snd_pow snd_int snd_int) snd_nil)))) snd_nil)))))) (snd_call F_drip_l g__law_drip (by walk_at "lvl") (snd_cons (snd_var 0 n0) (snd_cons snd_int snd_nil))))) (sb_cn (ss_as (sg_tp (sg_cn (sg_nm 6 l6) (sg_cn (sg_nm 7 l7) sg_nl))) (snd_ix snd_oIx (snd_F (snd_disp (snd_cons (snd_tup (snd_cons (snd_var 4 n4) (snd_cons (snd_var 5 n5) snd_nil))) (snd_cons (snd_tup (snd_cons (snd_var 5 n5) (snd_cons (snd_var 4 n4) snd_nil))) (snd_cons (snd_tup (snd_cons (snd_var 5 n5) (snd_cons (snd_var 5 n5) snd_nil))) snd_nil))))) (snd_call F_drip_l g__law_drip (by walk_at "lvl") (snd_cons (snd_var 0 n0) (snd_cons snd_int snd_nil))))) (sb_cn (ss_st 8 l8 (snd_call F_drip_l g__law_drip (by walk_at "lvl") (snd_cons (snd_var 0 n0) (snd_cons snd_int snd_nil)))) (sb_cn (ss_st 9 l9 (snd_call F_caught_l g__law_caught (by walk_at "lvl") (snd_cons (snd_var 8 n8) (snd_cons (snd_var 1 n1) (snd_cons (snd_var 2 n2) (snd_cons (snd_var 6 n6) (snd_cons (snd_var 7 n7) snd_nil))))))) (sb_cn (ss_fi (sndt_w (sndw_or (sndt_not (sndt_val (snd_isx T.isinstance g_isinstance (fun n hn => ⟨XKs _ rfl n hn, XIs0 n 7 hn (by decide)⟩) (XKs _ rfl 7 (by decide)) rfl (fun C h => XKe0 7 C (by decide) h) g_InvalidPlace (snd_var 9 n9)))) (sndw_or1 (sndt_not (sndt_val (snd_call F_same_l g__law_same (by walk_at "lvl") (snd_cons (snd_val (XKs _ rfl) (snd_var 9 n9)) (snd_cons (snd_tup (snd_cons (snd_var 6 n6) (snd_cons (snd_var 7 n7) snd_nil))) snd_nil)))))))) (sb_on (ss_rt snd_bl)) sb_nl) (sb_cn (ss_st 10 l10 (snd_ix snd_oIx (snd_F (snd_disp (snd_cons (snd_un snd_neg snd_int) (snd_cons (snd_un snd_neg snd_int) (snd_cons (snd_un snd_neg snd_int) (snd_cons (snd_bin snd_sub (snd_un snd_neg snd_int) (snd_call F_drip_l g__law_drip (by walk_at "lvl") (snd_cons (snd_var 0 n0) (snd_cons (snd_bin snd_pow snd_int snd_int) snd_nil)))) snd_nil)))))) (snd_call F_drip_l g__law_drip (by walk_at "lvl") (snd_cons (snd_var 0 n0) (snd_cons snd_int snd_nil))))) (sb_cn (ss_st 9 l9 (snd_call F_caught_l g__law_caught (by walk_at "lvl") (snd_cons (snd_var 8 n8) (snd_cons (snd_var 1 n1) (snd_cons (snd_var 10 n10) (snd_cons (snd_var 6 n6) (snd_cons (snd_var 7 n7) snd_nil))))))) (sb_cn (ss_fi (sndt_w (sndw_or (sndt_not (sndt_val (snd_isx T.isinstance g_isinstance (fun n hn => ⟨XKs _ rfl n hn, XIs0 n 4 hn (by decide)⟩) (XKs _ rfl 4 (by decide)) rfl (fun C h => XKe0 4 C (by decide) h) g_InvalidDepth (snd_var 9 n9)))) (sndw_or1 (sndt_not (sndt_val (snd_call F_same_l g__law_same (by walk_at "lvl") (snd_cons (snd_val (XKs _ rfl) (snd_var 9 n9)) (snd_cons (snd_var 10 n10) snd_nil)))))))) (sb_on (ss_rt snd_bl)) sb_nl) (sb_cn (ss_fi (sndt_cmp snd_notN (snd_call F_caught_l g__law_caught (by walk_at "lvl") (snd_cons (snd_var 8 n8) (snd_cons (snd_var 1 n1) (snd_cons (snd_var 2 n2) (snd_cons (snd_var 4 n4) (snd_cons (snd_var 4 n4) snd_nil)))))) snd_non) (sb_on (ss_rt snd_bl)) sb_nl) (sb_on (ss_rt (snd_cmp snd_is (snd_call F_caught_l g__law_caught (by walk_at "lvl") (snd_cons (snd_var 8 n8) (snd_cons (snd_var 1 n1) (snd_cons (snd_var 2 n2) (snd_cons (snd_bin snd_sub (snd_var 3 n3) snd_int) (snd_cons (snd_bin snd_sub (snd_var 3 n3) snd_int) snd_nil)))))) snd_non))))))))))))))))
abbrev s_right_l : Stmt := topS 39
theorem sc_right_l : FnScope ["_law_ink_here", "_law_book_here", "_law_picture", "_law_turn"] ["_law_ink_here"] (defScope s_right_l) := ⟨rfl, rfl, rfl, by decide +kernel, rfl, by decide +kernel, by decide +kernel⟩
theorem ok_right_l {f : Addr} {fd : FuncData} (F : Fun K "_law_right" "_law_right" s_right_l f fd) (T : Txt mg) (F_book_l : Fn P w K mg base "_law_book" 3 (C_of mg f_book_l)) (F_cell_right_l : Fn P w K mg base "_law_cell_right" 13 (C_of mg f_cell_right_l)) (F_drip_l : Fn P w K mg base "_law_drip" 1 (C_of mg f_drip_l)) (F_refused_l : Fn P w K mg base "_law_refused" 14 (C_of mg f_refused_l)) : FnOk P w K mg base (L2.CX P w) 15 f fd ["_law_ink_here"] (SpC K (C_of mg f_right_l)) := by
  have g__law_book : glB (defScope s_right_l) "_law_book" = true := by decide +kernel
  have g__law_cell_right : glB (defScope s_right_l) "_law_cell_right" = true := by decide +kernel
  have g__law_drip : glB (defScope s_right_l) "_law_drip" = true := by decide +kernel
  have g__law_refused : glB (defScope s_right_l) "_law_refused" = true := by decide +kernel
  have g_len : glB (defScope s_right_l) "len" = true := by decide +kernel
  have g_range : glB (defScope s_right_l) "range" = true := by decide +kernel
  have l1 : lcB ["_law_ink_here", "_law_book_here", "_law_picture", "_law_turn"] (defScope s_right_l) 1 "_law_book_here" = true := by decide +kernel
  have l2 : lcB ["_law_ink_here", "_law_book_here", "_law_picture", "_law_turn"] (defScope s_right_l) 2 "_law_picture" = true := by decide +kernel
  have l3 : lcB ["_law_ink_here", "_law_book_here", "_law_picture", "_law_turn"] (defScope s_right_l) 3 "_law_turn" = true := by decide +kernel
  have n0 : nmB ["_law_ink_here", "_law_book_here", "_law_picture", "_law_turn"] (defScope s_right_l) 0 "_law_ink_here" = true := by decide +kernel
  have n1 : nmB ["_law_ink_here", "_law_book_here", "_law_picture", "_law_turn"] (defScope s_right_l) 1 "_law_book_here" = true := by decide +kernel
  have n2 : nmB ["_law_ink_here", "_law_book_here", "_law_picture", "_law_turn"] (defScope s_right_l) 2 "_law_picture" = true := by decide +kernel
  rw [f_right_l_eq]
  unfold b_right_l l_right_l_1
  exact fd_ok F sc_right_l rfl ((sb_cn (ss_st 1 l1 (snd_call F_book_l g__law_book (by walk_at "lvl") (snd_cons (snd_var 0 n0) (snd_cons (snd_eAdd snd_int (snd_call F_drip_l g__law_drip (by walk_at "lvl") (snd_cons (snd_var 0 n0) (snd_cons snd_int snd_nil)))) (snd_cons snd_int snd_nil))))) (sb_cn (ss_st 2 l2 (snd_tup (snd_cons (snd_var 1 n1) (snd_cons (snd_call F_drip_l g__law_drip (by walk_at "lvl") (snd_cons (snd_var 0 n0) (snd_cons (snd_callB snd_len T.len bf_len g_len (snd_cons (snd_ix snd_oIx (snd_var 1 n1) snd_int) snd_nil)) snd_nil))) snd_nil)))) (sb_cn (ss_kil0 (ss_fr (sg_nm 3 l3) (snd_range1 T.range g_range snd_int) (sb_kil (sb_on (ss_fi (sndt_not (sndt_val (snd_call F_cell_right_l g__law_cell_right (by walk_at "lvl") (snd_cons (snd_var 0 n0) (snd_cons (snd_var 2 n2) snd_nil))))) (sb_on (ss_rt snd_bl)) sb_nl))))) (sb_on (ss_rt (snd_call F_refused_l g__law_refused (by walk_at "lvl") (snd_cons (snd_var 0 n0) (snd_cons (snd_var 2 n2) snd_nil)))))))))
abbrev s_law : Stmt := topS 40
theorem sc_law : FnScope ["_law_script", "_law_k"] ["_law_script"] (defScope s_law) := ⟨rfl, rfl, rfl, by decide +kernel, rfl, by decide +kernel, by decide +kernel⟩
theorem ok_law {f : Addr} {fd : FuncData} (F : Fun K "law" "law" s_law f fd) (T : Txt mg) (F_ink_l : Fn P w K mg base "_law_ink" 1 (C_of mg f_ink_l)) (F_right_l : Fn P w K mg base "_law_right" 15 (C_of mg f_right_l)) : FnOk P w K mg base (L2.CX P w) 16 f fd ["_law_script"] (SpC K (C_of mg f_law)) := by
  have g__law_ink : glB (defScope s_law) "_law_ink" = true := by decide +kernel
  have g__law_right : glB (defScope s_law) "_law_right" = true := by decide +kernel
  have g_len : glB (defScope s_law) "len" = true := by decide +kernel
  have g_max : glB (defScope s_law) "max" = true := by decide +kernel
  have g_min : glB (defScope s_law) "min" = true := by decide +kernel
  have g_range : glB (defScope s_law) "range" = true := by decide +kernel
  have l1 : lcB ["_law_script", "_law_k"] (defScope s_law) 1 "_law_k" = true := by decide +kernel
  have n0 : nmB ["_law_script", "_law_k"] (defScope s_law) 0 "_law_script" = true := by decide +kernel
  have n1 : nmB ["_law_script", "_law_k"] (defScope s_law) 1 "_law_k" = true := by decide +kernel
  rw [f_law_eq]
  unfold b_law l_law_1
  exact fd_ok F sc_law rfl ((sb_cn (ss_kil0 (ss_fr (sg_nm 1 l1) (snd_range1 T.range g_range (snd_callB snd_max2 T.max bf_max g_max (snd_cons snd_int (snd_cons (snd_callB snd_min2 T.min bf_min g_min (snd_cons snd_int (snd_cons (snd_callB snd_len T.len bf_len g_len (snd_cons (snd_var 0 n0) snd_nil)) snd_nil))) snd_nil)))) (sb_kil (sb_on (ss_fi (sndt_not (sndt_val (snd_call F_right_l g__law_right (by walk_at "lvl") (snd_cons (snd_call F_ink_l g__law_ink (by walk_at "lvl") (snd_cons (snd_var 0 n0) (snd_cons (snd_var 1 n1) snd_nil))) snd_nil)))) (sb_on (ss_rt snd_bl)) sb_nl))))) (sb_on (ss_rt snd_bl))))
end
end Sy

set_option Elab.async false
set_option linter.all false
set_option maxRecDepth 2000
namespace Sy
open PySem PySem.Spec
local macro_rules | `(tactic| walk_at "hn") => `(tactic| conv => whnf)
local macro_rules | `(tactic| walk_at "side") => `(tactic| first | exact True.intro | assumption | exact ⟨rfl, rfl⟩ | omega)
local macro_rules | `(tactic| walk_at "cl") => `(tactic| first | rfl | assumption | exact bnt (by first | assumption | fail) | exact bnf (by first | assumption | fail) | fail)
local macro_rules | `(tactic| walk_at "br") => `(tactic| first
  | (refine br_t (by walk_at "cl") ?_)
  | (refine br_f (by walk_at "cl") ?_)
  | (refine br_2 (fun _ => ?_) (fun _ => ?_))
  | (refine And.intro (by walk_at "side") ?_))
local macro_rules | `(tactic| walk_at "go") => `(tactic| repeat' (first | assumption | walk_at "br" | (walk_at "hn"; first | assumption | walk_at "br")))
theorem q_bl {Q : QT} {a b : Bool} {st : Sto} (q : Q (.d (.bl a)) st) (e : b = a) : Q (.d (.bl b)) st := e ▸ q
def isInt (x : D) : Bool := isTy x.ty .int && !isTy x.ty .bl
theorem r_is_int {x : D} {Q : QT} {Z : ZT} (q : Q (.d (.bl (isInt x))) []) : f_is_int.run [.d x] [] Q Z := by
  rw [f_is_int_eq]
  unfold isInt at q
  cases x <;> walk_at "go"
def isBase : D → Bool
  | .int b => decide (2 ≤ b) && decide (b ≤ 4)
  | _ => false
def isShelf : D → Bool
  | .tup [a, b, c] => isBase a && (match b, c with
    | .tup s, .tup k => (decide (1 ≤ (s.length : Int)) && decide ((s.length : Int) ≤ 64)) && decide ((k.length : Int) = (s.length : Int))
    | _, _ => false)
  | _ => false
theorem r_is_shelf {x : D} {Q : QT} {Z : ZT} (q : Q (.d (.bl (isShelf x))) []) : f_is_shelf.run [.d x] [] Q Z := by
  rw [f_is_shelf_eq]
  rcases x with _ | b | i | s | xs | xs | _ <;> try (walk_at "go" <;> fail)
  rcases xs with _ | ⟨a, _ | ⟨b, _ | ⟨c, _ | ⟨d, l⟩⟩⟩⟩ <;> try (walk_at "go" <;> fail)
  rcases a with _ | a | a | a | a | a | _ <;> try (walk_at "go" <;> fail)
  have lf : ∀ {x y : Bool}, Q (.d (.bl x)) [] → y = x → Q (.d (.bl y)) [] := fun q e => e ▸ q
  cases hb : isBase (.int a)
  · have q : Q (.d (.bl false)) [] := by simpa [isShelf, hb] using q
    simp only [isBase, Bool.and_eq_false_iff] at hb
    rcases hb with hb | hb
    · walk_at "go"
    · cases h2 : decide (2 ≤ a) <;> walk_at "go"
  · simp only [isBase, Bool.and_eq_true] at hb
    obtain ⟨h1, h2⟩ := hb
    rcases b with _ | b | b | b | b | b | _ <;> try (walk_at "go" <;> exact lf q (Bool.and_false _).symm)
    rcases c with _ | c | c | c | c | c | _ <;> try (walk_at "go" <;> exact lf q (Bool.and_false _).symm)
    cases h3 : decide (1 ≤ (b.length : Int))
    · have q : Q (.d (.bl false)) [] := by simpa [isShelf, h3] using q
      walk_at "go"
    · cases h4 : decide ((b.length : Int) ≤ 64)
      · have q : Q (.d (.bl false)) [] := lf q (by simp [isShelf, h4])
        walk_at "go"
      · have q : Q (.d (.bl (decide ((c.length : Int) = b.length)))) [] := lf q (by simp only [isShelf, isBase, h1, h2, h3, h4]; rfl)
        walk_at "go"
def isSh : D → Bool
  | .int i => decide (0 ≤ i) && decide (i ≤ 3)
  | _ => false
theorem r_are_shades {xs : List D} {Q : QT} {Z : ZT} (q : Q (.d (.bl (xs.all isSh))) []) : f_are_shades.run [.d (.tup xs)] [] Q Z := by
  rw [f_are_shades_eq]
  walk_at "hn"
  generalize some (T.d (D.tup xs)) = e0
  induction xs generalizing e0 with
  | nil => walk_at "go"
  | cons x xs ih =>
    refine ⟨trivial, ?_⟩
    rcases x with _ | b | i | _ | _ | _ | _ <;> try (walk_at "go" <;> fail)
    · cases b <;> walk_at "go"
    · cases h0 : decide (i < 0)
      · cases h3 : decide (3 < i)
        · have e : isSh (.int i) = true := by simp [isSh] at *; omega
          have q : Q (.d (.bl (xs.all isSh))) [] := by simpa [e] using q
          have ih := ih q
          walk_at "go"
          exact ih _
        · have e : isSh (.int i) = false := by simp [isSh] at *; omega
          have q : Q (.d (.bl false)) [] := by simpa [e] using q
          walk_at "go"
      · have e : isSh (.int i) = false := by simp [isSh] at *; omega
        have q : Q (.d (.bl false)) [] := by simpa [e] using q
        walk_at "go"
end Sy

set_option Elab.async false
set_option linter.all false
set_option maxRecDepth 2000
namespace Sy
open PySem PySem.Spec
local macro_rules | `(tactic| walk_at "hn") => `(tactic| conv => whnf)
local macro_rules | `(tactic| walk_at "side") => `(tactic| first | exact True.intro | assumption | exact ⟨rfl, rfl⟩ | omega)
local macro_rules | `(tactic| walk_at "cl") => `(tactic| first | rfl | assumption | exact bnt (by first | assumption | fail) | exact bnf (by first | assumption | fail) | fail)
local macro_rules | `(tactic| walk_at "br") => `(tactic| first
  | (refine br_t (by walk_at "cl") ?_)
  | (refine br_f (by walk_at "cl") ?_)
  | (refine br_2 (fun _ => ?_) (fun _ => ?_))
  | (refine ex_at (by first | rfl | assumption | fail) ?_)
  | (refine And.intro (by walk_at "side") ?_))
local macro_rules | `(tactic| walk_at "go") => `(tactic| ((repeat' (first | assumption | walk_at "br" | (walk_at "hn"; first | assumption | walk_at "br"))) <;> walk_at "hn"))
def isLet (n : Int) : D → Bool
  | .int i => decide (0 ≤ i) && decide (i < n)
  | _ => false
def isRow (n b : Int) : D → Bool
  | .tup xs => decide ((xs.length : Int) = b) && xs.all (isLet n)
  | _ => false
def isBlk (n b : Int) : D → Bool
  | .tup xs => decide ((xs.length : Int) = b) && xs.all (isRow n b)
  | _ => false
theorem go_blocks3 {n b : Int} {k : Kont} : ∀ (xs : List D) (e0 e4 : Option T), (xs.all (isLet n) = true → ∀ e0 e4, k.nx [e0, some (.d (.int b)), some (.d (.int n)), none, e4, none] []) → (xs.all (isLet n) = false → k.rt (.d (.bl false)) []) →
    forL (gName 5) l_are_blocks_3 (fun _ => True) (dT xs) [e0, some (.d (.int b)), some (.d (.int n)), none, e4, none] [] k
  | [], e0, e4, q, _ => ⟨trivial, q rfl _ _⟩
  | x :: xs, e0, e4, q, r => by
    refine ⟨trivial, ?_⟩
    rcases x with _ | c | i | _ | _ | _ | _ <;> try (have r := r rfl; walk_at "go" <;> fail)
    · have r := r rfl
      cases c <;> walk_at "go"
    · cases h0 : decide (i < 0)
      · cases h3 : decide (n ≤ i)
        · have e : isLet n (.int i) = true := by simp [isLet] at *; omega
          have ih := go_blocks3 (n := n) (b := b) (k := k) xs none none (fun h => q (by simp [e, h])) (fun h => r (by simp [e, h]))
          walk_at "go"
        · have r := r (by simp [isLet] at *; omega)
          walk_at "go"
      · have r := r (by simp [isLet] at *; omega)
        walk_at "go"
theorem go_blocks2 {n b : Int} {k : Kont} : ∀ (xs : List D) (e0 e3 e5 : Option T), (xs.all (isRow n b) = true → ∀ e0 e3 e5, k.nx [e0, some (.d (.int b)), some (.d (.int n)), e3, none, e5] []) → (xs.all (isRow n b) = false → k.rt (.d (.bl false)) []) →
    forL (gName 4) l_are_blocks_2 (fun _ => True) (dT xs) [e0, some (.d (.int b)), some (.d (.int n)), e3, none, e5] [] k
  | [], e0, e3, e5, q, _ => ⟨trivial, q rfl _ _ _⟩
  | x :: xs, e0, e3, e5, q, r => by
    refine ⟨trivial, ?_⟩
    rcases x with _ | _ | _ | _ | ys | _ | _ <;> try (have r := r rfl; walk_at "go" <;> fail)
    cases h0 : decide ((ys.length : Int) = b)
    · have r := r (by simp [isRow, h0])
      have h1 : (D.int ys.length).eqq (.int b) = false := h0
      walk_at "go"
    have h1 : (D.int ys.length).eqq (.int b) = true := h0
    have ih := go_blocks2 (n := n) (b := b) (k := k) xs
    walk_at "go"
    refine go_blocks3 ys _ _ (fun h e0 e4 => ?_) (fun h => ?_)
    · exact ih _ _ _ (fun h2 => q (by simp [isRow, h0, h, h2])) (fun h2 => r (by simp [isRow, h0, h, h2]))
    · exact r (by simp [isRow, h0, h])
theorem go_blocks1 {n b : Int} {k : Kont} : ∀ (xs : List D) (e0 e4 e5 : Option T), (xs.all (isBlk n b) = true → ∀ e0 e4 e5, k.nx [e0, some (.d (.int b)), some (.d (.int n)), none, e4, e5] []) → (xs.all (isBlk n b) = false → k.rt (.d (.bl false)) []) →
    forL (gName 3) l_are_blocks_1 (fun _ => True) (dT xs) [e0, some (.d (.int b)), some (.d (.int n)), none, e4, e5] [] k
  | [], e0, e4, e5, q, _ => ⟨trivial, q rfl _ _ _⟩
  | x :: xs, e0, e4, e5, q, r => by
    refine ⟨trivial, ?_⟩
    rcases x with _ | _ | _ | _ | ys | _ | _ <;> try (have r := r rfl; walk_at "go" <;> fail)
    cases h0 : decide ((ys.length : Int) = b)
    · have r := r (by simp [isBlk, h0])
      have h1 : (D.int ys.length).eqq (.int b) = false := h0
      walk_at "go"
    have h1 : (D.int ys.length).eqq (.int b) = true := h0
    have ih := go_blocks1 (n := n) (b := b) (k := k) xs
    walk_at "go"
    refine go_blocks2 ys _ _ _ (fun h e0 e3 e5 => ?_) (fun h => ?_)
    · exact ih _ _ _ (fun h2 => q (by simp [isBlk, h0, h, h2])) (fun h2 => r (by simp [isBlk, h0, h, h2]))
    · exact r (by simp [isBlk, h0, h])
theorem r_are_blocks {ks : List D} {b : Int} {Q : QT} {Z : ZT} (q : Q (.d (.bl (ks.all (isBlk ks.length b)))) []) : f_are_blocks.run [.d (.tup ks), .d (.int b)] [] Q Z := by
  rw [f_are_blocks_eq]
  walk_at "hn"
  refine go_blocks1 ks _ _ _ (fun h e0 e4 e5 => ?_) (fun h => ?_)
  · rw [h] at q; exact q
  · rw [h] at q; exact q
def isPic2 (l : D) : D → Bool
  | .tup [.int b, .tup s, .tup k] => isLet s.length l && (s.all isSh && k.all (isBlk k.length b))
  | _ => false
def isPic : D → Bool
  | .tup [a, l] => isShelf a && isPic2 l a
  | _ => false
theorem isShelf_inv : ∀ {x : D}, isShelf x = true → ∃ b s k, x = .tup [.int b, .tup s, .tup k] := by
  intro x h
  unfold isShelf at h
  split at h
  · rename_i a b c
    rw [Bool.and_eq_true] at h
    obtain ⟨h1, h2⟩ := h
    unfold isBase at h1
    split at h1
    · split at h2
      · exact ⟨_, _, _, rfl⟩
      · cases h2
    · cases h1
  · cases h
theorem r_is_picture {x : D} {Q : QT} {Z : ZT} (q : Q (.d (.bl (isPic x))) []) : f_is_picture.run [.d x] [] Q Z := by
  rw [f_is_picture_eq]
  rcases x with _ | b | i | s | xs | xs | _ <;> try (walk_at "go" <;> fail)
  rcases xs with _ | ⟨a, _ | ⟨l, _ | ⟨c, t⟩⟩⟩ <;> try (walk_at "go" <;> fail)
  walk_at "go"
  refine r_is_shelf ?_
  cases hs : isShelf a
  · have q : Q (.d (.bl false)) [] := by simpa [isPic, hs] using q
    walk_at "go"
  obtain ⟨b, s, k, rfl⟩ := isShelf_inv hs
  have q : Q (.d (.bl (isLet s.length l && (s.all isSh && k.all (isBlk k.length b))))) [] := by simpa [isPic, isPic2, hs] using q
  walk_at "go"
  refine r_is_int ?_
  rcases l with _ | c | i | _ | _ | _ | _ <;> try (walk_at "go" <;> fail)
  cases h0 : decide (0 ≤ i)
  · have q : Q (.d (.bl false)) [] := by simpa [isLet, h0] using q
    walk_at "go"
  cases h1 : decide (i < s.length)
  · have q : Q (.d (.bl false)) [] := by simpa [isLet, h0, h1] using q
    walk_at "go"
  have q : Q (.d (.bl (s.all isSh && k.all (isBlk k.length b)))) [] := by simpa [isLet, h0, h1] using q
  walk_at "go"
  refine r_are_shades ?_
  cases h2 : s.all isSh
  · have q : Q (.d (.bl false)) [] := by simpa [h2] using q
    walk_at "go"
  have q : Q (.d (.bl (k.all (isBlk k.length b)))) [] := by simpa [h2] using q
  walk_at "go"
  refine r_are_blocks ?_
  walk_at "go"
end Sy

set_option Elab.async false
set_option linter.all false
set_option maxRecDepth 2000
namespace Sy
open PySem PySem.Spec
local macro_rules | `(tactic| walk_at "hn") => `(tactic| conv => whnf)
local macro_rules | `(tactic| walk_at "side") => `(tactic| first | exact True.intro | assumption | exact ⟨rfl, rfl⟩ | omega | exact pow_lit rfl | exact pos_lit rfl | exact div_lit rfl | fail)
local macro_rules | `(tactic| walk_at "cl") => `(tactic| first | rfl | assumption | exact bnt (by first | assumption | fail) | exact bnf (by first | assumption | fail) | fail)
local macro_rules | `(tactic| walk_at "br") => `(tactic| first
  | (refine br_t (by walk_at "cl") ?_)
  | (refine br_f (by walk_at "cl") ?_)
  | (refine br_2 (fun _ => ?_) (fun _ => ?_))
  | (refine ex_at (by first | rfl | assumption | fail) ?_)
  | (refine And.intro (by walk_at "side") ?_)
  | fail)
local macro_rules | `(tactic| walk_at "go") => `(tactic| ((repeat' (first | assumption | walk_at "br" | (walk_at "hn"; first | assumption | walk_at "br" | fail) | fail)) <;> walk_at "hn"))
def scB : Nat := 1048576
def inkB : Nat := 1048700
/-- ink: what is left of a great number, what is mixed, how many drops -/
structure Ink (n : Nat) (a m c : Int) : Prop where
  a0 : 0 ≤ a
  a1 : a.natAbs < 2 ^ inkB
  m0 : 0 ≤ m
  m1 : m < 2 ^ 90
  c0 : 0 ≤ c
  c1 : c ≤ n
theorem Ink.mono {n n' : Nat} {a m c : Int} (h : Ink n a m c) (l : n ≤ n') : Ink n' a m c := ⟨h.a0, h.a1, h.m0, h.m1, h.c0, by have := h.c1; omega⟩
def ink (a m c : Int) : O := .lst [.int a, .int m, .int c]
theorem r_drip {n : Nat} {a m c k : Int} {Q : QT} {Z : ZT} (h : Ink n a m c) (hn : n ≤ 2 ^ 50) (k1 : 1 ≤ k) (k2 : k < 2 ^ 200)
    (q : ∀ r a' m' c', 0 ≤ r → r < k → Ink (n + 1) a' m' c' → Q (.d (.int r)) [ink a' m' c']) : f_drip_l.run [.loc 0, .d (.int k)] [ink a m c] Q Z := by
  rw [f_drip_l_eq]
  have b1 : (2 : Nat) ^ 50 = 1125899906842624 := by decide
  have b2 : (2 : Int) ^ 90 = 1237940039285380274899124224 := by decide
  have := h.c0; have := h.c1; have := h.m0; have m1 := h.m1
  rw [b2] at m1
  rw [b1] at hn
  have s1 : 0 < k ∧ k.natAbs < 2 ^ 9000 := ⟨by omega, Nat.lt_of_lt_of_le (by omega : k.natAbs < 2 ^ 200) (Nat.pow_le_pow_right (by decide) (by decide))⟩
  have s2 : Sm 32452867 ∧ Sm (c + 1) := ⟨.of 25 (by decide), .of 51 (by omega)⟩
  have s3 : (0 : Int) ≤ 3 ∧ (Builtin.Int.intBits (m + 32452867 * (c + 1)) : Int) * 3 ≤ 2 ^ 27 := pow_small (a := 91) (by omega) (by decide) (by decide) (by decide)
  have x0 : 0 ≤ (m + 32452867 * (c + 1)) ^ Int.toNat 3 % (10 ^ Int.toNat 29 + 319) := Int.emod_nonneg _ (by decide)
  have x1 : (m + 32452867 * (c + 1)) ^ Int.toNat 3 % (10 ^ Int.toNat 29 + 319) < 10 ^ Int.toNat 29 + 319 := Int.emod_lt_of_pos _ (by decide)
  have s4 : Sm ((m + 32452867 * (c + 1)) ^ Int.toNat 3 % (10 ^ Int.toNat 29 + 319)) ∧ Sm ((m + 32452867 * (c + 1)) ^ Int.toNat 3 % (10 ^ Int.toNat 29 + 319) + 7643) := by
    have b : (10 : Int) ^ Int.toNat 29 + 319 = 100000000000000000000000000319 := by decide
    rw [b] at x1 ⊢
    exact ⟨.of 100 (by omega), .of 100 (by omega)⟩
  have s5 : (0 : Int) < 5471 ∧ (5471 : Int).natAbs < 2 ^ 9000 := ⟨by decide, Nat.lt_of_lt_of_le (by decide : (5471 : Int).natAbs < 2 ^ 13) (Nat.pow_le_pow_right (by decide) (by decide))⟩
  walk_at "go"
  · rename_i ha
    refine q _ _ _ _ (Int.emod_nonneg _ (by omega)) (Int.emod_lt_of_pos _ (by omega)) ⟨Int.ediv_nonneg h.a0 (by omega), ?_, h.m0, h.m1, h.c0, by omega⟩
    refine Nat.lt_of_le_of_lt ?_ h.a1
    have := Int.ediv_le_self k h.a0
    have := Int.ediv_nonneg h.a0 (by omega : 0 ≤ k)
    omega
  · refine q _ _ _ _ ?_ ?_ ?_
    · exact Int.emod_nonneg _ (by omega)
    · exact Int.emod_lt_of_pos _ (by omega)
    · exact ⟨h.a0, h.a1, h.m0, h.m1, by omega, by omega⟩
end Sy

set_option Elab.async false
set_option linter.all false
set_option maxRecDepth 2000
namespace Sy
open PySem PySem.Spec
local macro_rules | `(tactic| walk_at "hn") => `(tactic| conv => whnf)
local macro_rules | `(tactic| walk_at "side") => `(tactic| first | exact True.intro | assumption | exact ⟨rfl, rfl⟩ | omega | exact len_lit rfl | exact pow_lit rfl | exact pos_lit rfl | exact div_lit rfl | exact ⟨.of 100 (by omega), .of 100 (by omega)⟩ | fail)
local macro_rules | `(tactic| walk_at "cl") => `(tactic| first | rfl | assumption | exact bnt (by first | assumption | fail) | exact bnf (by first | assumption | fail) | fail)
local macro_rules | `(tactic| walk_at "br") => `(tactic| first
  | (refine br_t (by walk_at "cl") ?_)
  | (refine br_f (by walk_at "cl") ?_)
  | (refine br_2 (fun _ => ?_) (fun _ => ?_))
  | (refine ex_at (by first | rfl | assumption | fail) ?_)
  | (refine And.intro (by walk_at "side") ?_)
  | fail)
local macro_rules | `(tactic| walk_at "go") => `(tactic| ((repeat' (first | assumption | walk_at "br" | (walk_at "hn"; first | assumption | walk_at "br" | fail) | fail)) <;> walk_at "hn"))
theorem r_ink {ns : List Int} {k : Int} {Q : QT} {Z : ZT} (hl : ns.length ≤ 63) (hb : ∀ n, n ∈ ns → n.natAbs < 2 ^ scB) (k0 : 0 ≤ k) (k1 : k ≤ 1000)
    (q : ∀ a m c, Ink 0 a m c → Q (.loc 0) [ink a m c]) : f_ink_l.run [.scr ns, .d (.int k)] [] Q Z := by
  rw [f_ink_l_eq]
  have hz : (63 : Nat) ≤ sizeLine := by decide
  have sum_b : ∀ (zs : List Int), 0 ≤ (zs.map fun i : Int => i % ((10 : Int) ^ Int.toNat 21 + 117)).sum ∧ (zs.map fun i : Int => i % ((10 : Int) ^ Int.toNat 21 + 117)).sum ≤ (zs.length : Int) * 1000000000000000000117 := by
    intro zs
    induction zs with
    | nil => exact ⟨Int.le_refl _, by simp⟩
    | cons z zs ih =>
      have b : (10 : Int) ^ Int.toNat 21 + 117 = 1000000000000000000117 := by decide
      have h1 := Int.emod_nonneg z (by decide : (1000000000000000000117 : Int) ≠ 0)
      have h2 := Int.emod_lt_of_pos z (by decide : (0 : Int) < 1000000000000000000117)
      rw [b] at ih ⊢
      simp only [List.map_cons, List.sum_cons, List.length_cons]
      omega
  have tot := sum_b ns
  generalize ht : (ns.map fun i : Int => i % ((10 : Int) ^ Int.toNat 21 + 117)).sum = t at tot
  have t0 : 0 ≤ t ∧ t ≤ 64000000000000000000000 := by omega
  have fin : ∀ (X : Int), X.natAbs < 2 ^ scB → Ink 0 (if X.natAbs - 10 ^ Int.toNat 18 > (0 : Int) then X.natAbs - 10 ^ Int.toNat 18 else 0) ((X * 15485867 + t * 2750159 + k * 7368787) % (10 ^ Int.toNat 27 + 103)) 0 := by
    intro X hX
    have b : (10 : Int) ^ Int.toNat 27 + 103 = 1000000000000000000000000103 := by decide
    have b2 : (2 : Int) ^ 90 = 1237940039285380274899124224 := by decide
    have b3 : (10 : Int) ^ Int.toNat 18 = 1000000000000000000 := by decide
    have lt : 2 ^ scB ≤ 2 ^ inkB := Nat.pow_le_pow_right (by decide) (by decide)
    generalize 2 ^ scB = s at *
    generalize he : 2 ^ inkB = e at *
    have e0 : 0 < e := he ▸ Nat.two_pow_pos _
    rw [b, b3]
    refine ⟨?_, ?_, Int.emod_nonneg _ (by decide), ?_, by decide, by decide⟩
    · split <;> omega
    · rw [he]; split <;> omega
    · rw [b2]
      have := Int.emod_lt_of_pos (X * 15485867 + t * 2750159 + k * 7368787) (by decide : (0 : Int) < 1000000000000000000000000103)
      omega
  have sm : ∀ (X : Int), X.natAbs < 2 ^ scB → Sm X ∧ Sm 15485867 := fun X h => ⟨.of scB h, .of 100 (by decide)⟩
  have ab : ∀ X : Int, (if X < 0 then -X else X) = X.natAbs := by intro X; split <;> omega
  have p20 : (31 * k + 7 + (ns.length : Int)).natAbs < 2 ^ scB := Nat.lt_of_lt_of_le (by omega : (31 * k + 7 + (ns.length : Int)).natAbs < 2 ^ 20) (Nat.pow_le_pow_right (by decide) (by decide))
  walk_at "go"
  · rename_i hk
    have hk : k < ns.length := of_decide_eq_true hk
    obtain ⟨v, hv, hm, _⟩ := atD_get k0 hk
    have hX : v.natAbs < 2 ^ scB := hb v hm
    refine ⟨v, hv, ?_⟩
    walk_at "go"
    clear hm hv
    generalize v = X at *
    have s1 := sm X hX
    have f1 := q _ _ _ (fin X hX)
    clear p20
    refine cmpD_pure (fun t => match t with | .d (.int i) => .int (i % ((10 : Int) ^ Int.toNat 21 + 117)) | _ => .non) (by rw [dT_map]; simp; omega) True.intro ?_ ?_
    · intro x hx
      rw [dT_map, List.map_map] at hx
      obtain ⟨z, _, rfl⟩ := List.mem_map.mp hx
      walk_at "go"
      exact ⟨rfl, rfl⟩
    · refine ⟨ns.map fun i : Int => i % ((10 : Int) ^ Int.toNat 21 + 117), by rw [dT_map, List.map_map, List.map_map, List.map_map]; rfl, ?_⟩
      rw [ht]
      walk_at "go"
      rw [ab]
      walk_at "go"

  · clear sum_b
    generalize 31 * k + 7 + (ns.length : Int) = X at *
    have s1 := sm X p20
    have f1 := q _ _ _ (fin X p20)
    refine cmpD_pure (fun t => match t with | .d (.int i) => .int (i % ((10 : Int) ^ Int.toNat 21 + 117)) | _ => .non) (by rw [dT_map]; simp; omega) True.intro ?_ ?_
    · intro x hx
      rw [dT_map, List.map_map] at hx
      obtain ⟨z, _, rfl⟩ := List.mem_map.mp hx
      walk_at "go"
      exact ⟨rfl, rfl⟩
    · refine ⟨ns.map fun i : Int => i % ((10 : Int) ^ Int.toNat 21 + 117), by rw [dT_map, List.map_map, List.map_map, List.map_map]; rfl, ?_⟩
      rw [ht]
      walk_at "go"
      rw [ab]
      walk_at "go"

end Sy

set_option Elab.async false
set_option linter.all false
set_option maxRecDepth 2000
namespace Sy
open PySem PySem.Spec
local macro_rules | `(tactic| walk_at "hn") => `(tactic| conv => whnf)
local macro_rules | `(tactic| walk_at "side") => `(tactic| first | exact True.intro | assumption | exact ⟨rfl, rfl⟩ | omega | exact len_lit rfl | exact pow_lit rfl | exact pos_lit rfl | exact div_lit rfl | exact ⟨.of 100 (by omega), .of 100 (by omega)⟩ | fail)
local macro_rules | `(tactic| walk_at "cl") => `(tactic| first | rfl | assumption | exact bnt (by first | assumption | fail) | exact bnf (by first | assumption | fail) | fail)
local macro_rules | `(tactic| walk_at "br") => `(tactic| first
  | (refine br_t (by walk_at "cl") ?_)
  | (refine br_f (by walk_at "cl") ?_)
  | (refine br_2 (fun _ => ?_) (fun _ => ?_))
  | (refine ex_at (by first | rfl | assumption | fail) ?_)
  | (refine And.intro (by walk_at "side") ?_)
  | fail)
local macro_rules | `(tactic| walk_at "go") => `(tactic| ((repeat' (first | assumption | walk_at "br" | (walk_at "hn"; first | assumption | walk_at "br" | fail) | fail)) <;> walk_at "hn"))
abbrev iD (xs : List Int) : List D := xs.map D.int
def rowD (xs : List Int) : D := .tup (iD xs)
def blkD (b : List (List Int)) : D := .tup (b.map rowD)
structure Bk where
  b : Int
  sh : List Int
  bl : List (List (List Int))
def Bk.d (B : Bk) : D := .tup [.int B.b, .tup (iD B.sh), .tup (B.bl.map blkD)]
structure RowOk (n b : Int) (r : List Int) : Prop where
  len : (r.length : Int) = b
  at_ : ∀ l, l ∈ r → 0 ≤ l ∧ l < n
structure BlkOk (n b : Int) (k : List (List Int)) : Prop where
  len : (k.length : Int) = b
  at_ : ∀ r, r ∈ k → RowOk n b r
structure Bk.Ok (B : Bk) : Prop where
  b2 : 2 ≤ B.b
  b4 : B.b ≤ 4
  s1 : 1 ≤ B.sh.length
  s64 : B.sh.length ≤ 64
  len : B.bl.length = B.sh.length
  sh : ∀ s, s ∈ B.sh → 0 ≤ s ∧ s ≤ 3
  bl : ∀ k, k ∈ B.bl → BlkOk B.sh.length B.b k
/-- a picture -/
def Bk.pic (B : Bk) (l : Int) : D := .tup [B.d, .int l]
theorem all_of {α β : Type} {f : α → β} {p : β → Bool} {xs : List α} (h : ∀ x, x ∈ xs → p (f x) = true) : (xs.map f).all p = true := by
  rw [List.all_eq_true]
  intro y hy
  obtain ⟨x, hx, rfl⟩ := List.mem_map.mp hy
  exact h x hx
theorem isPic_pic {B : Bk} {l : Int} (ok : B.Ok) (l0 : 0 ≤ l) (l1 : l < B.sh.length) : isPic (B.pic l) = true := by
  have s1 := ok.s1
  have s64 := ok.s64
  have h1 : isShelf B.d = true := by
    show ((decide (2 ≤ B.b) && decide (B.b ≤ 4)) && ((decide (1 ≤ ((iD B.sh).length : Int)) && decide (((iD B.sh).length : Int) ≤ 64)) && decide (((B.bl.map blkD).length : Int) = ((iD B.sh).length : Int)))) = true
    rw [List.length_map, List.length_map, ok.len]
    simp only [Bool.and_eq_true, decide_eq_true_eq]
    exact ⟨⟨ok.b2, ok.b4⟩, ⟨by omega, by omega⟩, trivial⟩
  have hr : ∀ r : List Int, RowOk B.sh.length B.b r → isRow B.sh.length B.b (rowD r) = true := by
    intro r h
    show (decide (((iD r).length : Int) = B.b) && (iD r).all (isLet B.sh.length)) = true
    rw [List.length_map, Bool.and_eq_true]
    refine ⟨decide_eq_true h.len, all_of fun x hx => ?_⟩
    show (decide (0 ≤ x) && decide (x < (B.sh.length : Int))) = true
    rw [Bool.and_eq_true]
    exact ⟨decide_eq_true (h.at_ x hx).1, decide_eq_true (h.at_ x hx).2⟩
  have hk : ∀ k : List (List Int), BlkOk B.sh.length B.b k → isBlk B.sh.length B.b (blkD k) = true := by
    intro k h
    show (decide (((k.map rowD).length : Int) = B.b) && (k.map rowD).all (isRow B.sh.length B.b)) = true
    rw [List.length_map, Bool.and_eq_true]
    exact ⟨decide_eq_true h.len, all_of fun x hx => hr x (h.at_ x hx)⟩
  have h2 : isPic2 (.int l) B.d = true := by
    show ((decide (0 ≤ l) && decide (l < ((iD B.sh).length : Int))) && ((iD B.sh).all isSh && (B.bl.map blkD).all (isBlk ((B.bl.map blkD).length : Int) B.b))) = true
    rw [List.length_map, List.length_map, ok.len]
    simp only [Bool.and_eq_true, decide_eq_true_eq]
    refine ⟨⟨l0, l1⟩, all_of fun x hx => ?_, all_of fun x hx => hk x (ok.bl x hx)⟩
    show (decide (0 ≤ x) && decide (x ≤ 3)) = true
    rw [Bool.and_eq_true]
    exact ⟨decide_eq_true (ok.sh x hx).1, decide_eq_true (ok.sh x hx).2⟩
  show (isShelf B.d && isPic2 (.int l) B.d) = true
  rw [h1, h2]; rfl
theorem r_check_picture {x : D} {Q : QT} {Z : ZT} (h : isPic x = true) (q : Q (.d .non) []) : f_check_picture.run [.d x] [] Q Z := by
  rw [f_check_picture_eq]
  walk_at "go"
  refine r_is_picture ?_
  rw [h]
  walk_at "go"
theorem r_check_depth {d : Int} {Q : QT} {Z : ZT} (q : 0 ≤ d → Q (.d .non) []) (z : d < 0 → Z 4 (.int d) []) : f_check_depth.run [.d (.int d)] [] Q Z := by
  rw [f_check_depth_eq]
  walk_at "go"
  · rename_i h; exact z (of_decide_eq_true h)
  · rename_i h; exact q (by have := of_decide_eq_false h; omega)
theorem r_side_of {b d : Int} {Q : QT} {Z : ZT} (b1 : 2 ≤ b) (b2 : b ≤ 4) (d0 : 0 ≤ d) (d1 : d ≤ 1000) (q : Q (.d (.int (b ^ d.toNat))) []) : f_side_of.run [.d (.int b), .d (.int d)] [] Q Z := by
  rw [f_side_of_eq]
  obtain ⟨B, rfl⟩ : ∃ B : Nat, b = B := ⟨b.toNat, by omega⟩
  obtain ⟨N, rfl⟩ : ∃ N : Nat, d = N := ⟨d.toNat, by omega⟩
  rw [Int.toNat_natCast] at q
  have big : B ^ N ≤ 4 ^ 1000 := Nat.le_trans (Nat.pow_le_pow_left (by omega) _) (Nat.pow_le_pow_right (by decide) (by omega))
  have big2 : (4 : Nat) ^ 1000 < 2 ^ 2001 := by rw [show (4 : Nat) = 2 ^ 2 from rfl, ← Nat.pow_mul]; exact Nat.pow_lt_pow_right (by decide) (by decide)
  walk_at "go"
  refine while_inv (fun n e s => s = [] ∧ ∃ (e0 : Option T) (x y : Nat), e = [e0, some (.d (.int (n : Int))), some (.d (.int (x : Int))), some (.d (.int (y : Int)))] ∧ 1 ≤ x ∧ 1 ≤ y ∧ x * y ^ n = B ^ N) ⟨N, rfl, _, 1, B, rfl, by decide, by omega, by omega⟩ ?_
  rintro n e s ⟨rfl, e0, x, y, rfl, x1, y1, h⟩
  have sx : Sm (x : Int) := .of 2001 (Nat.lt_of_le_of_lt (Nat.le_trans (Nat.le_trans (Nat.le_mul_of_pos_right x (Nat.pow_pos y1)) (Nat.le_of_eq h)) big) big2)
  have sy : 1 ≤ n → Sm (y : Int) := fun hn => .of 2001 (Nat.lt_of_le_of_lt (Nat.le_trans (Nat.le_trans (Nat.le_trans (Nat.le_self_pow (by omega) y) (Nat.le_mul_of_pos_left _ x1)) (Nat.le_of_eq h)) big) big2)
  clear big big2
  have dv : ((n : Int) / 2) = ((n / 2 : Nat) : Int) := rfl
  have md : ((n : Int) % 2) = ((n % 2 : Nat) : Int) := rfl
  have pw : y ^ n = (y * y) ^ (n / 2) * y ^ (n % 2) := by rw [← Nat.pow_two, ← Nat.pow_mul, ← Nat.pow_add]; congr 1; omega
  walk_at "go"
  · rename_i h1 h2
    have h1 : (0 : Int) < n := of_decide_eq_true h1
    have h2 : ((n : Int) % 2) = 1 := of_decide_eq_true h2
    have sy := sy (by omega)
    refine ⟨⟨sx, sy⟩, ?_⟩
    walk_at "go"
    refine ⟨⟨sy, sy⟩, ?_⟩
    walk_at "go"
    refine ⟨n / 2, by omega, rfl, none, x * y, y * y, by simp, Nat.mul_pos x1 y1, Nat.mul_pos y1 y1, ?_⟩
    rw [← h, pw, show n % 2 = 1 by omega, Nat.pow_one, Nat.mul_assoc x y, Nat.mul_comm y]
  · rename_i h1 h2
    have h1 : (0 : Int) < n := of_decide_eq_true h1
    have h2 : ¬ ((n : Int) % 2) = 1 := of_decide_eq_false h2
    have sy := sy (by omega)
    refine ⟨⟨sy, sy⟩, ?_⟩
    walk_at "go"
    refine ⟨n / 2, by omega, rfl, none, x, y * y, by simp, x1, Nat.mul_pos y1 y1, ?_⟩
    rw [← h, pw, show n % 2 = 0 by omega, Nat.pow_zero, Nat.mul_one]
  · rename_i h1
    have h1 : ¬ (0 : Int) < n := of_decide_eq_false h1
    have : n = 0 := by omega
    subst this
    rw [Nat.pow_zero, Nat.mul_one] at h
    rw [← Int.natCast_pow, ← h] at q
    exact q
end Sy

set_option Elab.async false
set_option linter.all false
set_option maxRecDepth 2000
namespace Sy
open PySem PySem.Spec
local macro_rules | `(tactic| walk_at "hn") => `(tactic| conv => whnf)
local macro_rules | `(tactic| walk_at "side") => `(tactic| first | exact True.intro | assumption | exact ⟨rfl, rfl⟩ | omega | exact len_lit rfl | exact pow_lit rfl | exact pos_lit rfl | exact div_lit rfl | exact ⟨.of 100 (by omega), .of 100 (by omega)⟩ | fail)
local macro_rules | `(tactic| walk_at "cl") => `(tactic| first | rfl | assumption | exact bnt (by first | assumption | fail) | exact bnf (by first | assumption | fail) | fail)
local macro_rules | `(tactic| walk_at "br") => `(tactic| first
  | (refine br_t (by walk_at "cl") ?_)
  | (refine br_f (by walk_at "cl") ?_)
  | (refine br_2 (fun _ => ?_) (fun _ => ?_))
  | (refine ex_at (by first | rfl | assumption | fail) ?_)
  | (refine And.intro (by walk_at "side") ?_)
  | fail)
local macro_rules | `(tactic| walk_at "go") => `(tactic| ((repeat' (first | assumption | walk_at "br" | (walk_at "hn"; first | assumption | walk_at "br" | fail) | fail)) <;> walk_at "hn"))
local macro_rules | `(tactic| walk_at "dec") => `(tactic| (simp only [decide_eq_true_eq, decide_eq_false_iff_not, Bool.not_eq_true', Bool.not_eq_false'] at *))
theorem iD_app (xs ys : List Int) : iD (xs ++ ys) = iD xs ++ iD ys := List.map_append
theorem iD_rev (xs : List Int) : (iD xs).reverse = iD xs.reverse := List.map_reverse.symm
theorem iD_len (xs : List Int) : (iD xs).length = xs.length := List.length_map ..
def lows (b : Int) : Nat → Int → List Int
  | 0, _ => []
  | d + 1, n => n % b :: lows b d (n / b)
def figs (b : Int) (d : Nat) (n : Int) : List Int := (lows b d n).reverse
theorem lows_len (b : Int) : ∀ (d : Nat) (n : Int), (lows b d n).length = d
  | 0, _ => rfl
  | d + 1, n => by rw [lows, List.length_cons, lows_len b d]
/-- what is left of the number behind j figures -/
def over (b : Int) : Nat → Int → Int
  | 0, n => n
  | j + 1, n => over b j n / b
theorem lows_succ (b : Int) : ∀ (d : Nat) (n : Int), lows b (d + 1) n = lows b d n ++ [over b d n % b] ∧ over b (d + 1) n = over b d (n / b)
  | 0, n => ⟨rfl, rfl⟩
  | d + 1, n => by
    have h := lows_succ b d (n / b)
    refine ⟨?_, ?_⟩
    · rw [lows, h.1, lows]
      have h2 := (lows_succ b d n).2
      rw [List.cons_append, ← h2]
    · rw [over, (lows_succ b d n).2, over]
theorem r_figures_of {b n : Int} {d : Nat} {Q : QT} {Z : ZT} (b1 : 2 ≤ b) (b2 : b ≤ 4) (d1 : d ≤ 1000) (q : ∀ s, Q (.d (.lst (iD (figs b d n)))) s) : f_figures_of.run [.d (.int b), .d (.int (d : Int)), .d (.int n)] [] Q Z := by
  rw [f_figures_of_eq]
  have hz : (1000 : Nat) < sizeLine := by decide
  have hb : 0 < b ∧ b.natAbs < 2 ^ 9000 := ⟨by omega, Nat.lt_of_lt_of_le (by omega : b.natAbs < 2 ^ 3) (Nat.pow_le_pow_right (by decide) (by decide))⟩
  have hb0 : 0 < b := hb.1
  walk_at "go"
  refine forL_rng (fun j e s => ∃ e1, e = [some (.d (.int b)), e1, some (.d (.int (over b j n))), some (.loc 0), none] ∧ s = [.lst (iD (lows b j n))]) ⟨_, rfl, rfl⟩ (fun _ _ _ _ => True.intro) ?_ ?_
  · rintro j e s hj ⟨e1, rfl, rfl⟩
    rw [Int.toNat_natCast] at hj
    have hl : (iD (lows b j n)).length < sizeLine := by rw [List.length_map, lows_len]; omega
    walk_at "go"
    refine ⟨none, rfl, ?_⟩
    rw [(lows_succ b j n).1, iD_app]
    rfl
  · rintro e s ⟨e1, rfl, rfl⟩
    rw [Int.toNat_natCast]
    walk_at "go"
    rw [iD_rev]
    exact q _
/-- the letter that stands behind these steps -/
def ledB (B : Bk) : Int → List Int → List Int → Int
  | l, i :: is, j :: js => ledB B (((B.bl.getD l.toNat []).getD i.toNat []).getD j.toNat 0) is js
  | l, _, _ => l
def Ran (b : Int) (xs : List Int) : Prop := ∀ x, x ∈ xs → 0 ≤ x ∧ x < b
theorem Bk.Ok.step {B : Bk} (ok : B.Ok) {l i j : Int} (l0 : 0 ≤ l) (l1 : l < B.sh.length) (i0 : 0 ≤ i) (i1 : i < B.b) (j0 : 0 ≤ j) (j1 : j < B.b) :
    ∃ (k : List (List Int)) (r : List Int) (m : Int), atD (B.bl.map blkD) l = some (blkD k) ∧ atD (k.map rowD) i = some (rowD r) ∧ atD (iD r) j = some (.int m) ∧ 0 ≤ m ∧ m < B.sh.length ∧ ((B.bl.getD l.toNat []).getD i.toNat []).getD j.toNat 0 = m := by
  obtain ⟨k, h1, hk, g1⟩ := atD_get (xs := B.bl) l0 (by rw [ok.len]; exact l1)
  have kok := ok.bl k hk
  obtain ⟨r, h2, hr, g2⟩ := atD_get (xs := k) i0 (by rw [kok.len]; exact i1)
  have rok := kok.at_ r hr
  obtain ⟨m, h3, hm, g3⟩ := atD_get (xs := r) j0 (by rw [rok.len]; exact j1)
  refine ⟨k, r, m, by rw [atD_map, h1]; rfl, by rw [atD_map, h2]; rfl, by rw [atD_map, h3]; rfl, (rok.at_ m hm).1, (rok.at_ m hm).2, ?_⟩
  rw [List.getD_eq_getElem?_getD, List.getD_eq_getElem?_getD, List.getD_eq_getElem?_getD, g1]
  show ((k[i.toNat]?.getD [])[j.toNat]?).getD 0 = m
  rw [g2]
  show (r[j.toNat]?).getD 0 = m
  rw [g3]
  rfl
theorem ledB_in {B : Bk} (ok : B.Ok) : ∀ {is js : List Int} {l : Int}, 0 ≤ l → l < B.sh.length → Ran B.b is → Ran B.b js → 0 ≤ ledB B l is js ∧ ledB B l is js < B.sh.length
  | [], _, l, a, b, _, _ => by rw [ledB]; exact ⟨a, b⟩; simp
  | _ :: _, [], l, a, b, _, _ => by rw [ledB]; exact ⟨a, b⟩; simp
  | i :: is, j :: js, l, a, b, h1, h2 => by
    obtain ⟨k, r, m, _, _, _, m0, m1, e⟩ := ok.step a b (h1 i (by simp)).1 (h1 i (by simp)).2 (h2 j (by simp)).1 (h2 j (by simp)).2
    rw [ledB, e]
    exact ledB_in ok m0 m1 (fun x hx => h1 x (by simp [hx])) (fun x hx => h2 x (by simp [hx]))
theorem lows_ran {b : Int} (hb : 2 ≤ b) : ∀ (d : Nat) (n : Int), Ran b (lows b d n)
  | 0, _ => fun x hx => by simp [lows] at hx
  | d + 1, n => fun x hx => by
    rw [lows, List.mem_cons] at hx
    rcases hx with rfl | hx
    · exact ⟨Int.emod_nonneg _ (by omega), Int.emod_lt_of_pos _ (by omega)⟩
    · exact lows_ran hb d _ x hx
theorem figs_ran {b : Int} (hb : 2 ≤ b) (d : Nat) (n : Int) : Ran b (figs b d n) := fun x hx => lows_ran hb d n x (List.mem_reverse.mp hx)
theorem go_found {B : Bk} (ok : B.Ok) {k : Kont} (gd : Sto → Prop) (hgd : gd []) : ∀ (is js : List Int) (l : Int) (e0 e1 e2 e3 e5 e4 e8 e9 : Option T), 0 ≤ l → l < B.sh.length → Ran B.b is → Ran B.b js → is.length = js.length →
    (∀ e0 e1 e2 e3 e5 e4 e8 e9, k.nx [e0, e1, e2, e3, e4, e5, some (.d (.tup (B.bl.map blkD))), some (.d (.int (ledB B l is js))), e8, e9] []) →
    forL (gTup 2 (gCons (gName 8) (gCons (gName 9) gNil))) l_found_letter_1 gd (zipD (iD is) (iD js)) [e0, e1, e2, e3, e4, e5, some (.d (.tup (B.bl.map blkD))), some (.d (.int l)), e8, e9] [] k
  | [], [], l, _, _, _, _, _, _, _, _, _, _, _, _, _, q => ⟨hgd, by rw [ledB] at q; exact q _ _ _ _ _ _ _ _; simp⟩
  | i :: is, j :: js, l, e0, e1, e2, e3, e5, e4, e8, e9, l0, l1, h1, h2, hl, q => by
    obtain ⟨kk, r, m, a1, a2, a3, m0, m1, e⟩ := ok.step l0 l1 (h1 i (by simp)).1 (h1 i (by simp)).2 (h2 j (by simp)).1 (h2 j (by simp)).2
    rw [ledB, e] at q
    have ih := go_found ok gd hgd is js m none none none none none none none none m0 m1 (fun x hx => h1 x (by simp [hx])) (fun x hx => h2 x (by simp [hx])) (by simpa using hl) q
    refine ⟨hgd, ?_⟩
    walk_at "go"
  | [], _ :: _, _, _, _, _, _, _, _, _, _, _, _, _, _, hl, _ => by simp at hl
  | _ :: _, [], _, _, _, _, _, _, _, _, _, _, _, _, _, hl, _ => by simp at hl
theorem figs_len (b : Int) (d : Nat) (n : Int) : (figs b d n).length = d := by rw [figs, List.length_reverse, lows_len]
theorem r_found_letter {B : Bk} {l r c : Int} {d : Nat} {Q : QT} {Z : ZT} (ok : B.Ok) (l0 : 0 ≤ l) (l1 : l < B.sh.length) (d1 : d ≤ 1000)
    (q : ∀ s, Q (.d (.int (ledB B l (figs B.b d r) (figs B.b d c)))) s) : f_found_letter.run [.d (B.pic l), .d (.int (d : Int)), .d (.int r), .d (.int c)] [] Q Z := by
  rw [f_found_letter_eq]
  have b2 := ok.b2
  walk_at "go"
  refine r_figures_of b2 ok.b4 d1 fun s => ?_
  walk_at "go"
  refine r_figures_of b2 ok.b4 d1 fun s => ?_
  walk_at "go"
  refine ⟨rfl, ?_⟩
  refine go_found ok (fun _ => True ∧ True) ⟨True.intro, True.intro⟩ (figs B.b d r) (figs B.b d c) _ _ _ _ _ _ _ _ _ l0 l1 (figs_ran b2 _ _) (figs_ran b2 _ _) (by rw [figs_len, figs_len]) fun e0 e1 e2 e3 e5 e4 e8 e9 => ?_
  walk_at "go"
  exact q _
theorem r_check_place {b r c : Int} {d : Nat} {Q : QT} {Z : ZT} (b1 : 2 ≤ b) (b2 : b ≤ 4) (d1 : d ≤ 1000)
    (q : 0 ≤ r → r < b ^ d → 0 ≤ c → c < b ^ d → ∀ s, Q (.d .non) s) (z : ¬ (0 ≤ r ∧ r < b ^ d ∧ 0 ≤ c ∧ c < b ^ d) → ∀ s, Z 7 (.tup [.int r, .int c]) s) : f_check_place.run [.d (.int b), .d (.int (d : Int)), .d (.int r), .d (.int c)] [] Q Z := by
  rw [f_check_place_eq]
  walk_at "go"
  refine r_side_of b1 b2 (by omega) (by omega) ?_
  rw [Int.toNat_natCast]
  generalize b ^ d = S at *
  walk_at "go"
  all_goals first
    | (refine z ?_ _; walk_at "dec"; omega)
    | (refine q ?_ ?_ ?_ ?_ _ <;> (walk_at "dec"; omega))
theorem r_letter_at {B : Bk} {l r c : Int} {d : Int} {Q : QT} {Z : ZT} (ok : B.Ok) (l0 : 0 ≤ l) (l1 : l < B.sh.length) (d1 : d ≤ 1000)
    (q : 0 ≤ d → 0 ≤ r → r < B.b ^ d.toNat → 0 ≤ c → c < B.b ^ d.toNat → ∀ s, Q (.d (.int (ledB B l (figs B.b d.toNat r) (figs B.b d.toNat c)))) s)
    (z4 : d < 0 → ∀ s, Z 4 (.int d) s) (z7 : 0 ≤ d → ¬ (0 ≤ r ∧ r < B.b ^ d.toNat ∧ 0 ≤ c ∧ c < B.b ^ d.toNat) → ∀ s, Z 7 (.tup [.int r, .int c]) s) : f_letter_at.run [.d (B.pic l), .d (.int d), .d (.int r), .d (.int c)] [] Q Z := by
  rw [f_letter_at_eq]
  have hp := isPic_pic ok l0 l1
  walk_at "go"
  refine r_check_picture hp ?_
  walk_at "go"
  refine r_check_depth (fun h => ?_) (fun h => ?_)
  · obtain ⟨N, rfl⟩ : ∃ N : Nat, d = N := ⟨d.toNat, by omega⟩
    rw [Int.toNat_natCast] at *
    walk_at "go"
    refine r_check_place ok.b2 ok.b4 (by omega) (fun a1 a2 a3 a4 s => ?_) (fun a s => ?_)
    · walk_at "go"
      refine r_found_letter ok l0 l1 (by omega) fun s => ?_
      walk_at "go"
      exact q h a1 a2 a3 a4 _
    · walk_at "go"
      exact z7 h a _
  · walk_at "go"
    exact z4 h _
end Sy

set_option Elab.async false
set_option linter.all false
set_option maxRecDepth 2000
namespace Sy
open PySem PySem.Spec
local macro_rules | `(tactic| walk_at "hn") => `(tactic| conv => whnf)
local macro_rules | `(tactic| walk_at "side") => `(tactic| first | exact True.intro | assumption | exact ⟨rfl, rfl⟩ | omega | exact len_lit rfl | exact pow_lit rfl | exact pos_lit rfl | exact div_lit rfl | exact ⟨.of 100 (by omega), .of 100 (by omega)⟩ | fail)
local macro_rules | `(tactic| walk_at "cl") => `(tactic| first | rfl | assumption | exact bnt (by first | assumption | fail) | exact bnf (by first | assumption | fail) | fail)
local macro_rules | `(tactic| walk_at "br") => `(tactic| first
  | (refine br_t (by walk_at "cl") ?_)
  | (refine br_f (by walk_at "cl") ?_)
  | (refine br_2 (fun _ => ?_) (fun _ => ?_))
  | (refine ex_at (by first | rfl | assumption | fail) ?_)
  | (refine And.intro (by walk_at "side") ?_)
  | fail)
local macro_rules | `(tactic| walk_at "go") => `(tactic| ((repeat' (first | assumption | walk_at "br" | (walk_at "hn"; first | assumption | walk_at "br" | fail) | fail)) <;> walk_at "hn"))
local macro_rules | `(tactic| walk_at "dec") => `(tactic| (simp only [decide_eq_true_eq, decide_eq_false_iff_not, Bool.not_eq_true', Bool.not_eq_false'] at *))
theorem r_shade_at {B : Bk} {l r c : Int} {d : Int} {Q : QT} {Z : ZT} (ok : B.Ok) (l0 : 0 ≤ l) (l1 : l < B.sh.length) (d1 : d ≤ 1000)
    (q : 0 ≤ d → 0 ≤ r → r < B.b ^ d.toNat → 0 ≤ c → c < B.b ^ d.toNat → ∀ s, Q (.d (.int (B.sh.getD (ledB B l (figs B.b d.toNat r) (figs B.b d.toNat c)).toNat 0))) s)
    (z4 : d < 0 → ∀ s, Z 4 (.int d) s) (z7 : 0 ≤ d → ¬ (0 ≤ r ∧ r < B.b ^ d.toNat ∧ 0 ≤ c ∧ c < B.b ^ d.toNat) → ∀ s, Z 7 (.tup [.int r, .int c]) s) : f_shade_at.run [.d (B.pic l), .d (.int d), .d (.int r), .d (.int c)] [] Q Z := by
  rw [f_shade_at_eq]
  walk_at "go"
  refine r_letter_at ok l0 l1 d1 (fun a1 a2 a3 a4 a5 s => ?_) (fun a s => ?_) (fun a b s => ?_)
  · obtain ⟨m0, m1⟩ := ledB_in ok l0 l1 (figs_ran ok.b2 d.toNat r) (figs_ran ok.b2 d.toNat c)
    generalize ledB B l (figs B.b d.toNat r) (figs B.b d.toNat c) = m at *
    obtain ⟨v, h1, h2, h3⟩ := atD_get (xs := B.sh) m0 m1
    have h4 : atD (iD B.sh) m = some (.int v) := by rw [atD_map, h1]; rfl
    have h5 : B.sh.getD m.toNat 0 = v := by rw [List.getD_eq_getElem?_getD, h3]; rfl
    rw [h5] at q
    have q := q a1 a2 a3 a4 a5
    walk_at "go"
    exact q _
  · walk_at "go"
    exact z4 a _
  · walk_at "go"
    exact z7 a b _
theorem r_part {B : Bk} {l r c : Int} {d : Int} {Q : QT} {Z : ZT} (ok : B.Ok) (l0 : 0 ≤ l) (l1 : l < B.sh.length) (d1 : d ≤ 1000)
    (q : 0 ≤ d → 0 ≤ r → r < B.b ^ d.toNat → 0 ≤ c → c < B.b ^ d.toNat → ∀ s, Q (.d (B.pic (ledB B l (figs B.b d.toNat r) (figs B.b d.toNat c)))) s)
    (z4 : d < 0 → ∀ s, Z 4 (.int d) s) (z7 : 0 ≤ d → ¬ (0 ≤ r ∧ r < B.b ^ d.toNat ∧ 0 ≤ c ∧ c < B.b ^ d.toNat) → ∀ s, Z 7 (.tup [.int r, .int c]) s) : f_part.run [.d (B.pic l), .d (.int d), .d (.int r), .d (.int c)] [] Q Z := by
  rw [f_part_eq]
  walk_at "go"
  refine r_letter_at ok l0 l1 d1 (fun a1 a2 a3 a4 a5 s => ?_) (fun a s => ?_) (fun a b s => ?_)
  · have q := q a1 a2 a3 a4 a5
    walk_at "go"
    exact q _
  · walk_at "go"
    exact z4 a _
  · walk_at "go"
    exact z7 a b _
def Plain : Nat → D → Prop
  | _, .int _ => True
  | _, .bl _ => True
  | _, .non => True
  | n + 1, .tup xs => xs.length ≤ sizeLine ∧ ∀ x, x ∈ xs → Plain n x
  | n + 1, .lst xs => xs.length ≤ sizeLine ∧ ∀ x, x ∈ xs → Plain n x
  | _, _ => False
theorem go_same {n : Nat} (ih : ∀ {x : D} {Q : QT} {Z : ZT}, Plain n x → (∀ s, Q (.d (.bl true)) s) → (f_same_l (n + 1)).run [.d x, .d x] [] Q Z) {xs : List D} (h : ∀ x, x ∈ xs → Plain n x) (hz : xs.length ≤ sizeLine) {b : Bool} {Q : List D → Sto → Prop}
    (q : Q ((List.range xs.length).map fun _ => .bl true) []) (X : D) (hX : X = .tup xs ∨ X = .lst xs) :
    cmpD (gName 2) (eD (.bl true)) (eCall (f_same_l (n + 1)) (aCons (eBin oIx (eVar 0) (eVar 2)) (aCons (eBin oIx (eVar 1) (eVar 2)) aNil))) [2] (fun _ => True) (rgT 0 xs.length) [some (.d X), some (.d X), none] [] [] Q := by
  refine cmpD_rng _ hz True.intro (fun j hj => ?_) q
  obtain ⟨v, h1, h2, _⟩ := atD_get (xs := xs) (i := 0 + (j : Int)) (by omega) (by omega)
  have ih := @ih v
  rcases hX with rfl | rfl
  · walk_at "go"
    refine ih (h v h2) fun s => ?_
    walk_at "go"
    exact ⟨rfl, rfl⟩
  · walk_at "go"
    refine ih (h v h2) fun s => ?_
    walk_at "go"
    exact ⟨rfl, rfl⟩
theorem r_same : ∀ {n : Nat} {x : D} {Q : QT} {Z : ZT}, Plain n x → (∀ s, Q (.d (.bl true)) s) → (f_same_l (n + 1)).run [.d x, .d x] [] Q Z := by
  intro n
  induction n with
  | zero =>
    intro x Q Z h q
    rw [f_same_l_eq]
    rcases x with _ | b | i | _ | xs | xs | _
    · walk_at "go"
      exact q _
    · cases b <;> walk_at "go"
      · exact q _
      · exact q _
    · have q := q []
      rw [← eqq_int i] at q
      walk_at "go"
    all_goals exact h.elim
  | succ n ih =>
    intro x Q Z h q
    rw [f_same_l_eq]
    rcases x with _ | b | i | _ | xs | xs | _
    · walk_at "go"
      exact q _
    · cases b <;> walk_at "go"
      · exact q _
      · exact q _
    · have q := q []
      rw [← eqq_int i] at q
      walk_at "go"
    · exact h.elim
    · have he := eqq_int xs.length
      have hr := len_rng h.1
      have eb : ((List.replicate xs.length true).all id) = true := by simp
      walk_at "go"
      refine go_same ih h.2 h.1 (b := true) ?_ _ (.inl rfl)
      refine ⟨List.replicate xs.length true, by simp [List.map_replicate, List.map_const'], ?_⟩
      rw [eb]
      walk_at "go"
      exact q _
    · have he := eqq_int xs.length
      have hr := len_rng h.1
      have eb : ((List.replicate xs.length true).all id) = true := by simp
      walk_at "go"
      refine go_same ih h.2 h.1 (b := true) ?_ _ (.inr rfl)
      refine ⟨List.replicate xs.length true, by simp [List.map_replicate, List.map_const'], ?_⟩
      rw [eb]
      walk_at "go"
      exact q _
    · exact h.elim
end Sy

set_option Elab.async false
set_option linter.all false
set_option maxRecDepth 2000
namespace Sy
open PySem PySem.Spec
local macro_rules | `(tactic| walk_at "hn") => `(tactic| conv => whnf)
local macro_rules | `(tactic| walk_at "side") => `(tactic| first | exact True.intro | assumption | exact ⟨rfl, rfl⟩ | omega | exact len_lit rfl | exact pow_lit rfl | exact pos_lit rfl | exact div_lit rfl | exact ⟨.of 100 (by omega), .of 100 (by omega)⟩ | fail)
local macro_rules | `(tactic| walk_at "cl") => `(tactic| first | rfl | assumption | exact bnt (by first | assumption | fail) | exact bnf (by first | assumption | fail) | fail)
local macro_rules | `(tactic| walk_at "br") => `(tactic| first
  | (refine br_t (by walk_at "cl") ?_)
  | (refine br_f (by walk_at "cl") ?_)
  | (refine br_2 (fun _ => ?_) (fun _ => ?_))
  | (refine ex_at (by first | rfl | assumption | fail) ?_)
  | (refine And.intro (by walk_at "side") ?_)
  | fail)
local macro_rules | `(tactic| walk_at "go") => `(tactic| ((repeat' (first | assumption | walk_at "br" | (walk_at "hn"; first | assumption | walk_at "br" | fail) | fail)) <;> walk_at "hn"))
local macro_rules | `(tactic| walk_at "dec") => `(tactic| (simp only [decide_eq_true_eq, decide_eq_false_iff_not, Bool.not_eq_true', Bool.not_eq_false'] at *))
def upTo (k : Nat) : List Int := (List.range k).map fun i : Nat => (i : Int)
theorem intD_up (k : Nat) : intD 0 k = iD (upTo k) := by
  unfold intD upTo iD
  rw [List.map_map]
  refine List.map_congr_left fun i _ => ?_
  show D.int (0 + (i : Int)) = .int i
  rw [Int.zero_add]
theorem pop_perm {α : Type} : ∀ {xs ys : List α} {i : Nat} {x : α}, xs[i]? = some x → (xs.eraseIdx i ++ (ys ++ [x])).Perm (xs ++ ys)
  | [], ys, i, x, h => by simp at h
  | y :: xs, ys, 0, x, h => by
    have : y = x := by simpa using h
    subst this
    show (xs ++ (ys ++ [y])).Perm (y :: (xs ++ ys))
    rw [← List.append_assoc]
    exact List.perm_append_singleton _ _
  | y :: xs, ys, i + 1, x, h => by
    have h : xs[i]? = some x := by simpa using h
    exact (pop_perm h).cons y
theorem seq_at {r : Int} {n : Nat} (h0 : 0 ≤ r) (h1 : r < n) : seqIndex? r n = some r.toNat := by
  unfold seqIndex?
  have e : ¬ r < 0 := by omega
  simp [e, h0, h1]
theorem map_eraseIdx {α β : Type} (f : α → β) : ∀ (xs : List α) (i : Nat), (xs.map f).eraseIdx i = (xs.eraseIdx i).map f
  | [], _ => rfl
  | _ :: _, 0 => rfl
  | x :: xs, i + 1 => by
    show f x :: (xs.map f).eraseIdx i = f x :: (xs.eraseIdx i).map f
    rw [map_eraseIdx f xs i]
theorem r_order {n : Nat} {a m c : Int} {k : Nat} {Q : QT} {Z : ZT} (h : Ink n a m c) (hn : n ≤ 100000000) (k1 : k ≤ 1000)
    (q : ∀ ps a m c, Ink (n + k) a m c → (ps : List Int).Perm (upTo k) → ∀ s, Q (.d (.lst (iD ps))) (ink a m c :: s)) : f_order_l.run [.loc 0, .d (.int (k : Int))] [ink a m c] Q Z := by
  rw [f_order_l_eq]
  have hz : (1000 : Nat) < sizeLine := by decide
  have hz1 : k ≤ sizeLine := by omega
  have hz2 := len_rng hz1
  walk_at "go"
  rw [Int.toNat_natCast, intD_up]
  refine forL_rng (fun j e s => ∃ e1 a m c left ord, Ink (n + j) a m c ∧ (left ++ ord).Perm (upTo k) ∧ left.length = k - j ∧ ord.length = j ∧ e = [some (.loc 0), e1, some (.loc 1), some (.loc 2), none] ∧ s = [ink a m c, .lst (iD left), .lst (iD ord)])
    ⟨_, a, m, c, upTo k, [], h, by rw [List.append_nil], by simp [upTo], rfl, rfl, rfl⟩ (fun _ _ _ _ => True.intro) ?_ ?_
  · rintro j e s hj ⟨e1, a, m, c, left, ord, hi, hp, hl, ho, rfl, rfl⟩
    walk_at "go"
    refine r_drip (k := ((iD left).length : Int)) hi (by omega) (by rw [iD_len]; omega) (by rw [iD_len]; omega) fun r a' m' c' r0 r1 hi' => ?_
    rw [iD_len] at r1
    have hlt : r.toNat < left.length := by omega
    have hy : left[r.toNat]? = some left[r.toNat] := List.getElem?_eq_getElem hlt
    have hol : (iD ord).length < sizeLine := by rw [iD_len]; omega
    walk_at "go"
    refine ⟨r.toNat, .int left[r.toNat], ?_, by rw [List.getElem?_map, hy]; rfl, ⟨by omega, by omega⟩, ?_⟩
    · rw [iD_len]; exact seq_at r0 r1
    · have hol : (iD ord).length < sizeLine := by rw [iD_len]; omega
      walk_at "go"
      refine ⟨none, a', m', c', left.eraseIdx r.toNat, ord ++ [left[r.toNat]], hi', (pop_perm hy).trans hp, by rw [List.length_eraseIdx, if_pos hlt]; omega, by rw [List.length_append, ho]; rfl, rfl, ?_⟩
      rw [map_eraseIdx, iD_app]
      rfl
  · rintro e s ⟨e1, a, m, c, left, ord, hi, hp, hl, ho, rfl, rfl⟩
    have : left = [] := List.length_eq_zero_iff.mp (by omega)
    subst this
    walk_at "go"
    exact q ord _ _ _ hi hp _
def num (b : Int) : Int → List Int → Int
  | n, [] => n
  | n, f :: fs => num b (n * b + f) fs
theorem num_app (b : Int) : ∀ (fs gs : List Int) (n : Int), num b n (fs ++ gs) = num b (num b n fs) gs
  | [], _, _ => rfl
  | f :: fs, gs, n => num_app b fs gs _
theorem num_bnd {b : Int} (hb : 2 ≤ b) : ∀ (fs : List Int) (n : Int) (j : Nat), Ran b fs → 0 ≤ n → n < b ^ j → 0 ≤ num b n fs ∧ num b n fs < b ^ (j + fs.length)
  | [], n, j, _, h0, h1 => ⟨h0, h1⟩
  | f :: fs, n, j, hf, h0, h1 => by
    obtain ⟨f0, f1⟩ := hf f (by simp)
    have h2 : 0 ≤ n * b := Int.mul_nonneg h0 (by omega)
    have h3 : n * b + f < b ^ (j + 1) := by
      have : (n + 1) * b ≤ b ^ j * b := Int.mul_le_mul_of_nonneg_right (by omega) (by omega)
      rw [Int.pow_succ]
      rw [Int.add_mul] at this
      omega
    have := num_bnd hb fs (n * b + f) (j + 1) (fun x hx => hf x (by simp [hx])) (by omega) h3
    rw [List.length_cons, num]
    rw [show j + (fs.length + 1) = j + 1 + fs.length by omega]
    exact this
theorem lows_num {b : Int} (hb : 2 ≤ b) : ∀ (rs : List Int), Ran b rs → lows b rs.length (num b 0 rs.reverse) = rs
  | [], _ => rfl
  | f :: rs, h => by
    obtain ⟨f0, f1⟩ := h f (by simp)
    rw [List.reverse_cons, num_app, List.length_cons, lows, num, num]
    have e1 : (num b 0 rs.reverse * b + f) % b = f := by rw [Int.add_comm, Int.add_mul_emod_self_right]; exact Int.emod_eq_of_lt f0 f1
    have e2 : (num b 0 rs.reverse * b + f) / b = num b 0 rs.reverse := by rw [Int.add_comm, Int.add_mul_ediv_right _ _ (by omega), Int.ediv_eq_zero_of_lt f0 f1, Int.zero_add]
    rw [e1, e2, lows_num hb rs fun x hx => h x (by simp [hx])]
theorem figs_num {b : Int} (hb : 2 ≤ b) {fs : List Int} (h : Ran b fs) : figs b fs.length (num b 0 fs) = fs := by
  have := lows_num hb fs.reverse (fun x hx => h x (List.mem_reverse.mp hx))
  rw [List.reverse_reverse, List.length_reverse] at this
  rw [figs, this, List.reverse_reverse]
theorem sm_pow {b x : Int} {j : Nat} (b1 : 2 ≤ b) (b2 : b ≤ 4) (h0 : 0 ≤ x) (h1 : x < b ^ j) (hj : j ≤ 1000) : Sm x := by
  have h2 : b ^ j ≤ 4 ^ j := by
    obtain ⟨B, rfl⟩ : ∃ B : Nat, b = B := ⟨b.toNat, by omega⟩
    have := Nat.pow_le_pow_left (show B ≤ 4 by omega) j
    exact_mod_cast this
  have h3 : (4 : Nat) ^ j ≤ 2 ^ 2000 := by rw [show (4 : Nat) = 2 ^ 2 from rfl, ← Nat.pow_mul]; exact Nat.pow_le_pow_right (by decide) (by omega)
  have h4 : ((4 : Nat) ^ j : Int) = (4 : Int) ^ j := rfl
  refine .of 2000 ?_
  generalize (2 : Nat) ^ 2000 = P at *
  have h5 : (4 : Int) ^ j ≤ P := by rw [← h4]; exact_mod_cast h3
  omega
theorem go_number {b : Int} (b1 : 2 ≤ b) (b2 : b ≤ 4) {k : Kont} : ∀ (fs : List Int) (n : Int) (j : Nat) (e0 e3 : Option T), Ran b fs → 0 ≤ n → n < b ^ j → j + fs.length ≤ 1000 →
    (∀ e0 e3, k.nx [e0, some (.d (.int b)), some (.d (.int (num b n fs))), e3] []) → forL (gName 3) l_number_l_1 (fun _ => True) (dT (iD fs)) [e0, some (.d (.int b)), some (.d (.int n)), e3] [] k
  | [], n, j, _, _, _, _, _, _, q => ⟨True.intro, q _ _⟩
  | f :: fs, n, j, e0, e3, hf, h0, h1, hj, q => by
    have sm : Sm n ∧ Sm b := ⟨sm_pow b1 b2 h0 h1 (by omega), .of 3 (by omega)⟩
    have nb := num_bnd b1 [f] n j (fun x hx => hf x (by simp at hx; simp [hx])) h0 h1
    have ih := go_number b1 b2 (k := k) fs (n * b + f) (j + 1) none none (fun x hx => hf x (by simp [hx])) nb.1 nb.2 (by rw [List.length_cons] at hj; omega) q
    refine ⟨True.intro, ?_⟩
    clear nb
    walk_at "go"
theorem r_number {fs : List Int} {b : Int} {Q : QT} {Z : ZT} (b1 : 2 ≤ b) (b2 : b ≤ 4) (hf : Ran b fs) (hl : fs.length ≤ 1000) (q : ∀ s, Q (.d (.int (num b 0 fs))) s) : f_number_l.run [.d (.lst (iD fs)), .d (.int b)] [] Q Z := by
  rw [f_number_l_eq]
  walk_at "go"
  refine go_number b1 b2 fs 0 0 _ _ hf (by decide) (by rw [Int.pow_zero]; decide) (by omega) fun e0 e3 => ?_
  walk_at "go"
  exact q _
theorem r_led {B : Bk} (ok : B.Ok) (is js : List Int) (hl : is.length = js.length) (h1 : Ran B.b is) (h2 : Ran B.b js) {l : Int} (l0 : 0 ≤ l) (l1 : l < B.sh.length) (hz : is.length ≤ 1000) {Q : QT} {Z : ZT} (q : ∀ s, Q (.d (.int (ledB B l is js))) s) :
    f_led_l.run [.d B.d, .d (.int l), .d (.lst (iD is)), .d (.lst (iD js))] [] Q Z := by
  rw [f_led_l_eq]
  have hz2 : (1000 : Nat) ≤ sizeLine := by decide
  have hz3 := len_rng (n := (iD is).length) (by rw [iD_len]; omega)
  walk_at "go"
  rw [Int.toNat_natCast, iD_len]
  refine forL_rng (fun j e s => ∃ (m : Int) (e4 : Option T), 0 ≤ m ∧ m < (B.sh.length : Int) ∧ ledB B m (is.drop j) (js.drop j) = ledB B l is js ∧ e = [some (.d B.d), some (.d (.int m)), some (.d (.lst (iD is))), some (.d (.lst (iD js))), e4] ∧ s = [])
    ⟨l, _, l0, l1, rfl, rfl, rfl⟩ (fun _ _ _ _ => True.intro) ?_ ?_
  · rintro j e s hj ⟨m, e4, m0, m1, hm, rfl, rfl⟩
    have hj2 : j < js.length := by omega
    rw [List.drop_eq_getElem_cons hj, List.drop_eq_getElem_cons hj2, ledB] at hm
    obtain ⟨i0, i1⟩ := h1 is[j] (List.getElem_mem hj)
    obtain ⟨j0, j1⟩ := h2 js[j] (List.getElem_mem hj2)
    have a1 : atD (iD is) (0 + (j : Int)) = some (.int is[j]) := by
      obtain ⟨v, g1, _, g3⟩ := atD_get (xs := is) (i := 0 + (j : Int)) (by omega) (by omega)
      have e : (0 + (j : Int)).toNat = j := by omega
      rw [e, List.getElem?_eq_getElem hj] at g3
      cases g3
      rw [atD_map, g1]; rfl
    have a2 : atD (iD js) (0 + (j : Int)) = some (.int js[j]) := by
      obtain ⟨v, g1, _, g3⟩ := atD_get (xs := js) (i := 0 + (j : Int)) (by omega) (by omega)
      have e : (0 + (j : Int)).toNat = j := by omega
      rw [e, List.getElem?_eq_getElem hj2] at g3
      cases g3
      rw [atD_map, g1]; rfl
    generalize is[j] = i at *
    generalize js[j] = j' at *
    obtain ⟨kk, r, m', b1, b2, b3, m0', m1', e⟩ := ok.step m0 m1 i0 i1 j0 j1
    rw [e] at hm
    walk_at "go"
    exact ⟨m', none, m0', m1', hm, rfl, rfl⟩
  · rintro e s ⟨m, e4, m0, m1, hm, rfl, rfl⟩
    rw [List.drop_of_length_le (Nat.le_refl _), ledB] at hm
    · subst hm
      walk_at "go"
      exact q _
    · simp
end Sy

set_option Elab.async false
set_option linter.all false
set_option maxRecDepth 2000
namespace Sy
open PySem PySem.Spec
local macro_rules | `(tactic| walk_at "hn") => `(tactic| conv => whnf)
local macro_rules | `(tactic| walk_at "side") => `(tactic| first | exact True.intro | assumption | exact ⟨rfl, rfl⟩ | omega | exact len_lit rfl | exact pow_lit rfl | exact pos_lit rfl | exact div_lit rfl | exact ⟨.of 100 (by omega), .of 100 (by omega)⟩ | fail)
local macro_rules | `(tactic| walk_at "cl") => `(tactic| first | rfl | assumption | exact bnt (by first | assumption | fail) | exact bnf (by first | assumption | fail) | fail)
local macro_rules | `(tactic| walk_at "br") => `(tactic| first
  | (refine br_t (by walk_at "cl") ?_)
  | (refine br_f (by walk_at "cl") ?_)
  | (refine br_2 (fun _ => ?_) (fun _ => ?_))
  | (refine ex_at (by first | rfl | assumption | fail) ?_)
  | (refine And.intro (by walk_at "side") ?_)
  | fail)
local macro_rules | `(tactic| walk_at "go") => `(tactic| ((repeat' (first | assumption | walk_at "br" | (walk_at "hn"; first | assumption | walk_at "br" | fail) | fail)) <;> walk_at "hn"))
local macro_rules | `(tactic| walk_at "dec") => `(tactic| (simp only [decide_eq_true_eq, decide_eq_false_iff_not, Bool.not_eq_true', Bool.not_eq_false'] at *))
theorem cmpD_ink {mm : Tg} {C A : Ex} {vs : List Nat} {gd : Sto → Prop} {env : En} {s : Sto} {Q : List D → Sto → Prop} {lo : Int} {cnt n w : Nat} {a m c : Int} (P : Int → Prop) (hl : cnt ≤ sizeLine) (hg : ∀ s, gd s) (h : Ink n a m c)
    (turn : ∀ (j : Nat) (a m c : Int), j < cnt → Ink (n + j * w) a m c → kilK vs env fun e0 => mm.run (.d (.int (lo + j))) e0 (ink a m c :: s) fun e s0 => C.run e s0 (fun b s1 => isB s1 (fun b s1 => (b = true → A.run e s1 (fun v s2 => isD (fun d => ∃ (i a m c : Int), d = .int i ∧ P i ∧ Ink (n + (j + 1) * w) a m c ∧ s2 = ink a m c :: s) v) noZ) ∧ (b = false → False)) b) noZ)
    (fin : ∀ (is : List Int) (a m c : Int), is.length = cnt → (∀ i, i ∈ is → P i) → Ink (n + cnt * w) a m c → Q (iD is) (ink a m c :: s)) : cmpD mm C A vs gd (rgT lo cnt) env (ink a m c :: s) [] Q := by
  refine cmpD_inv (fun j ds s' => ∃ (is : List Int) (a m c : Int), ds = iD is ∧ is.length = j ∧ (∀ i, i ∈ is → P i) ∧ Ink (n + j * w) a m c ∧ s' = ink a m c :: s) (by rw [rgT_len]; exact hl) ⟨[], a, m, c, rfl, rfl, by simp, by simpa using h, rfl⟩ (fun _ _ _ _ => hg _) ?_ ?_
  · rintro j x ds s' hx _ ⟨is, a, m, c, rfl, h1, h2, h3, rfl⟩
    obtain ⟨hj, rfl⟩ := rgT_at hx
    refine kilK_mono (fun _ g1 => mm.mono (fun _ _ g2 => C.mono (fun _ _ g3 => isB_mono (fun _ _ g4 => ⟨fun z => A.mono (fun _ _ g5 => isD_mono (fun d g6 => ?_) g5) (fun _ _ _ q => q) (g4.1 z), fun z => (g4.2 z).elim⟩) g3) (fun _ _ _ q => q) g2) g1) (turn j a m c hj h3)
    obtain ⟨i, a, m, c, rfl, p, h4, rfl⟩ := g6
    refine ⟨is ++ [i], a, m, c, by rw [iD_app]; rfl, by rw [List.length_append, h1]; rfl, fun y hy => ?_, h4, rfl⟩
    rw [List.mem_append, List.mem_singleton] at hy
    rcases hy with hy | rfl
    · exact h2 y hy
    · exact p
  · rintro ds s' ⟨is, a, m, c, rfl, h1, h2, h3, rfl⟩
    rw [rgT_len] at h1 h3
    exact fin is a m c h1 h2 h3
theorem ixN_at {r : Int} {n : Nat} (h0 : 0 ≤ r) (h1 : r < n) : L2.ixN n r = some r.toNat := by
  unfold L2.ixN
  split <;> simp_all <;> omega
theorem iD_set (xs : List Int) (i : Nat) (v : Int) : (iD xs).set i (.int v) = iD (xs.set i v) := List.map_set.symm
theorem ran_set {b : Int} {xs : List Int} {i : Nat} {v : Int} (h : Ran b xs) (h0 : 0 ≤ v) (h1 : v < b) : Ran b (xs.set i v) := fun x hx => by
  rcases List.mem_or_eq_of_mem_set hx with h2 | rfl
  · exact h x h2
  · exact ⟨h0, h1⟩
theorem flat_rep (r : D) : ∀ n : Nat, (List.replicate n [r]).flatten = List.replicate n r
  | 0 => rfl
  | n + 1 => by rw [List.replicate_succ, List.flatten_cons, flat_rep r n]; rfl
theorem iD_rep (r : Int) (n : Nat) : List.replicate n (D.int r) = iD (List.replicate n r) := List.map_replicate.symm
theorem r_depth {n : Nat} {a m c : Int} {Q : QT} {Z : ZT} (h : Ink n a m c) (hn : n ≤ 100000000)
    (q : ∀ (d : Nat) a m c, d ≤ 90 → Ink (n + 2) a m c → ∀ s, Q (.d (.int (d : Int))) (ink a m c :: s)) : f_depth_l.run [.loc 0] [ink a m c] Q Z := by
  rw [f_depth_l_eq]
  walk_at "go"
  refine r_drip h (by omega) (by decide) (by decide) fun r a m c r0 r1 h => ?_
  walk_at "go"
  · refine r_drip h (by omega) (by decide) (by decide) fun r a m c r0 r1 h => ?_
    obtain ⟨v, h1, h2, _⟩ := atD_get (xs := [(0 : Int), 1, 2, 3, 17, 88, 89, 90]) r0 r1
    have h3 : atD [D.int 0, D.int 1, D.int 2, D.int 3, D.int 17, D.int 88, D.int 89, D.int 90] r = some (.int v) := by
      have := atD_map D.int [(0 : Int), 1, 2, 3, 17, 88, 89, 90] r
      rw [h1] at this
      exact this
    have h4 : 0 ≤ v ∧ v ≤ 90 := by
      simp only [List.mem_cons, List.mem_nil_iff, or_false] at h2
      omega
    obtain ⟨d, rfl⟩ : ∃ d : Nat, v = d := ⟨v.toNat, by omega⟩
    walk_at "go"
    exact q d a m c (by omega) h _
  · refine r_drip h (by omega) (by decide) (by decide) fun r a m c r0 r1 h => ?_
    obtain ⟨d, rfl⟩ : ∃ d : Nat, r = d := ⟨r.toNat, by omega⟩
    walk_at "go"
    exact q d a m c (by omega) h _
theorem r_line {n : Nat} {a m c b : Int} {d : Nat} {Q : QT} {Z : ZT} (h : Ink n a m c) (hn : n ≤ 100000000) (b1 : 2 ≤ b) (b2 : b ≤ 4) (hd : d ≤ 90)
    (q : ∀ fs a m c, (fs : List Int).length = d → Ran b fs → Ink (n + 100) a m c → ∀ s, Q (.d (.lst (iD fs))) (ink a m c :: s)) : f_line_l.run [.loc 0, .d (.int b), .d (.int (d : Int))] [ink a m c] Q Z := by
  rw [f_line_l_eq]
  have hz : (1000 : Nat) ≤ sizeLine := by decide
  have hz2 := len_rng (n := d) (by omega)
  walk_at "go"
  refine r_drip h (by omega) (by decide) (by decide) fun r a m c r0 r1 h => ?_
  walk_at "go"
  · rw [Int.toNat_natCast]
    refine cmpD_ink (n := n + 1) (w := 1) (fun i => 0 ≤ i ∧ i < b) (by omega) (fun _ => True.intro) h (fun j a m c hj h => ?_) (fun is a m c h1 h2 h3 => ?_)
    · walk_at "go"
      refine r_drip h (by omega) (by omega) (by omega) fun r a m c r0 r1 h => ?_
      walk_at "go"
      exact ⟨r, a, m, c, rfl, ⟨r0, r1⟩, h.mono (by omega), rfl⟩
    · walk_at "go"
      exact q is a m c h1 h2 (h3.mono (by omega)) _
  · refine r_drip h (by omega) (by omega) (by omega) fun r a m c r0 r1 h => ?_
    have hz3 : (-2 ^ 63 ≤ (d : Int) ∧ (d : Int) < 2 ^ 63 ∧ [D.int r].length * (d : Int).toNat ≤ sizeLine) := ⟨by omega, by omega, by rw [Int.toNat_natCast]; simp; omega⟩
    have e : (List.replicate (d : Int).toNat [D.int r]).flatten = iD (List.replicate d r) := by rw [Int.toNat_natCast, flat_rep, iD_rep]
    have hr : Ran b (List.replicate d r) := fun x hx => by obtain ⟨_, rfl⟩ := List.mem_replicate.mp hx; exact ⟨r0, r1⟩
    walk_at "go"
    · rename_i hw hd0
      have hd0 : 0 < (d : Int) := of_decide_eq_true hd0
      rw [e]
      refine r_drip h (by omega) (by omega) (by omega) fun r2 a m c r20 r21 h => ?_
      walk_at "go"
      refine r_drip h (by omega) (by omega) (by omega) fun r3 a m c r30 r31 h => ?_
      have hi := ixN_at (n := (iD (List.replicate d r)).length) r30 (by rw [iD_len, List.length_replicate]; omega)
      walk_at "go"
      rw [iD_set]
      exact q _ a m c (by simp) (ran_set hr r20 r21) (h.mono (by omega)) _
    · rw [e]
      exact q _ a m c (by simp) hr (h.mono (by omega)) _
    · rw [e]
      exact q _ a m c (by simp) hr (h.mono (by omega)) _
end Sy

set_option Elab.async false
set_option linter.all false
set_option maxRecDepth 2000
set_option maxHeartbeats 4000000
namespace Sy
open PySem PySem.Spec
local macro_rules | `(tactic| walk_at "hn") => `(tactic| conv => whnf)
local macro_rules | `(tactic| walk_at "side") => `(tactic| first | exact True.intro | assumption | exact ⟨rfl, rfl⟩ | omega | exact len_lit rfl | exact pow_lit rfl | exact pos_lit rfl | exact div_lit rfl | exact ⟨.of 100 (by omega), .of 100 (by omega)⟩ | fail)
local macro_rules | `(tactic| walk_at "cl") => `(tactic| first | rfl | assumption | exact bnt (by first | assumption | fail) | exact bnf (by first | assumption | fail) | fail)
local macro_rules | `(tactic| walk_at "br") => `(tactic| first
  | (refine br_t (by walk_at "cl") ?_)
  | (refine br_f (by walk_at "cl") ?_)
  | (refine br_2 (fun _ => ?_) (fun _ => ?_))
  | (refine ex_at (by first | rfl | assumption | fail) ?_)
  | (refine And.intro (by walk_at "side") ?_)
  | fail)
local macro_rules | `(tactic| walk_at "go") => `(tactic| ((repeat' (first | assumption | walk_at "br" | (walk_at "hn"; first | assumption | walk_at "br" | fail) | fail)) <;> walk_at "hn"))
local macro_rules | `(tactic| walk_at "dec") => `(tactic| (simp only [decide_eq_true_eq, decide_eq_false_iff_not, Bool.not_eq_true', Bool.not_eq_false'] at *))
theorem at2 {x y r : Int} (r0 : 0 ≤ r) (r1 : r < 2) : ∃ v, atD [D.int x, D.int y] r = some (.int v) ∧ (v = x ∨ v = y) := by
  have : r = 0 ∨ r = 1 := by omega
  rcases this with rfl | rfl
  · exact ⟨x, rfl, .inl rfl⟩
  · exact ⟨y, rfl, .inr rfl⟩
theorem r_shades {n : Nat} {a m c : Int} {k : Nat} {Q : QT} {Z : ZT} (h : Ink n a m c) (hn : n ≤ 100000000) (k1 : 1 ≤ k) (k2 : k ≤ 64)
    (q : ∀ fs a m c, (fs : List Int).length = k → Ran 4 fs → Ink (n + 100) a m c → ∀ s, Q (.d (.tup (iD fs))) (ink a m c :: s)) : f_shades_l.run [.loc 0, .d (.int (k : Int))] [ink a m c] Q Z := by
  rw [f_shades_l_eq]
  have hz : (1000 : Nat) ≤ sizeLine := by decide
  have hz2 := len_rng (n := k) (by omega)
  walk_at "go"
  refine r_drip h (by omega) (by decide) (by decide) fun w a m c w0 w1 h => ?_
  walk_at "go"
  refine r_drip h (by omega) (by decide) (by decide) fun r a m c r0 r1 h => ?_
  walk_at "go"
  refine r_drip h (by omega) (by decide) (by decide) fun r2 a m c r20 r21 h => ?_
  have hz3 : (-2 ^ 63 ≤ (k : Int) ∧ (k : Int) < 2 ^ 63 ∧ [D.int r].length * (k : Int).toNat ≤ sizeLine) := ⟨by omega, by omega, by rw [Int.toNat_natCast]; simp; omega⟩
  have e : (List.replicate (k : Int).toNat [D.int r]).flatten = iD (List.replicate k r) := by rw [Int.toNat_natCast, flat_rep, iD_rep]
  have hr : Ran 4 (List.replicate k r) := fun x hx => by obtain ⟨_, rfl⟩ := List.mem_replicate.mp hx; exact ⟨r0, r1⟩
  have cs : w = 0 ∨ w = 1 ∨ w = 2 ∨ w = 3 := by omega
  rcases cs with rfl | rfl | rfl | rfl
  · walk_at "go"
    rw [Int.toNat_natCast]
    refine cmpD_ink (n := n + 1 + 1 + 1) (w := 1) (fun i => 0 ≤ i ∧ i < 4) (by omega) (fun _ => True.intro) h (fun j a m c hj h => ?_) (fun is a m c h1 h2 h3 => ?_)
    · walk_at "go"
      refine r_drip h (by omega) (by omega) (by omega) fun r a m c r0 r1 h => ?_
      walk_at "go"
      exact ⟨r, a, m, c, rfl, ⟨r0, r1⟩, h.mono (by omega), rfl⟩
    · walk_at "go"
      exact q is a m c h1 h2 (h3.mono (by omega)) _
  · walk_at "go"
    rw [Int.toNat_natCast]
    refine cmpD_ink (n := n + 1 + 1 + 1) (w := 1) (fun i => 0 ≤ i ∧ i < 4) (by omega) (fun _ => True.intro) h (fun j a m c hj h => ?_) (fun is a m c h1 h2 h3 => ?_)
    · walk_at "go"
      refine r_drip h (by omega) (by omega) (by omega) fun r3 a m c r30 r31 h => ?_
      obtain ⟨v, hv, hc⟩ := at2 (x := r) (y := r2) r30 r31
      walk_at "go"
      exact ⟨v, a, m, c, rfl, by omega, h.mono (by omega), rfl⟩
    · walk_at "go"
      exact q is a m c h1 h2 (h3.mono (by omega)) _
  · walk_at "go"
    rw [e]
    refine r_drip h (by omega) (by omega) (by omega) fun r3 a m c r30 r31 h => ?_
    have hi := ixN_at (n := (iD (List.replicate k r)).length) r30 (by rw [iD_len, List.length_replicate]; omega)
    walk_at "go"
    rw [iD_set]
    exact q _ a m c (by simp) (ran_set hr r20 r21) (h.mono (by omega)) _
  · walk_at "go"
    rw [e]
    have hi := ixN_at (r := (k : Int) - 1) (n := (iD (List.replicate k r)).length) (by omega) (by rw [iD_len, List.length_replicate]; omega)
    walk_at "go"
    rw [iD_set]
    exact q _ a m c (by simp) (ran_set hr r20 r21) (h.mono (by omega)) _
theorem cutD_at {α : Type} {xs : List α} {i j : Int} (h0 : 0 ≤ i) (h1 : i ≤ j) (h2 : j ≤ xs.length) : cutD xs (some i) (some j) = (xs.drop i.toNat).take (j - i).toNat := by
  unfold cutD HT.sIx
  have e1 : ¬ i < 0 := by omega
  have e2 : ¬ j < 0 := by omega
  simp only [e1, e2, if_false]
  rw [Nat.min_eq_left (by omega), Nat.min_eq_left (by omega)]
  congr 1
  omega
theorem go_cut {k b : Int} (b1 : 2 ≤ b) (b2 : b ≤ 4) {gs : List Int} (hl : (gs.length : Int) = b * b) (hg : Ran k gs) {a m c : Int} {e0 e1 e2 e3 e5 e7 e8 e9 : Option T} {Q : List D → Sto → Prop}
    (q : ∀ B, BlkOk k b B → Q (B.map rowD) [ink a m c, .lst (iD gs)]) : cmpD (gName 9) (eD (D.bl true))
    (eCallB bTuple (aCons (eCut (eVar 6) (oSome (eBin oMul (eVar 4) (eVar 9))) (oSome (eAdd (eBin oMul (eVar 4) (eVar 9)) (eVar 4)))) aNil))
    [9] (fun _ => True) (rgT 0 b.toNat) [e0, e1, e2, e3, some (.d (.int b)), e5, some (.loc 1), e7, e8, e9] [ink a m c, .lst (iD gs)] [] Q := by
  have hz : (1000 : Nat) ≤ sizeLine := by decide
  have mb : ∀ j : Nat, j < b.toNat → 0 ≤ b * (0 + (j : Int)) ∧ b * (0 + (j : Int)) + b ≤ b * b := fun j hj => by
    have : b = 2 ∨ b = 3 ∨ b = 4 := by omega
    rcases this with rfl | rfl | rfl <;> omega
  refine cmpD_rng (fun j => rowD ((gs.drop (b * (0 + (j : Int))).toNat).take b.toNat)) (by omega) True.intro (fun j hj => ?_) ?_
  · obtain ⟨m0, m1⟩ := mb j hj
    have s1 : Sm b ∧ Sm (0 + (j : Int)) := ⟨.of 10 (by omega), .of 10 (by omega)⟩
    have hc : cutD (iD gs) (some (b * (0 + (j : Int)))) (some (b * (0 + (j : Int)) + b)) = iD ((gs.drop (b * (0 + (j : Int))).toNat).take b.toNat) := by
      rw [cutD_at m0 (by omega) (by rw [iD_len]; omega), show b * (0 + (j : Int)) + b - b * (0 + (j : Int)) = b by omega]
      rw [iD, iD, ← List.map_drop, ← List.map_take]
    walk_at "go"
    exact ⟨by show D.tup _ = D.tup _; rw [hc], rfl⟩
  · have e : (List.range b.toNat).map (fun j : Nat => rowD ((gs.drop (b * (0 + (j : Int))).toNat).take b.toNat)) = ((List.range b.toNat).map fun j : Nat => (gs.drop (b * (0 + (j : Int))).toNat).take b.toNat).map rowD := by rw [List.map_map]; rfl
    rw [e]
    refine q _ ⟨by rw [List.length_map, List.length_range]; omega, fun r hr => ?_⟩
    obtain ⟨j, hj, rfl⟩ := List.mem_map.mp hr
    obtain ⟨m0, m1⟩ := mb j (List.mem_range.mp hj)
    exact ⟨by rw [List.length_take, List.length_drop]; omega, fun x hx => hg x (List.mem_of_mem_drop (List.mem_of_mem_take hx))⟩
theorem r_block {n : Nat} {a m c w l k b : Int} {Q : QT} {Z : ZT} (h : Ink n a m c) (hn : n ≤ 100000000) (l0 : 0 ≤ l) (l1 : l < k) (k2 : k ≤ 64) (w0 : 0 ≤ w) (w1 : w < 5) (b1 : 2 ≤ b) (b2 : b ≤ 4)
    (q : ∀ B a m c, BlkOk k b B → Ink (n + 100) a m c → ∀ s, Q (.d (blkD B)) (ink a m c :: s)) : f_block_l.run [.loc 0, .d (.int w), .d (.int l), .d (.int k), .d (.int b)] [ink a m c] Q Z := by
  rw [f_block_l_eq]
  have hz : (1000 : Nat) ≤ sizeLine := by decide
  obtain ⟨N, hN⟩ : ∃ N : Nat, b * b = N := ⟨(b * b).toNat, by have := Int.mul_nonneg (by omega : 0 ≤ b) (by omega : 0 ≤ b); omega⟩
  have hb : b * b = 4 ∨ b * b = 9 ∨ b * b = 16 := by
    have : b = 2 ∨ b = 3 ∨ b = 4 := by omega
    rcases this with rfl | rfl | rfl <;> simp
  have hz2 := len_rng (n := N) (by omega)
  have hz3 : -2 ^ 62 ≤ b * b ∧ b * b < 2 ^ 62 := by omega
  walk_at "go"
  refine r_drip h (by omega) (by omega) (by omega) fun near a m c n0 n1 h => ?_
  walk_at "go"
  refine forL_rng (fun j e s => ∃ (gs : List Int) (a m c : Int) (e7 : Option T), Ink (n + 1 + j) a m c ∧ gs.length = j ∧ Ran k gs ∧
    e = [some (.loc 0), some (.d (.int w)), some (.d (.int l)), some (.d (.int k)), some (.d (.int b)), some (.d (.int near)), some (.loc 1), e7, none, none] ∧ s = [ink a m c, .lst (iD gs)])
    ⟨[], a, m, c, _, h, rfl, fun x hx => by simp at hx, rfl, rfl⟩ (fun _ _ _ _ => True.intro) ?_ ?_
  · rintro j e s hj ⟨gs, a, m, c, e7, hi, hl, hg, rfl, rfl⟩
    have hlen : (iD gs).length < sizeLine := by rw [iD_len]; omega
    have add : ∀ v : Int, 0 ≤ v → v < k → Ran k (gs ++ [v]) := fun v v0 v1 x hx => by
      rw [List.mem_append, List.mem_singleton] at hx
      rcases hx with hx | rfl
      · exact hg x hx
      · exact ⟨v0, v1⟩
    have ln : ∀ v : Int, (gs ++ [v]).length = j + 1 := fun v => by rw [List.length_append, hl]; rfl
    have cs : w = 0 ∨ w = 1 ∨ w = 2 ∨ w = 3 ∨ w = 4 := by omega
    rcases cs with rfl | rfl | rfl | rfl | rfl
    · walk_at "go"
      refine r_drip hi (by omega) (by omega) (by omega) fun r a m c r0 r1 h => ?_
      walk_at "go"
      exact ⟨gs ++ [r], a, m, c, none, h, ln r, add r r0 r1, rfl, by rw [iD_app]; rfl⟩
    · walk_at "go"
      refine r_drip hi (by omega) (by omega) (by omega) fun r a m c r0 r1 h => ?_
      walk_at "go"
      exact ⟨gs ++ [_], a, m, c, none, h, ln _, add (if l + r < k - 1 then l + r else k - 1) (by split <;> omega) (by split <;> omega), rfl, by rw [iD_app]; rfl⟩
    · have hk : 0 < k := by omega
      walk_at "go"
      exact ⟨gs ++ [_], a, m, c, none, hi.mono (by omega), ln _, add ((l + 1) % k) (Int.emod_nonneg _ (by omega)) (Int.emod_lt_of_pos _ hk), rfl, by rw [iD_app]; rfl⟩
    · walk_at "go"
      refine r_drip hi (by omega) (by omega) (by omega) fun r a m c r0 r1 h => ?_
      obtain ⟨v, hv, hc⟩ := at2 (x := near) (y := l) r0 r1
      walk_at "go"
      exact ⟨gs ++ [v], a, m, c, none, h, ln v, add v (by omega) (by omega), rfl, by rw [iD_app]; rfl⟩
    · walk_at "go"
      exact ⟨gs ++ [near], a, m, c, none, hi.mono (by omega), ln near, add near n0 n1, rfl, by rw [iD_app]; rfl⟩
  · rintro e s ⟨gs, a, m, c, e7, hi, hl, hg, rfl, rfl⟩
    have hl2 : (gs.length : Int) = b * b := by omega
    have fin : ∀ (B : List (List Int)) (a m c : Int) (s : Sto), BlkOk k b B → Ink (n + 100) a m c → Q (.d (.tup (B.map rowD))) (ink a m c :: s) := fun B a m c s h1 h2 => q B a m c h1 h2 s
    walk_at "go"
    · refine r_drip hi (by omega) (by omega) (by omega) fun r a m c r0 r1 h => ?_
      walk_at "go"
      · refine r_drip h (by omega) (by omega) (by omega) fun r a m c r0 r1 h => ?_
        have s1 : Sm b ∧ Sm b := ⟨.of 10 (by omega), .of 10 (by omega)⟩
        walk_at "go"
        refine r_drip h (by omega) (by omega) (by omega) fun r2 a m c r20 r21 h => ?_
        have hix := ixN_at (n := (iD gs).length) r20 (by rw [iD_len]; omega)
        walk_at "go"
        rw [iD_set]
        refine go_cut b1 b2 (by rw [List.length_set]; omega) (ran_set hg r0 r1) fun B hB => ?_
        walk_at "go"
        exact fin B a m c _ hB (h.mono (by omega))
      · refine go_cut b1 b2 hl2 hg fun B hB => ?_
        walk_at "go"
        exact fin B a m c _ hB (h.mono (by omega))
    · refine go_cut b1 b2 hl2 hg fun B hB => ?_
      walk_at "go"
      exact fin B a m c _ hB (hi.mono (by omega))
end Sy

set_option Elab.async false
set_option linter.all false
set_option maxRecDepth 2000
set_option maxHeartbeats 4000000
namespace Sy
open PySem PySem.Spec
local macro_rules | `(tactic| walk_at "hn") => `(tactic| conv => whnf)
local macro_rules | `(tactic| walk_at "side") => `(tactic| first | exact True.intro | assumption | exact ⟨rfl, rfl⟩ | omega | exact len_lit rfl | exact pow_lit rfl | exact pos_lit rfl | exact div_lit rfl | exact ⟨.of 100 (by omega), .of 100 (by omega)⟩ | fail)
local macro_rules | `(tactic| walk_at "cl") => `(tactic| first | rfl | assumption | exact bnt (by first | assumption | fail) | exact bnf (by first | assumption | fail) | fail)
local macro_rules | `(tactic| walk_at "br") => `(tactic| first
  | (refine br_t (by walk_at "cl") ?_)
  | (refine br_f (by walk_at "cl") ?_)
  | (refine br_2 (fun _ => ?_) (fun _ => ?_))
  | (refine ex_at (by first | rfl | assumption | fail) ?_)
  | (refine And.intro (by walk_at "side") ?_)
  | fail)
local macro_rules | `(tactic| walk_at "go") => `(tactic| ((repeat' (first | assumption | walk_at "br" | (walk_at "hn"; first | assumption | walk_at "br" | fail) | fail)) <;> walk_at "hn"))
local macro_rules | `(tactic| walk_at "dec") => `(tactic| (simp only [decide_eq_true_eq, decide_eq_false_iff_not, Bool.not_eq_true', Bool.not_eq_false'] at *))
theorem canLay_ints : ∀ ns : List Int, PyData.canLayAll0 (ns.map PyData.int) = true
  | [] => rfl
  | n :: ns => by
    show (true && PyData.canLayAll0 (ns.map PyData.int)) = true
    rw [canLay_ints ns]
    rfl
theorem depthAll_ints : ∀ ns : List Int, PyData.depthAll (ns.map PyData.int) ≤ 1
  | [] => by simp [PyData.depthAll]
  | n :: ns => by
    have ih := depthAll_ints ns
    simp only [List.map_cons, PyData.depthAll, PyData.depth]
    omega
theorem depth_ints (ns : List Int) : PyData.depth (.list (ns.map PyData.int)) ≤ 64 := by
  have h := depthAll_ints ns
  simp only [PyData.depth]
  omega
theorem shaped_ints (ns : List Int) : SeqAt.shaped (.list (ns.map PyData.int)) = true := by
  unfold SeqAt.shaped
  rw [show PyData.canLay0 (.list (ns.map PyData.int)) = true from canLay_ints ns, decide_eq_true (depth_ints ns)]
  rfl
theorem eqv_ints : ∀ ns ms : List Int, PyData.eqv (.list (ns.map PyData.int)) (.list (ms.map PyData.int)) = decide (ns = ms)
  | [], [] => rfl
  | [], _ :: _ => rfl
  | _ :: _, [] => rfl
  | n :: ns, m :: ms => by
    have ih : PyData.eqvAll (ns.map PyData.int) (ms.map PyData.int) = decide (ns = ms) := eqv_ints ns ms
    show ((n == m) && PyData.eqvAll (ns.map PyData.int) (ms.map PyData.int)) = _
    rw [ih]
    by_cases h : n = m
    · subst h; simp
    · simp [h]
theorem iD_pyl (xs : List Int) : D.pyl (iD xs) = xs.map PyData.int := by
  rw [D.pyl_map, List.map_map]
  refine List.map_congr_left fun x _ => ?_
  simp [Function.comp, D.py]
theorem shp_iD (xs : List Int) : D.shp (.lst (iD xs)) := by
  unfold D.shp
  have := shaped_ints xs
  rw [← iD_pyl] at this
  simpa [D.py] using this
theorem first_iD {x : Int} : ∀ {xs : List Int}, x ∈ xs → ((iD xs).any fun z => PyData.eqv z.py (D.int x).py) = true ∧ firstD (.int x) (iD xs) < xs.length
  | [], h => by simp at h
  | y :: xs, h => by
    have ev : PyData.eqv (D.int y).py (D.int x).py = (y == x) := by simp [D.py]; rfl
    by_cases e : y = x
    · subst e
      refine ⟨?_, ?_⟩
      · show (PyData.eqv (D.int y).py (D.int y).py || _) = true
        rw [ev]; simp
      · show (List.findIdx _ (D.int y :: iD xs)) < _
        rw [List.findIdx_cons, ev]; simp
    · have h2 : x ∈ xs := by
        rcases List.mem_cons.mp h with h | h
        · exact absurd h.symm e
        · exact h
      obtain ⟨a, b⟩ := first_iD h2
      have ne : (y == x) = false := by simp [e]
      refine ⟨?_, ?_⟩
      · show (PyData.eqv (D.int y).py (D.int x).py || (iD xs).any _) = true
        rw [a]; simp
      · show (List.findIdx _ (D.int y :: iD xs)) < _
        rw [List.findIdx_cons, ev, ne]
        have b : List.findIdx (fun z => PyData.eqv z.py (D.int x).py) (iD xs) < xs.length := b
        simp only [cond_false, List.length_cons]
        omega
def pmI (ps : List Int) : D → D
  | .int l => .int (ps.getD l.toNat 0)
  | x => x
def pmR (ps : List Int) : D → D
  | .tup ys => .tup (ys.map (pmI ps))
  | x => x
def pmB (ps : List Int) (k : List (List Int)) : List (List Int) := k.map fun r => r.map fun l => ps.getD l.toNat 0
theorem pmR_row (ps r : List Int) : pmR ps (rowD r) = rowD (r.map fun l => ps.getD l.toNat 0) := by
  show D.tup ((iD r).map (pmI ps)) = D.tup (iD (r.map fun l => ps.getD l.toNat 0))
  rw [iD, iD, List.map_map, List.map_map]; rfl
theorem pmR_blk (ps : List Int) (k : List (List Int)) : (k.map rowD).map (pmR ps) = (pmB ps k).map rowD := by
  rw [pmB, List.map_map, List.map_map]
  exact List.map_congr_left fun r _ => pmR_row ps r
theorem r_renamed {B : Bk} {ps : List Int} {Q : QT} {Z : ZT} (ok : B.Ok) (hp : ps.Perm (upTo B.sh.length))
    (q : ∀ B' : Bk, B'.Ok → B'.b = B.b → B'.sh.length = B.sh.length → ∀ s, Q (.d B'.d) s) : f_renamed_l.run [.d B.d, .d (.lst (iD ps))] [] Q Z := by
  rw [f_renamed_l_eq]
  have hz : (1000 : Nat) ≤ sizeLine := by decide
  have hl : ps.length = B.sh.length := by rw [hp.length_eq]; simp [upTo]
  have s64 := ok.s64
  have hz2 := len_rng (n := (iD ps).length) (by rw [iD_len]; omega)
  have hsh := shp_iD ps
  have mem : ∀ i : Nat, i < B.sh.length → (i : Int) ∈ ps := fun i hi => hp.mem_iff.mpr (List.mem_map.mpr ⟨i, List.mem_range.mpr hi, rfl⟩)
  have ran : ∀ x, x ∈ ps → 0 ≤ x ∧ x < B.sh.length := fun x hx => by
    obtain ⟨i, hi, rfl⟩ := List.mem_map.mp (hp.mem_iff.mp hx)
    have := List.mem_range.mp hi
    omega
  walk_at "go"
  rw [Int.toNat_natCast, iD_len]
  refine cmpD_rng (fun j => .int (firstD (.int (0 + (j : Int))) (iD ps) : Nat)) (by omega) True.intro (fun j hj => ?_) ?_
  · obtain ⟨f1, f2⟩ := first_iD (x := 0 + (j : Int)) (xs := ps) (by rw [Int.zero_add]; exact mem j (by omega))
    have hc : D.shp (.lst (iD ps)) ∧ D.shp (.int (0 + (j : Int))) ∧ ((iD ps).any fun z => PyData.eqv z.py (D.int (0 + (j : Int))).py) = true := ⟨hsh, shp_int, f1⟩
    walk_at "go"
    exact ⟨rfl, rfl⟩
  have e : ((List.range ps.length).map fun j : Nat => D.int (firstD (.int (0 + (j : Int))) (iD ps) : Nat)) = iD ((List.range ps.length).map fun j : Nat => ((firstD (.int (0 + (j : Int))) (iD ps) : Nat) : Int)) := by show _ = List.map D.int (List.map _ _); rw [List.map_map]; rfl
  rw [e]
  have hb : ∀ x, x ∈ ((List.range ps.length).map fun j : Nat => ((firstD (.int (0 + (j : Int))) (iD ps) : Nat) : Int)) → 0 ≤ x ∧ x < B.sh.length := fun x hx => by
    obtain ⟨j, hj, rfl⟩ := List.mem_map.mp hx
    have hj := List.mem_range.mp hj
    obtain ⟨_, f2⟩ := first_iD (x := 0 + (j : Int)) (xs := ps) (by rw [Int.zero_add]; exact mem j (by omega))
    omega
  have hbl : ((List.range ps.length).map fun j : Nat => ((firstD (.int (0 + (j : Int))) (iD ps) : Nat) : Int)).length = B.sh.length := by simp [hl]
  generalize ((List.range ps.length).map fun j : Nat => ((firstD (.int (0 + (j : Int))) (iD ps) : Nat) : Int)) = bk at hb hbl ⊢
  have blk_ok : ∀ k : List (List Int), BlkOk B.sh.length B.b k → BlkOk B.sh.length B.b (pmB ps k) := fun k hk => by
    refine ⟨by rw [pmB, List.length_map]; exact hk.len, fun r hr => ?_⟩
    obtain ⟨r0, hr0, rfl⟩ := List.mem_map.mp hr
    have rk := hk.at_ r0 hr0
    refine ⟨by rw [List.length_map]; exact rk.len, fun x hx => ?_⟩
    obtain ⟨y, hy, rfl⟩ := List.mem_map.mp hx
    obtain ⟨y0, y1⟩ := rk.at_ y hy
    obtain ⟨v, _, hv, g3⟩ := atD_get (xs := ps) y0 (by omega)
    rw [List.getD_eq_getElem?_getD, g3]
    exact ran v hv
  have b4 := ok.b4
  walk_at "go"
  refine forL_d (fun j e s => ∃ (made : List (List (List Int))) (e3 e5 : Option T), made.length = j ∧ (∀ k, k ∈ made → BlkOk B.sh.length B.b k) ∧
    e = [some (.d B.d), some (.d (.lst (iD ps))), some (.d (.lst (iD bk))), e3, some (.loc 0), e5, none, none] ∧ s = [.lst (made.map blkD)])
    ⟨[], _, _, rfl, by simp, rfl, rfl⟩ (fun _ _ _ _ => True.intro) ?_ ?_
  · rintro j d e s hd ⟨made, e3, e5, hm, hk, rfl, rfl⟩
    rw [List.getElem?_map] at hd
    obtain ⟨o, ho, rfl⟩ := Option.map_eq_some_iff.mp hd
    obtain ⟨o0, o1⟩ := hb o (List.mem_of_getElem? ho)
    have hj : j < bk.length := (List.getElem?_eq_some_iff.mp ho).1
    obtain ⟨k, h1, hkm, _⟩ := atD_get (xs := B.bl) o0 (by rw [ok.len]; exact o1)
    have a1 : atD (B.bl.map blkD) o = some (blkD k) := by rw [atD_map, h1]; rfl
    have kok := ok.bl k hkm
    walk_at "go"
    refine cmpD_dt (pmR ps) (by rw [List.length_map]; have := kok.len; omega) True.intro (fun d hd => ?_) ?_
    · obtain ⟨r, hr, rfl⟩ := List.mem_map.mp hd
      have rok := kok.at_ r hr
      walk_at "go"
      refine cmpD_dt (pmI ps) (by rw [iD_len]; have := rok.len; omega) True.intro (fun d hd => ?_) ?_
      · obtain ⟨l, hl2, rfl⟩ := List.mem_map.mp hd
        obtain ⟨y0, y1⟩ := rok.at_ l hl2
        obtain ⟨v, g1, _, g3⟩ := atD_get (xs := ps) y0 (by omega)
        have a2 : atD (iD ps) l = some (.int v) := by rw [atD_map, g1]; rfl
        walk_at "go"
        refine ⟨?_, rfl⟩
        show _ = D.int (ps.getD l.toNat 0)
        rw [List.getD_eq_getElem?_getD, g3]; rfl
      · walk_at "go"
        exact ⟨rfl, rfl⟩
    · rw [pmR_blk]
      have hlen : (made.map blkD).length < sizeLine := by rw [List.length_map]; omega
      walk_at "go"
      refine ⟨made ++ [pmB ps k], none, _, by rw [List.length_append, hm]; rfl, fun x hx => ?_, rfl, by rw [List.map_append]; rfl⟩
      rw [List.mem_append, List.mem_singleton] at hx
      rcases hx with hx | rfl
      · exact hk x hx
      · exact blk_ok k kok
  · rintro e s ⟨made, e3, e5, hm, hk, rfl, rfl⟩
    rw [iD_len] at hm
    walk_at "go"
    have hsm : ∀ x, x ∈ bk → ∃ v, atD (iD B.sh) x = some (.int v) ∧ v ∈ B.sh ∧ B.sh.getD x.toNat 0 = v := fun x hx => by
      obtain ⟨o0, o1⟩ := hb x hx
      obtain ⟨v, g1, hv, g3⟩ := atD_get (xs := B.sh) o0 o1
      exact ⟨v, by rw [atD_map, g1]; rfl, hv, by rw [List.getD_eq_getElem?_getD, g3]; rfl⟩
    refine cmpD_dt (pmI B.sh) (by rw [iD_len]; omega) True.intro (fun d hd => ?_) ?_
    · obtain ⟨x, hx, rfl⟩ := List.mem_map.mp hd
      obtain ⟨v, a1, _, a3⟩ := hsm x hx
      walk_at "go"
      refine ⟨?_, rfl⟩
      show _ = D.int (B.sh.getD x.toNat 0)
      rw [a3]
    · have e2 : (iD bk).map (pmI B.sh) = iD (bk.map fun x => B.sh.getD x.toNat 0) := by
        show List.map _ (List.map _ _) = List.map _ (List.map _ _)
        rw [List.map_map, List.map_map]; rfl
      rw [e2]
      walk_at "go"
      refine q ⟨B.b, bk.map fun x => B.sh.getD x.toNat 0, made⟩ ⟨ok.b2, ok.b4, ?_, ?_, ?_, ?_, ?_⟩ rfl (by rw [List.length_map, hbl]) _
      · show 1 ≤ (bk.map _).length
        rw [List.length_map, hbl]; exact ok.s1
      · show (bk.map _).length ≤ 64
        rw [List.length_map, hbl]; exact ok.s64
      · show made.length = (bk.map _).length
        rw [List.length_map, hm]
      · intro y hy
        obtain ⟨x, hx, rfl⟩ := List.mem_map.mp hy
        obtain ⟨v, _, hv, a3⟩ := hsm x hx
        rw [a3]
        exact ok.sh v hv
      · intro k hk2
        show BlkOk ((bk.map _).length : Nat) B.b k
        rw [List.length_map, hbl]
        exact hk k hk2
theorem cmpD_inkF {α : Type} (F : α → D) {mm : Tg} {C A : Ex} {vs : List Nat} {gd : Sto → Prop} {env : En} {s : Sto} {Q : List D → Sto → Prop} {lo : Int} {cnt n w : Nat} {a m c : Int} (P : α → Prop) (hl : cnt ≤ sizeLine) (hg : ∀ s, gd s) (h : Ink n a m c)
    (turn : ∀ (j : Nat) (a m c : Int), j < cnt → Ink (n + j * w) a m c → kilK vs env fun e0 => mm.run (.d (.int (lo + j))) e0 (ink a m c :: s) fun e s0 => C.run e s0 (fun b s1 => isB s1 (fun b s1 => (b = true → A.run e s1 (fun v s2 => isD (fun d => ∃ (i : α) (a m c : Int), d = F i ∧ P i ∧ Ink (n + (j + 1) * w) a m c ∧ s2 = ink a m c :: s) v) noZ) ∧ (b = false → False)) b) noZ)
    (fin : ∀ (is : List α) (a m c : Int), is.length = cnt → (∀ i, i ∈ is → P i) → Ink (n + cnt * w) a m c → Q (is.map F) (ink a m c :: s)) : cmpD mm C A vs gd (rgT lo cnt) env (ink a m c :: s) [] Q := by
  refine cmpD_inv (fun j ds s' => ∃ (is : List α) (a m c : Int), ds = is.map F ∧ is.length = j ∧ (∀ i, i ∈ is → P i) ∧ Ink (n + j * w) a m c ∧ s' = ink a m c :: s) (by rw [rgT_len]; exact hl) ⟨[], a, m, c, rfl, rfl, by simp, by simpa using h, rfl⟩ (fun _ _ _ _ => hg _) ?_ ?_
  · rintro j x ds s' hx _ ⟨is, a, m, c, rfl, h1, h2, h3, rfl⟩
    obtain ⟨hj, rfl⟩ := rgT_at hx
    refine kilK_mono (fun _ g1 => mm.mono (fun _ _ g2 => C.mono (fun _ _ g3 => isB_mono (fun _ _ g4 => ⟨fun z => A.mono (fun _ _ g5 => isD_mono (fun d g6 => ?_) g5) (fun _ _ _ q => q) (g4.1 z), fun z => (g4.2 z).elim⟩) g3) (fun _ _ _ q => q) g2) g1) (turn j a m c hj h3)
    obtain ⟨i, a, m, c, rfl, p, h4, rfl⟩ := g6
    refine ⟨is ++ [i], a, m, c, by rw [List.map_append]; rfl, by rw [List.length_append, h1]; rfl, fun y hy => ?_, h4, rfl⟩
    rw [List.mem_append, List.mem_singleton] at hy
    rcases hy with hy | rfl
    · exact h2 y hy
    · exact p
  · rintro ds s' ⟨is, a, m, c, rfl, h1, h2, h3, rfl⟩
    rw [rgT_len] at h1 h3
    exact fin is a m c h1 h2 h3
theorem r_book {n : Nat} {a m c b : Int} {most : Nat} {Q : QT} {Z : ZT} (h : Ink n a m c) (hn : n ≤ 90000000) (b1 : 2 ≤ b) (b2 : b ≤ 4) (m1 : 1 ≤ most) (m2 : most ≤ 64)
    (q : ∀ (B : Bk) a m c, B.Ok → B.b = b → B.sh.length ≤ most → Ink (n + 10000) a m c → ∀ s, Q (.d B.d) (ink a m c :: s)) : f_book_l.run [.loc 0, .d (.int b), .d (.int (most : Int))] [ink a m c] Q Z := by
  rw [f_book_l_eq]
  have hz : (1000 : Nat) ≤ sizeLine := by decide
  walk_at "go"
  refine r_drip h (by omega) (by omega) (by omega) fun r a m c r0 r1 h => ?_
  obtain ⟨k, hk⟩ : ∃ k : Nat, 1 + r = k := ⟨(1 + r).toNat, by omega⟩
  have hz2 : -2 ^ 62 ≤ 1 + r ∧ 1 + r < 2 ^ 62 := by omega
  walk_at "go"
  refine r_drip h (by omega) (by omega) (by omega) fun w a m c w0 w1 h => ?_
  rw [hk] at hz2 ⊢
  walk_at "go"
  rw [Int.toNat_natCast]
  refine cmpD_inkF blkD (n := n + 1 + 1) (w := 100) (BlkOk k b) (by omega) (fun _ => True.intro) h (fun j a m c hj h => ?_) (fun bs a m c h1 h2 h => ?_)
  · walk_at "go"
    refine r_block h (by omega) (by omega) (by omega) (by omega) w0 w1 b1 b2 fun B a m c hB h s => ?_
    walk_at "go"
    exact ⟨B, a, m, c, rfl, hB, h.mono (by omega), rfl⟩
  · walk_at "go"
    refine r_shades h (by omega) (by omega) (by omega) fun fs a m c hf hr h s => ?_
    walk_at "go"
    refine r_order h (by omega) (by omega) fun ps a m c h hp s => ?_
    walk_at "go"
    refine r_renamed (B := ⟨b, fs, bs⟩) ⟨b1, b2, by show 1 ≤ fs.length; omega, by show fs.length ≤ 64; omega, by show bs.length = fs.length; omega, fun x hx => ?_, fun x hx => ?_⟩ (by show ps.Perm (upTo fs.length); rw [hf]; exact hp) fun B' ok' e1 e2 s => ?_
    · have := hr x hx; omega
    · show BlkOk (fs.length : Nat) b x
      rw [hf]; exact h2 x hx
    · walk_at "go"
      exact q B' a m c ok' e1 (by rw [e2]; show fs.length ≤ most; omega) (h.mono (by omega)) _
end Sy

set_option Elab.async false
set_option linter.all false
set_option maxRecDepth 2000
set_option maxHeartbeats 4000000
namespace Sy
open PySem PySem.Spec
local macro_rules | `(tactic| walk_at "hn") => `(tactic| conv => whnf)
local macro_rules | `(tactic| walk_at "side") => `(tactic| first | exact True.intro | assumption | exact ⟨rfl, rfl⟩ | omega | exact len_lit rfl | exact pow_lit rfl | exact pos_lit rfl | exact div_lit rfl | exact ⟨.of 100 (by omega), .of 100 (by omega)⟩ | fail)
local macro_rules | `(tactic| walk_at "cl") => `(tactic| first | rfl | assumption | exact bnt (by first | assumption | fail) | exact bnf (by first | assumption | fail) | fail)
local macro_rules | `(tactic| walk_at "br") => `(tactic| first
  | (refine br_t (by walk_at "cl") ?_)
  | (refine br_f (by walk_at "cl") ?_)
  | (refine br_2 (fun _ => ?_) (fun _ => ?_))
  | (refine ex_at (by first | rfl | assumption | fail) ?_)
  | (refine And.intro (by walk_at "side") ?_)
  | fail)
local macro_rules | `(tactic| walk_at "go") => `(tactic| ((repeat' (first | assumption | walk_at "br" | (walk_at "hn"; first | assumption | walk_at "br" | fail) | fail)) <;> walk_at "hn"))
local macro_rules | `(tactic| walk_at "dec") => `(tactic| (simp only [decide_eq_true_eq, decide_eq_false_iff_not, Bool.not_eq_true', Bool.not_eq_false'] at *))
theorem num_ok {b : Int} {d : Nat} {ds : List Int} (b1 : 2 ≤ b) (hl : ds.length = d) (hr : Ran b ds) : (0 ≤ num b 0 ds ∧ num b 0 ds < b ^ (d : Int).toNat) ∧ figs b (d : Int).toNat (num b 0 ds) = ds := by
  rw [Int.toNat_natCast]
  have h := num_bnd b1 ds 0 0 hr (by decide) (by rw [Int.pow_zero]; decide)
  rw [Nat.zero_add, hl] at h
  refine ⟨h, ?_⟩
  rw [← hl]
  exact figs_num b1 hr
section
variable {B : Bk} {l : Int} {d : Nat} {ds es : List Int} {Q : QT} {Z : ZT} (ok : B.Ok) (l0 : 0 ≤ l) (l1 : l < B.sh.length) (hd : d ≤ 1000) (h1 : ds.length = d) (h2 : Ran B.b ds) (h3 : es.length = d) (h4 : Ran B.b es)
include ok l0 l1 hd h1 h2 h3 h4
theorem k_letter (q : ∀ s, Q (.d (.int (ledB B l ds es))) s) : f_letter_at.run [.d (B.pic l), .d (.int (d : Int)), .d (.int (num B.b 0 ds)), .d (.int (num B.b 0 es))] [] Q Z := by
  obtain ⟨⟨a1, a2⟩, a3⟩ := num_ok ok.b2 h1 h2
  obtain ⟨⟨c1, c2⟩, c3⟩ := num_ok ok.b2 h3 h4
  refine r_letter_at ok l0 l1 (by omega) (fun _ _ _ _ _ s => ?_) (fun h => by omega) (fun _ h => absurd ⟨a1, a2, c1, c2⟩ h)
  rw [a3, c3]
  exact q s
theorem k_shade (q : ∀ s, Q (.d (.int (B.sh.getD (ledB B l ds es).toNat 0))) s) : f_shade_at.run [.d (B.pic l), .d (.int (d : Int)), .d (.int (num B.b 0 ds)), .d (.int (num B.b 0 es))] [] Q Z := by
  obtain ⟨⟨a1, a2⟩, a3⟩ := num_ok ok.b2 h1 h2
  obtain ⟨⟨c1, c2⟩, c3⟩ := num_ok ok.b2 h3 h4
  refine r_shade_at ok l0 l1 (by omega) (fun _ _ _ _ _ s => ?_) (fun h => by omega) (fun _ h => absurd ⟨a1, a2, c1, c2⟩ h)
  rw [a3, c3]
  exact q s
theorem k_part (q : ∀ s, Q (.d (B.pic (ledB B l ds es))) s) : f_part.run [.d (B.pic l), .d (.int (d : Int)), .d (.int (num B.b 0 ds)), .d (.int (num B.b 0 es))] [] Q Z := by
  obtain ⟨⟨a1, a2⟩, a3⟩ := num_ok ok.b2 h1 h2
  obtain ⟨⟨c1, c2⟩, c3⟩ := num_ok ok.b2 h3 h4
  refine r_part ok l0 l1 (by omega) (fun _ _ _ _ _ s => ?_) (fun h => by omega) (fun _ h => absurd ⟨a1, a2, c1, c2⟩ h)
  rw [a3, c3]
  exact q s
end
theorem plain_iD {n : Nat} {xs : List Int} (h : xs.length ≤ 1000) : Plain (n + 1) (.tup (iD xs)) := by
  refine ⟨by rw [iD_len]; exact Nat.le_trans h (by decide), fun x hx => ?_⟩
  obtain ⟨y, _, rfl⟩ := List.mem_map.mp hx
  unfold Plain; exact True.intro
theorem plain_bk {B : Bk} (ok : B.Ok) : Plain 6 B.d := by
  have hz : (1000 : Nat) ≤ sizeLine := by decide
  have b4 := ok.b4
  have s64 := ok.s64
  refine ⟨by show 3 ≤ sizeLine; omega, fun x hx => ?_⟩
  simp only [List.mem_cons, List.mem_nil_iff, or_false] at hx
  rcases hx with rfl | rfl | rfl
  · unfold Plain; exact True.intro
  · exact plain_iD (by omega)
  · refine ⟨by rw [List.length_map, ok.len]; omega, fun y hy => ?_⟩
    obtain ⟨k, hk, rfl⟩ := List.mem_map.mp hy
    have kok := ok.bl k hk
    refine ⟨by rw [List.length_map]; have := kok.len; omega, fun z hz => ?_⟩
    obtain ⟨r, hr, rfl⟩ := List.mem_map.mp hz
    exact plain_iD (by have := (kok.at_ r hr).len; omega)
theorem plain_int {n : Nat} {i : Int} : Plain n (.int i) := by cases n <;> (unfold Plain; exact True.intro)
theorem plain_pic {B : Bk} {l : Int} (ok : B.Ok) : Plain 7 (B.pic l) := by
  refine ⟨by show 2 ≤ sizeLine; decide, fun x hx => ?_⟩
  simp only [List.mem_cons, List.mem_nil_iff, or_false] at hx
  rcases hx with rfl | rfl
  · exact plain_bk ok
  · exact plain_int
theorem r_cell {B : Bk} {l : Int} {n : Nat} {a m c : Int} {Q : QT} {Z : ZT} (ok : B.Ok) (l0 : 0 ≤ l) (l1 : l < B.sh.length) (h : Ink n a m c) (hn : n ≤ 90000000)
    (q : ∀ a m c, Ink (n + 1000) a m c → ∀ s, Q (.d (.bl true)) (ink a m c :: s)) : f_cell_right_l.run [.loc 0, .d (B.pic l)] [ink a m c] Q Z := by
  rw [f_cell_right_l_eq]
  have b2 := ok.b2
  have b4 := ok.b4
  walk_at "go"
  refine r_depth h (by omega) fun d a m c hd h s => ?_
  walk_at "go"
  refine r_line h (by omega) b2 b4 hd fun ds a m c hds hdr h s => ?_
  walk_at "go"
  refine r_line h (by omega) b2 b4 hd fun es a m c hes her h s => ?_
  walk_at "go"
  refine r_drip h (by omega) (by decide) (by decide) fun w a m c w0 w1 h => ?_
  walk_at "go"
  · refine r_number b2 b4 hdr (by omega) fun s => ?_
    walk_at "go"
    refine r_number b2 b4 hdr (by omega) fun s => ?_
    walk_at "go"
    refine r_led ok ds ds (by omega) hdr hdr l0 l1 (by omega) fun s => ?_
    obtain ⟨u0, u1⟩ := ledB_in ok l0 l1 hdr hdr
    obtain ⟨v, g1, g2, g3⟩ := atD_get (xs := B.sh) u0 u1
    have g4 : atD (iD B.sh) (ledB B l ds ds) = some (.int v) := by rw [atD_map, g1]; rfl
    have g5 : B.sh.getD (ledB B l ds ds).toNat 0 = v := by rw [List.getD_eq_getElem?_getD, g3]; rfl
    walk_at "go"
    refine k_letter ok l0 l1 (by omega) hds hdr hds hdr fun s => ?_
    walk_at "go"
    refine r_same (n := 7) plain_int fun s => ?_
    walk_at "go"
    refine k_shade ok l0 l1 (by omega) hds hdr hds hdr fun s => ?_
    rw [g5]
    walk_at "go"
    refine r_same (n := 7) plain_int fun s => ?_
    walk_at "go"
    refine k_part ok l0 l1 (by omega) hds hdr hds hdr fun s => ?_
    walk_at "go"
    refine r_same (n := 7) (plain_pic ok) fun s => ?_
    walk_at "go"
    refine k_part ok l0 l1 (by omega) hds hdr hds hdr fun s => ?_
    walk_at "go"
    refine r_same (n := 7) plain_int fun s => ?_
    walk_at "go"
    refine k_shade ok l0 l1 (by omega) hds hdr hds hdr fun s => ?_
    rw [g5]
    walk_at "go"
    refine r_same (n := 7) plain_int fun s => ?_
    walk_at "go"
    refine k_letter ok l0 l1 (by omega) hds hdr hds hdr fun s => ?_
    walk_at "go"
    refine r_same (n := 7) plain_int fun s => ?_
    walk_at "go"
    exact q a m c (h.mono (by omega)) _
  · refine r_number b2 b4 hdr (by omega) fun s => ?_
    walk_at "go"
    refine r_number b2 b4 her (by omega) fun s => ?_
    walk_at "go"
    refine r_led ok ds es (by omega) hdr her l0 l1 (by omega) fun s => ?_
    obtain ⟨u0, u1⟩ := ledB_in ok l0 l1 hdr her
    obtain ⟨v, g1, g2, g3⟩ := atD_get (xs := B.sh) u0 u1
    have g4 : atD (iD B.sh) (ledB B l ds es) = some (.int v) := by rw [atD_map, g1]; rfl
    have g5 : B.sh.getD (ledB B l ds es).toNat 0 = v := by rw [List.getD_eq_getElem?_getD, g3]; rfl
    walk_at "go"
    refine k_letter ok l0 l1 (by omega) hds hdr hes her fun s => ?_
    walk_at "go"
    refine r_same (n := 7) plain_int fun s => ?_
    walk_at "go"
    refine k_shade ok l0 l1 (by omega) hds hdr hes her fun s => ?_
    rw [g5]
    walk_at "go"
    refine r_same (n := 7) plain_int fun s => ?_
    walk_at "go"
    refine k_part ok l0 l1 (by omega) hds hdr hes her fun s => ?_
    walk_at "go"
    refine r_same (n := 7) (plain_pic ok) fun s => ?_
    walk_at "go"
    refine k_part ok l0 l1 (by omega) hds hdr hes her fun s => ?_
    walk_at "go"
    refine r_same (n := 7) plain_int fun s => ?_
    walk_at "go"
    refine k_shade ok l0 l1 (by omega) hds hdr hes her fun s => ?_
    rw [g5]
    walk_at "go"
    refine r_same (n := 7) plain_int fun s => ?_
    walk_at "go"
    refine k_letter ok l0 l1 (by omega) hds hdr hes her fun s => ?_
    walk_at "go"
    refine r_same (n := 7) plain_int fun s => ?_
    walk_at "go"
    exact q a m c (h.mono (by omega)) _
end Sy

set_option Elab.async false
set_option linter.all false
set_option maxRecDepth 2000
set_option maxHeartbeats 4000000
namespace Sy
open PySem PySem.Spec
local macro_rules | `(tactic| walk_at "hn") => `(tactic| conv => whnf)
local macro_rules | `(tactic| walk_at "side") => `(tactic| first | exact True.intro | assumption | exact ⟨rfl, rfl⟩ | omega | exact len_lit rfl | exact pow_lit rfl | exact pos_lit rfl | exact div_lit rfl | exact rfl | exact ⟨.of 100 (by omega), .of 100 (by omega)⟩ | fail)
local macro_rules | `(tactic| walk_at "cl") => `(tactic| first | rfl | assumption | exact bnt (by first | assumption | fail) | exact bnf (by first | assumption | fail) | fail)
local macro_rules | `(tactic| walk_at "br") => `(tactic| first
  | (refine br_t (by walk_at "cl") ?_)
  | (refine br_f (by walk_at "cl") ?_)
  | (refine br_2 (fun _ => ?_) (fun _ => ?_))
  | (refine ex_at (by first | rfl | assumption | fail) ?_)
  | (refine And.intro (by walk_at "side") ?_)
  | fail)
local macro_rules | `(tactic| walk_at "go") => `(tactic| ((repeat' (first | assumption | walk_at "br" | (walk_at "hn"; first | assumption | walk_at "br" | fail) | fail)) <;> walk_at "hn"))
local macro_rules | `(tactic| walk_at "dec") => `(tactic| (simp only [decide_eq_true_eq, decide_eq_false_iff_not, Bool.not_eq_true', Bool.not_eq_false'] at *))
theorem r_caught {B : Bk} {l d r c w : Int} {Q : QT} {Z : ZT} (ok : B.Ok) (l0 : 0 ≤ l) (l1 : l < B.sh.length) (d1 : d ≤ 1000) (w0 : 0 ≤ w) (w1 : w < 3)
    (q : 0 ≤ d → 0 ≤ r → r < B.b ^ d.toNat → 0 ≤ c → c < B.b ^ d.toNat → ∀ s, Q (.d .non) s)
    (z4 : d < 0 → ∀ s, Q (.exn 4 (.int d)) s) (z7 : 0 ≤ d → ¬ (0 ≤ r ∧ r < B.b ^ d.toNat ∧ 0 ≤ c ∧ c < B.b ^ d.toNat) → ∀ s, Q (.exn 7 (.tup [.int r, .int c])) s) :
    f_caught_l.run [.d (.int w), .d (B.pic l), .d (.int d), .d (.int r), .d (.int c)] [] Q Z := by
  rw [f_caught_l_eq]
  have cs : w = 0 ∨ w = 1 ∨ w = 2 := by omega
  rcases cs with rfl | rfl | rfl
  · walk_at "go"
    refine r_letter_at ok l0 l1 d1 (fun a1 a2 a3 a4 a5 s => ?_) (fun a s => ?_) (fun a b s => ?_)
    · have q := q a1 a2 a3 a4 a5
      walk_at "go"
      exact q _
    · have z4 := z4 a
      walk_at "go"
      exact z4 _
    · have z7 := z7 a b
      walk_at "go"
      exact z7 _
  · walk_at "go"
    refine r_shade_at ok l0 l1 d1 (fun a1 a2 a3 a4 a5 s => ?_) (fun a s => ?_) (fun a b s => ?_)
    · have q := q a1 a2 a3 a4 a5
      walk_at "go"
      exact q _
    · have z4 := z4 a
      walk_at "go"
      exact z4 _
    · have z7 := z7 a b
      walk_at "go"
      exact z7 _
  · walk_at "go"
    refine r_part ok l0 l1 d1 (fun a1 a2 a3 a4 a5 s => ?_) (fun a s => ?_) (fun a b s => ?_)
    · have q := q a1 a2 a3 a4 a5
      walk_at "go"
      exact q _
    · have z4 := z4 a
      walk_at "go"
      exact z4 _
    · have z7 := z7 a b
      walk_at "go"
      exact z7 _
theorem num_top {b : Int} : ∀ (d : Nat) (n : Int), num b n (List.replicate d (b - 1)) + 1 = (n + 1) * b ^ d
  | 0, n => by rw [Int.pow_zero, Int.mul_one]; rfl
  | d + 1, n => by
    rw [List.replicate_succ, num, num_top d, Int.pow_succ, Int.mul_comm (b ^ d) b, ← Int.mul_assoc]
    congr 1
    rw [Int.add_mul, Int.one_mul]; omega
theorem at3 {x y z : D} {r : Int} (r0 : 0 ≤ r) (r1 : r < 3) : ∃ v, atD [x, y, z] r = some v ∧ (v = x ∨ v = y ∨ v = z) := by
  have : r = 0 ∨ r = 1 ∨ r = 2 := by omega
  rcases this with rfl | rfl | rfl
  · exact ⟨x, rfl, .inl rfl⟩
  · exact ⟨y, rfl, .inr (.inl rfl)⟩
  · exact ⟨z, rfl, .inr (.inr rfl)⟩
theorem at4 {x y z w : D} {r : Int} (r0 : 0 ≤ r) (r1 : r < 4) : ∃ v, atD [x, y, z, w] r = some v ∧ (v = x ∨ v = y ∨ v = z ∨ v = w) := by
  have : r = 0 ∨ r = 1 ∨ r = 2 ∨ r = 3 := by omega
  rcases this with rfl | rfl | rfl | rfl
  · exact ⟨x, rfl, .inl rfl⟩
  · exact ⟨y, rfl, .inr (.inl rfl)⟩
  · exact ⟨z, rfl, .inr (.inr (.inl rfl))⟩
  · exact ⟨w, rfl, .inr (.inr (.inr rfl))⟩
theorem r_refused {B : Bk} {l : Int} {n : Nat} {a m c : Int} {Q : QT} {Z : ZT} (ok : B.Ok) (l0 : 0 ≤ l) (l1 : l < B.sh.length) (h : Ink n a m c) (hn : n ≤ 90000000)
    (q : ∀ a m c, Ink (n + 1000) a m c → ∀ s, Q (.d (.bl true)) (ink a m c :: s)) : f_refused_l.run [.loc 0, .d (B.pic l)] [ink a m c] Q Z := by
  rw [f_refused_l_eq]
  have hz : (1000 : Nat) ≤ sizeLine := by decide
  have b2 := ok.b2
  have b4 := ok.b4
  walk_at "go"
  refine r_depth h (by omega) fun d a m c hd h s => ?_
  have e : (List.replicate (d : Int).toNat [D.int (B.b - 1)]).flatten = iD (List.replicate d (B.b - 1)) := by rw [Int.toNat_natCast, flat_rep, iD_rep]
  have hz3 : (-2 ^ 63 ≤ (d : Int) ∧ (d : Int) < 2 ^ 63 ∧ [D.int (B.b - 1)].length * (d : Int).toNat ≤ sizeLine) := ⟨by omega, by omega, by rw [Int.toNat_natCast]; simp; omega⟩
  have hr : Ran B.b (List.replicate d (B.b - 1)) := fun x hx => by obtain ⟨_, rfl⟩ := List.mem_replicate.mp hx; omega
  walk_at "go"
  rw [e]
  refine r_number b2 b4 hr (by simp; omega) fun s => ?_
  have tp := num_top (b := B.b) d 0
  rw [Int.zero_add, Int.one_mul] at tp
  have S1 : 1 ≤ B.b ^ d := by
    have := Int.pow_pos (n := B.b) (m := d) (by omega)
    omega
  generalize num B.b 0 (List.replicate d (B.b - 1)) = N at *
  have tp : N + 1 = B.b ^ d := tp
  have hS : 0 < N + 1 := by omega
  walk_at "go"
  refine r_drip h (by omega) (by decide) (by decide) fun x1 a m c x10 x11 h => ?_
  walk_at "go"
  refine r_drip h (by omega) (by decide) (by decide) fun w1 a m c w10 w11 h => ?_
  obtain ⟨good, hgood, gc⟩ := at3 (x := .int 0) (y := .int (N + 1 - 1)) (z := .int (x1 % (N + 1))) w10 w11
  obtain ⟨g, rfl, g0, g1⟩ : ∃ g : Int, good = .int g ∧ 0 ≤ g ∧ g < N + 1 := by
    have := Int.emod_nonneg x1 (by omega : N + 1 ≠ 0)
    have := Int.emod_lt_of_pos x1 hS
    rcases gc with rfl | rfl | rfl
    · exact ⟨_, rfl, by omega, by omega⟩
    · exact ⟨_, rfl, by omega, by omega⟩
    · exact ⟨_, rfl, by omega, by omega⟩
  walk_at "go"
  refine r_drip h (by omega) (by decide) (by decide) fun x2 a m c x20 x21 h => ?_
  walk_at "go"
  refine r_drip h (by omega) (by decide) (by decide) fun x3 a m c x30 x31 h => ?_
  walk_at "go"
  refine r_drip h (by omega) (by decide) (by decide) fun w2 a m c w20 w21 h => ?_
  obtain ⟨bad, hbad, bc⟩ := at4 (x := .int (N + 1)) (y := .int (-1)) (z := .int (N + 1 + x2)) (w := .int (-2 - x3)) w20 w21
  obtain ⟨u, rfl, u0⟩ : ∃ u : Int, bad = .int u ∧ ¬ (0 ≤ u ∧ u < N + 1) := by
    rcases bc with rfl | rfl | rfl | rfl
    · exact ⟨_, rfl, by omega⟩
    · exact ⟨_, rfl, by omega⟩
    · exact ⟨_, rfl, by omega⟩
    · exact ⟨_, rfl, by omega⟩
  walk_at "go"
  refine r_drip h (by omega) (by decide) (by decide) fun w3 a m c w30 w31 h => ?_
  obtain ⟨pr, hpr, pc⟩ := at3 (x := .tup [.int g, .int u]) (y := .tup [.int u, .int g]) (z := .tup [.int u, .int u]) w30 w31
  obtain ⟨rr, cc, rfl, bad2⟩ : ∃ rr cc : Int, pr = .tup [.int rr, .int cc] ∧ ¬ (0 ≤ rr ∧ rr < N + 1 ∧ 0 ≤ cc ∧ cc < N + 1) := by
    rcases pc with rfl | rfl | rfl
    · exact ⟨_, _, rfl, by omega⟩
    · exact ⟨_, _, rfl, by omega⟩
    · exact ⟨_, _, rfl, by omega⟩
  walk_at "go"
  refine r_drip h (by omega) (by decide) (by decide) fun door a m c dr0 dr1 h => ?_
  have tpd : B.b ^ (d : Int).toNat = N + 1 := by rw [Int.toNat_natCast]; exact tp.symm
  have pl2 : Plain 7 (.tup [.int rr, .int cc]) := plain_iD (xs := [rr, cc]) (by simp)
  walk_at "go"
  refine r_caught ok l0 l1 (by omega) dr0 dr1 (fun _ a1 a2 a3 a4 => absurd ⟨a1, by rw [← tpd]; exact a2, a3, by rw [← tpd]; exact a4⟩ bad2) (fun hn => by omega) (fun _ _ s => ?_)
  walk_at "go"
  refine r_same (n := 7) pl2 fun s => ?_
  walk_at "go"
  refine r_drip h (by omega) (by decide) (by decide) fun x4 a m c x40 x41 h => ?_
  walk_at "go"
  refine r_drip h (by omega) (by decide) (by decide) fun w4 a m c w40 w41 h => ?_
  obtain ⟨low, hlow, lc⟩ := at4 (x := .int (-1)) (y := .int (-2)) (z := .int (-90)) (w := .int (-1 - x4)) w40 w41
  obtain ⟨lo, rfl, lo0⟩ : ∃ lo : Int, low = .int lo ∧ lo < 0 := by
    rcases lc with rfl | rfl | rfl | rfl
    · exact ⟨_, rfl, by omega⟩
    · exact ⟨_, rfl, by omega⟩
    · exact ⟨_, rfl, by omega⟩
    · exact ⟨_, rfl, by omega⟩
  walk_at "go"
  refine r_caught ok l0 l1 (by omega) dr0 dr1 (fun hn => by omega) (fun _ s => ?_) (fun hn => by omega)
  walk_at "go"
  refine r_same (n := 7) plain_int fun s => ?_
  walk_at "go"
  refine r_caught ok l0 l1 (by omega) dr0 dr1 (fun _ _ _ _ _ s => ?_) (fun hn => by omega) (fun _ hn => absurd ⟨g0, by rw [tpd]; exact g1, g0, by rw [tpd]; exact g1⟩ hn)
  walk_at "go"
  refine r_caught ok l0 l1 (by omega) dr0 dr1 (fun _ _ _ _ _ s => ?_) (fun hn => by omega) (fun _ hn => absurd ⟨by omega, by rw [tpd]; omega, by omega, by rw [tpd]; omega⟩ hn)
  walk_at "go"
  exact q a m c (h.mono (by omega)) _
end Sy

set_option Elab.async false
set_option linter.all false
set_option maxRecDepth 2000
set_option maxHeartbeats 4000000
namespace Sy
open PySem PySem.Spec
local macro_rules | `(tactic| walk_at "hn") => `(tactic| conv => whnf)
local macro_rules | `(tactic| walk_at "side") => `(tactic| first | exact True.intro | assumption | exact ⟨rfl, rfl⟩ | omega | exact len_lit rfl | exact pow_lit rfl | exact pos_lit rfl | exact div_lit rfl | exact rfl | exact ⟨.of 100 (by omega), .of 100 (by omega)⟩ | fail)
local macro_rules | `(tactic| walk_at "cl") => `(tactic| first | rfl | assumption | exact bnt (by first | assumption | fail) | exact bnf (by first | assumption | fail) | fail)
local macro_rules | `(tactic| walk_at "br") => `(tactic| first
  | (refine br_t (by walk_at "cl") ?_)
  | (refine br_f (by walk_at "cl") ?_)
  | (refine br_2 (fun _ => ?_) (fun _ => ?_))
  | (refine ex_at (by first | rfl | assumption | fail) ?_)
  | (refine And.intro (by walk_at "side") ?_)
  | fail)
local macro_rules | `(tactic| walk_at "go") => `(tactic| ((repeat' (first | assumption | walk_at "br" | (walk_at "hn"; first | assumption | walk_at "br" | fail) | fail)) <;> walk_at "hn"))
local macro_rules | `(tactic| walk_at "dec") => `(tactic| (simp only [decide_eq_true_eq, decide_eq_false_iff_not, Bool.not_eq_true', Bool.not_eq_false'] at *))
theorem r_right {a m c : Int} {Q : QT} {Z : ZT} (h : Ink 0 a m c) (q : ∀ a m c s, Q (.d (.bl true)) (ink a m c :: s)) : f_right_l.run [.loc 0] [ink a m c] Q Z := by
  rw [f_right_l_eq]
  walk_at "go"
  refine r_drip h (by omega) (by decide) (by decide) fun r a m c r0 r1 h => ?_
  walk_at "go"
  refine r_book (most := 8) h (by omega) (by omega) (by omega) (by decide) (by decide) fun B a m c ok hb hl h s => ?_
  have s1 := ok.s1
  have s64 := ok.s64
  have hz2 := len_rng (n := (iD B.sh).length) (by rw [iD_len]; exact Nat.le_trans s64 (by decide))
  walk_at "go"
  refine r_drip (k := ((iD B.sh).length : Int)) h (by omega) (by rw [iD_len]; omega) (by rw [iD_len]; omega) fun l a m c l0 l1 h => ?_
  rw [iD_len] at l1
  walk_at "go"
  refine r_cell ok l0 l1 h (by omega) fun a m c h s => ?_
  walk_at "go"
  refine r_cell ok l0 l1 h (by omega) fun a m c h s => ?_
  walk_at "go"
  refine r_cell ok l0 l1 h (by omega) fun a m c h s => ?_
  walk_at "go"
  refine r_cell ok l0 l1 h (by omega) fun a m c h s => ?_
  walk_at "go"
  refine r_cell ok l0 l1 h (by omega) fun a m c h s => ?_
  walk_at "go"
  refine r_refused ok l0 l1 h (by omega) fun a m c h s => ?_
  walk_at "go"
  exact q a m c _
end Sy

set_option Elab.async false
set_option linter.all false
set_option maxRecDepth 2000
set_option maxHeartbeats 4000000
namespace Sy
open PySem PySem.Spec
local macro_rules | `(tactic| walk_at "hn") => `(tactic| conv => whnf)
local macro_rules | `(tactic| walk_at "side") => `(tactic| first | exact True.intro | assumption | exact ⟨rfl, rfl⟩ | omega | exact len_lit rfl | exact pow_lit rfl | exact pos_lit rfl | exact div_lit rfl | exact rfl | exact ⟨.of 100 (by omega), .of 100 (by omega)⟩ | fail)
local macro_rules | `(tactic| walk_at "cl") => `(tactic| first | rfl | assumption | exact bnt (by first | assumption | fail) | exact bnf (by first | assumption | fail) | fail)
local macro_rules | `(tactic| walk_at "br") => `(tactic| first
  | (refine br_t (by walk_at "cl") ?_)
  | (refine br_f (by walk_at "cl") ?_)
  | (refine br_2 (fun _ => ?_) (fun _ => ?_))
  | (refine ex_at (by first | rfl | assumption | fail) ?_)
  | (refine And.intro (by walk_at "side") ?_)
  | fail)
local macro_rules | `(tactic| walk_at "go") => `(tactic| ((repeat' (first | assumption | walk_at "br" | (walk_at "hn"; first | assumption | walk_at "br" | fail) | fail)) <;> walk_at "hn"))
local macro_rules | `(tactic| walk_at "dec") => `(tactic| (simp only [decide_eq_true_eq, decide_eq_false_iff_not, Bool.not_eq_true', Bool.not_eq_false'] at *))
theorem numsF_eq (b : Nat) : numsF b = [b, b + 1, b + 2, b + 3, b + 4, b + 5, b + 6, b + 7] := by
  unfold numsF
  split <;> rfl
theorem call_new {f : Fd} {ts : List T} {st : Sto} {Q : QT} {Z : ZT} (ht : locsTs ts [] = []) (hr : ∀ g k, renTs g ts k = k ts)
    (h : f.run ts [] (fun v s => ∃ xs, v = .loc 0 ∧ s = [.lst xs] ∧ Q (.loc st.length) (st ++ [.lst xs])) fun _ _ _ => False) : callL f ts st Q Z := by
  unfold callL
  rw [ht]
  show renTs _ ts _
  rw [hr]
  refine f.mono (fun v s ⟨xs, hv, hs, q⟩ => ?_) (fun _ _ _ z => z.elim) h
  subst hv hs
  unfold backK
  rw [lenK_iff, lenK_iff, numsF_eq]
  show appK st [O.lst xs] _
  rw [appK_iff]
  exact q
theorem call_at {f : Fd} {ts ts' : List T} {n : Nat} {xs : List D} {st : Sto} {Q : QT} {Z : ZT} (hn : st[n]? = some (.lst xs)) (ht : locsTs ts [] = [n]) (hr : ∀ g k, g n = some 0 → renTs g ts k = k ts')
    (h : f.run ts' [.lst xs] (fun v s => ∃ d ys s', v = .d d ∧ s = .lst ys :: s' ∧ Q (.d d) (st.set n (.lst ys))) fun _ _ _ => False) : callL f ts st Q Z := by
  unfold callL
  rw [ht]
  have e1 : reach 1000 [n] [] st = [n] := by
    show reach 999 (locsO (nth st n) []) [n] st = [n]
    rw [nth_eq, hn]
    rfl
  rw [e1]
  show renTs (posN [n] nums) ts _
  have e2 : posN [n] nums n = some 0 := by
    show (match Nat.beq n n with | true => some 0 | false => _) = some 0
    rw [Nat.beq_refl]
  rw [hr _ _ e2]
  show (match nth st n with | some o => _ | none => False)
  rw [nth_eq, hn]
  refine f.mono (fun v s ⟨d, ys, s', hv, hs, q⟩ => ?_) (fun _ _ _ z => z.elim) h
  subst hv hs
  unfold backK
  rw [lenK_iff, lenK_iff]
  show putK st n (.lst ys) _
  rw [putK_iff]
  refine ⟨(List.getElem?_eq_some_iff.mp hn).1, ?_⟩
  show appK _ [] _
  rw [appK_iff, List.append_nil]
  exact q
theorem r_law {ns : List Int} {Q : QT} {Z : ZT} (hl : ns.length ≤ 63) (hb : ∀ n, n ∈ ns → n.natAbs < 2 ^ scB) (q : ∀ s, Q (.d (.bl true)) s) : f_law.run [.scr ns] [] Q Z := by
  rw [f_law_eq]
  have hk : (0 : Int) ≤ (if (if ↑ns.length < 10 then ↑ns.length else 10) > 1 then if (ns.length : Int) < 10 then (ns.length : Int) else 10 else 1) ∧ (if (if ↑ns.length < 10 then ↑ns.length else 10) > 1 then if (ns.length : Int) < 10 then (ns.length : Int) else 10 else 1) ≤ (10 : Int) := by
    split <;> split <;> omega
  walk_at "go"
  generalize (if (if ↑ns.length < 10 then ↑ns.length else 10) > 1 then if (ns.length : Int) < 10 then (ns.length : Int) else 10 else 1) = kk at hk ⊢
  refine forL_rng (fun j e s => e = [some (.scr ns), none]) rfl (fun _ _ _ _ => True.intro) ?_ ?_
  · rintro j e s hj rfl
    show callL f_ink_l [.scr ns, .d (.int (0 + (j : Int)))] s _ _
    refine call_new rfl (fun _ _ => rfl) (r_ink hl hb (by omega) (by omega) fun a m c h => ⟨_, rfl, rfl, ?_⟩)
    show callL f_right_l [.loc s.length] _ _ _
    refine call_at (n := s.length) (ts' := [.loc 0]) (xs := [.int a, .int m, .int c]) (by simp) rfl (fun g k e => by unfold renTs renT; rw [e]; rfl) (r_right h fun a m c s2 => ⟨_, _, _, rfl, rfl, ?_⟩)
    walk_at "go"
  · rintro e s rfl
    walk_at "go"
    exact q _
end Sy

set_option Elab.async false
set_option linter.all false
set_option maxRecDepth 100000
set_option maxHeartbeats 4000000
namespace Sy
open PySem PySem.Spec PyProof.Rows L2
/-- a def that the top has written -/
def Top (K : PySem.W.Frag) (nm : Str) (st : Stmt) : Prop := ∃ f fd, PySem.W.nsIn K mainGlobals nm = some (some (.ref f)) ∧ Fun K nm nm st f fd
theorem top_mk {K : PySem.W.Frag} {nm : Str} {st : Stmt} {f : Addr} {oc : Value} {od an : Option Addr} {osl : Array (Option Value)} {kV doc pm cdv ct : Value} (a : PySem.W.nsIn K mainGlobals nm = some (some (.ref f))) (l : K.lookup f = some ⟨oc, od, .func (PySem.W.fnOf nm nm (defArgs st) (defBody st) (defScope st) .none kV doc pm an cdv ct), osl⟩)
    (c : PySem.W.codeIn K cdv nm = true) (k : PySem.W.keepIn K (.ref f) = true) : Top K nm st := ⟨_, _, a, fun_mk l c k⟩
theorem Top.fn {P : Program} {w : World} {K : PySem.W.Frag} {mg : Str → Option Value} {base h : Heap} {nm : Str} {st : Stmt} {k : Nat} {ps : List Str} {C : Con} (T : Top K nm st) (X : K.In h) (G : h.Ns mainGlobals mg) (ok : ∀ f fd, Fun K nm nm st f fd → FnOk P w K mg base (L2.CX P w) k f fd ps (SpC K C))
    (b : ∀ (kV doc pm : Value) (an : Option Addr) (cdv ct : Value) (us : List Value), us.length = ps.length → bindArgs (PySem.W.fnOf nm nm (defArgs st) (defBody st) (defScope st) .none kV doc pm an cdv ct) ⟨us, []⟩ = pure (ps.zip us)) : Fn P w K mg base nm k C := by
  obtain ⟨f, fd, a, F⟩ := T
  exact ⟨f, fd, ps, ok f fd F, PySem.W.mg_of X G a, F.kp, F.binds b⟩
theorem Top.kw {P : Program} {w : World} {K : PySem.W.Frag} {mg : Str → Option Value} {base h : Heap} {nm : Str} {st : Stmt} {k : Nat} {ps : List Str} {C : Con} (T : Top K nm st) (X : K.In h) (G : h.Ns mainGlobals mg) (ok : ∀ f fd, Fun K nm nm st f fd → FnOk P w K mg base (L2.CX P w) k f fd ps (SpC K C))
    (b : ∀ (kV doc pm : Value) (an : Option Addr) (cdv ct : Value) (s : Shared) (us : List Value), us.length = ps.length → BindsTo s (PySem.W.fnOf nm nm (defArgs st) (defBody st) (defScope st) .none kV doc pm an cdv ct) ⟨[], ps.zip us⟩ (ps.zip us)) : FnK P w K mg base nm k ps C := by
  obtain ⟨f, fd, a, F⟩ := T
  refine ⟨f, fd, ok f fd F, PySem.W.mg_of X G a, F.kp, fun s ws _ hl => ?_⟩
  obtain ⟨oc, od, kV, doc, pm, an, cdv, ct, osl, rfl, _⟩ := F.ex
  exact b kV doc pm an cdv ct s ws hl
/-- what law is asked -/
def C_law : Con := fun ss M Q _ => ∃ ns : List Int, ss = [.rdl (ns.map S.int)] ∧ ns.length ≤ 63 ∧ (∀ n, n ∈ ns → n.natAbs < 2 ^ scB) ∧ ∀ M', Q (.bl true) M'
theorem law_con {mg : Str → Option Value} {ss : List S} {M : Mem} {Q : QS} {E : Addr → S → Mem → Prop} (h : C_law ss M Q E) : C_of mg f_law ss M Q E := by
  obtain ⟨ns, rfl, hl, hb, q⟩ := h
  refine ⟨[], [.scr ns], [], M, .cons ?_ .nil, ⟨rfl, List.nodup_nil, fun i a o e => by simp at e, fun a ha => by simp at ha, fun a o _ e => e⟩, r_law hl hb fun s ρ' x M' _ r _ => ?_⟩
  · have e : ns.map S.int = D.sl (ns.map D.int) := by rw [D.sl_map, List.map_map]; rfl
    rw [e]; exact .scr ns
  · cases r; exact q M'
theorem FnOk.weak {P : Program} {w : World} {K : PySem.W.Frag} {mg : Str → Option Value} {base : Heap} {cx : CXT} {k : Nat} {f : Addr} {fd : FuncData} {ps : List Str} {C C' : Con} (m : ∀ ss M Q E, C' ss M Q E → C ss M Q E) (F : FnOk P w K mg base cx k f fd ps (SpC K C)) : FnOk P w K mg base cx k f fd ps (SpC K C') where
  len := fun vs H Q E ⟨ss, M, Q', E', a, b, c, d⟩ => F.len vs H Q E ⟨ss, M, Q', E', a, b, m _ _ _ _ c, d⟩
  run := fun A out s H args us vs Q E h1 h2 h3 h4 h5 ⟨ss, M, Q', E', a, b, c, d⟩ => F.run A out s H args us vs Q E h1 h2 h3 h4 h5 ⟨ss, M, Q', E', a, b, m _ _ _ _ c, d⟩
theorem all_mk {l : PySem.W.OpenLaw} {w : World} {K : PySem.W.Frag} {h : Heap} {mg : Str → Option Value} {fa : Addr} {cS c1 c4 c7 : Addr} (X : K.In h) (G : h.Ns mainGlobals mg) (hfa : mg "law" = some (.ref fa))
    (eS : PySem.W.nsIn K mainGlobals "SheetError" = some (some (.ref cS)))
    (e_1 : ExcTab K "InvalidPicture" c1 cS)
    (e_4 : ExcTab K "InvalidDepth" c4 cS)
    (e_7 : ExcTab K "InvalidPlace" c7 cS)
    (i_1_1 : PySem.W.kitOne K (.ref c1) (.ref c1) = some true)
    (i_1_4 : PySem.W.kitOne K (.ref c1) (.ref c4) = some false)
    (i_1_7 : PySem.W.kitOne K (.ref c1) (.ref c7) = some false)
    (i_4_1 : PySem.W.kitOne K (.ref c4) (.ref c1) = some false)
    (i_4_4 : PySem.W.kitOne K (.ref c4) (.ref c4) = some true)
    (i_4_7 : PySem.W.kitOne K (.ref c4) (.ref c7) = some false)
    (i_7_1 : PySem.W.kitOne K (.ref c7) (.ref c1) = some false)
    (i_7_4 : PySem.W.kitOne K (.ref c7) (.ref c4) = some false)
    (i_7_7 : PySem.W.kitOne K (.ref c7) (.ref c7) = some true)
    (T_anew : Top K "anew" s_anew)
    (T_is_shelf : Top K "is_shelf" s_is_shelf)
    (T_are_shades : Top K "are_shades" s_are_shades)
    (T_are_blocks : Top K "are_blocks" s_are_blocks)
    (T_is_int : Top K "is_int" s_is_int)
    (T_is_picture : Top K "is_picture" s_is_picture)
    (T_check_picture : Top K "check_picture" s_check_picture)
    (T_check_depth : Top K "check_depth" s_check_depth)
    (T_side_of : Top K "side_of" s_side_of)
    (T_check_place : Top K "check_place" s_check_place)
    (T_figures_of : Top K "figures_of" s_figures_of)
    (T_found_letter : Top K "found_letter" s_found_letter)
    (T_letter_at : Top K "letter_at" s_letter_at)
    (T_shade_at : Top K "shade_at" s_shade_at)
    (T_part : Top K "part" s_part)
    (T_ink_l : Top K "_law_ink" s_ink_l)
    (T_drip_l : Top K "_law_drip" s_drip_l)
    (T_same_l : Top K "_law_same" s_same_l)
    (T_order_l : Top K "_law_order" s_order_l)
    (T_shades_l : Top K "_law_shades" s_shades_l)
    (T_block_l : Top K "_law_block" s_block_l)
    (T_renamed_l : Top K "_law_renamed" s_renamed_l)
    (T_book_l : Top K "_law_book" s_book_l)
    (T_depth_l : Top K "_law_depth" s_depth_l)
    (T_line_l : Top K "_law_line" s_line_l)
    (T_number_l : Top K "_law_number" s_number_l)
    (T_led_l : Top K "_law_led" s_led_l)
    (T_cell_right_l : Top K "_law_cell_right" s_cell_right_l)
    (T_caught_l : Top K "_law_caught" s_caught_l)
    (T_refused_l : Top K "_law_refused" s_refused_l)
    (T_right_l : Top K "_law_right" s_right_l)
    (T_law : Top K "law" s_law)
    (z_abs : PySem.W.nsIn K mainGlobals "abs" = some none)
    (z_all : PySem.W.nsIn K mainGlobals "all" = some none)
    (z_bool : PySem.W.nsIn K mainGlobals "bool" = some none)
    (z_int : PySem.W.nsIn K mainGlobals "int" = some none)
    (z_isinstance : PySem.W.nsIn K mainGlobals "isinstance" = some none)
    (z_len : PySem.W.nsIn K mainGlobals "len" = some none)
    (z_list : PySem.W.nsIn K mainGlobals "list" = some none)
    (z_max : PySem.W.nsIn K mainGlobals "max" = some none)
    (z_min : PySem.W.nsIn K mainGlobals "min" = some none)
    (z_range : PySem.W.nsIn K mainGlobals "range" = some none)
    (z_sum : PySem.W.nsIn K mainGlobals "sum" = some none)
    (z_tuple : PySem.W.nsIn K mainGlobals "tuple" = some none)
    (z_zip : PySem.W.nsIn K mainGlobals "zip" = some none)
    {t_MOST_LETTERS : Tok} (zc_MOST_LETTERS : PySem.W.nsIn K mainGlobals "MOST_LETTERS" = some (some (.int 64 t_MOST_LETTERS)))
    : ∃ fd : FuncData, (∀ (s : Shared) (v : Value), BindsTo s fd ⟨[v], []⟩ [("_law_script", v)]) ∧ ∀ base : Heap, K.In base → base.Ns mainGlobals mg → FnOk l.prog w K mg base (L2.CX l.prog w) 16 fa fd ["_law_script"] (SpC K C_law) := by
  have T : Txt mg := ⟨PySem.W.mg_none_of X G z_abs, PySem.W.mg_none_of X G z_all, PySem.W.mg_none_of X G z_bool, PySem.W.mg_none_of X G z_int, PySem.W.mg_none_of X G z_isinstance, PySem.W.mg_none_of X G z_len, PySem.W.mg_none_of X G z_list, PySem.W.mg_none_of X G z_max, PySem.W.mg_none_of X G z_min, PySem.W.mg_none_of X G z_range, PySem.W.mg_none_of X G z_sum, PySem.W.mg_none_of X G z_tuple, PySem.W.mg_none_of X G z_zip⟩
  have c_MOST_LETTERS := PySem.W.mg_of X G zc_MOST_LETTERS
  have XS : mg "SheetError" = some (.ref cS) := PySem.W.mg_of X G eS
  have m_1 := PySem.W.mg_of X G e_1.nm
  obtain ⟨f1, TX_1⟩ := e_1.txt mg m_1
  have X_InvalidPicture : XC K mg 1 := ⟨_, _, TX_1⟩
  have XK_1 : XK K mg 1 := ⟨_, m_1, e_1.tab⟩
  have m_4 := PySem.W.mg_of X G e_4.nm
  obtain ⟨f4, TX_4⟩ := e_4.txt mg m_4
  have X_InvalidDepth : XC K mg 4 := ⟨_, _, TX_4⟩
  have XK_4 : XK K mg 4 := ⟨_, m_4, e_4.tab⟩
  have m_7 := PySem.W.mg_of X G e_7.nm
  obtain ⟨f7, TX_7⟩ := e_7.txt mg m_7
  have X_InvalidPlace : XC K mg 7 := ⟨_, _, TX_7⟩
  have XK_7 : XK K mg 7 := ⟨_, m_7, e_7.tab⟩
  have XKs : ∀ ns, ns = [1, 4, 7] → ∀ n, n ∈ ns → XK K mg n := by
    intro ns e n hn; subst e; simp only [List.mem_cons, List.mem_nil_iff, or_false] at hn
    rcases hn with rfl | rfl | rfl
    · exact XK_1
    · exact XK_4
    · exact XK_7
  have XMs0 : ∀ q, q ∈ [1, 4, 7] → PySem.W.exmOne K (.ref (clOf mg q)) (.ref cS) = some true := by
    intro q hn; simp only [List.mem_cons, List.mem_nil_iff, or_false] at hn
    rcases hn with rfl | rfl | rfl
    · rw [XK.cl m_1]; exact e_1.exm
    · rw [XK.cl m_4]; exact e_4.exm
    · rw [XK.cl m_7]; exact e_7.exm
  have XKe0 : ∀ m C, m ∈ [1, 4, 7] → mg (excN m) = some (.ref C) → PySem.W.keepIn K (.ref C) = true := by
    intro m C hn e; simp only [List.mem_cons, List.mem_nil_iff, or_false] at hn
    rcases hn with rfl | rfl | rfl
    · cases m_1.symm.trans e; exact TX_1.kC
    · cases m_4.symm.trans e; exact TX_4.kC
    · cases m_7.symm.trans e; exact TX_7.kC
  have XIs0 : ∀ n m, n ∈ [1, 4, 7] → m ∈ [1, 4, 7] → XI K mg n m := by
    intro n m hn hm; simp only [List.mem_cons, List.mem_nil_iff, or_false] at hn; simp only [List.mem_cons, List.mem_nil_iff, or_false] at hm
    rcases hn with rfl | rfl | rfl
    · refine ⟨?_⟩; rcases hm with rfl | rfl | rfl
      · intro C D h1 h2; cases m_1.symm.trans h1; cases m_1.symm.trans h2; exact ⟨i_1_1, .own _⟩
      · intro C D h1 h2; cases m_1.symm.trans h1; cases m_4.symm.trans h2; exact ⟨i_1_4, .own _⟩
      · intro C D h1 h2; cases m_1.symm.trans h1; cases m_7.symm.trans h2; exact ⟨i_1_7, .own _⟩
    · refine ⟨?_⟩; rcases hm with rfl | rfl | rfl
      · intro C D h1 h2; cases m_4.symm.trans h1; cases m_1.symm.trans h2; exact ⟨i_4_1, .own _⟩
      · intro C D h1 h2; cases m_4.symm.trans h1; cases m_4.symm.trans h2; exact ⟨i_4_4, .own _⟩
      · intro C D h1 h2; cases m_4.symm.trans h1; cases m_7.symm.trans h2; exact ⟨i_4_7, .own _⟩
    · refine ⟨?_⟩; rcases hm with rfl | rfl | rfl
      · intro C D h1 h2; cases m_7.symm.trans h1; cases m_1.symm.trans h2; exact ⟨i_7_1, .own _⟩
      · intro C D h1 h2; cases m_7.symm.trans h1; cases m_4.symm.trans h2; exact ⟨i_7_4, .own _⟩
      · intro C D h1 h2; cases m_7.symm.trans h1; cases m_7.symm.trans h2; exact ⟨i_7_7, .own _⟩
  obtain ⟨f, fd, a, F⟩ := T_law
  have e := hfa.symm.trans (PySem.W.mg_of X G a)
  cases e
  obtain ⟨oc, od, kV, doc, pm, an, cdv, ct, osl, rfl, hlk⟩ := F.ex
  refine ⟨PySem.W.fnOf "law" "law" (defArgs s_law) (defBody s_law) (defScope s_law) .none kV doc pm an cdv ct, fun s v => .of_eq rfl, fun base _ _ => ?_⟩
  have F_anew_0 : Fn l.prog w K mg base "anew" 1 (C_of mg (f_anew 0)) := T_anew.fn (base := base) (ps := ["value"]) X G (fun f fd F => ok_bot) (fun _ _ _ _ _ _ us hl => match us, hl with | [_], _ => rfl)
  have F_anew_1 : Fn l.prog w K mg base "anew" 2 (C_of mg (f_anew 1)) := T_anew.fn (base := base) (ps := ["value"]) X G (fun f fd F => by rw [f_anew_eq]; exact ok_anew (P := l.prog) (w := w) (base := base) F T F_anew_0 (by decide)) (fun _ _ _ _ _ _ us hl => match us, hl with | [_], _ => rfl)
  have F_anew_2 : Fn l.prog w K mg base "anew" 3 (C_of mg (f_anew 2)) := T_anew.fn (base := base) (ps := ["value"]) X G (fun f fd F => by rw [f_anew_eq]; exact ok_anew (P := l.prog) (w := w) (base := base) F T F_anew_1 (by decide)) (fun _ _ _ _ _ _ us hl => match us, hl with | [_], _ => rfl)
  have F_anew_3 : Fn l.prog w K mg base "anew" 4 (C_of mg (f_anew 3)) := T_anew.fn (base := base) (ps := ["value"]) X G (fun f fd F => by rw [f_anew_eq]; exact ok_anew (P := l.prog) (w := w) (base := base) F T F_anew_2 (by decide)) (fun _ _ _ _ _ _ us hl => match us, hl with | [_], _ => rfl)
  have F_anew_4 : Fn l.prog w K mg base "anew" 5 (C_of mg (f_anew 4)) := T_anew.fn (base := base) (ps := ["value"]) X G (fun f fd F => by rw [f_anew_eq]; exact ok_anew (P := l.prog) (w := w) (base := base) F T F_anew_3 (by decide)) (fun _ _ _ _ _ _ us hl => match us, hl with | [_], _ => rfl)
  have F_anew_5 : Fn l.prog w K mg base "anew" 6 (C_of mg (f_anew 5)) := T_anew.fn (base := base) (ps := ["value"]) X G (fun f fd F => by rw [f_anew_eq]; exact ok_anew (P := l.prog) (w := w) (base := base) F T F_anew_4 (by decide)) (fun _ _ _ _ _ _ us hl => match us, hl with | [_], _ => rfl)
  have F_anew_6 : Fn l.prog w K mg base "anew" 7 (C_of mg (f_anew 6)) := T_anew.fn (base := base) (ps := ["value"]) X G (fun f fd F => by rw [f_anew_eq]; exact ok_anew (P := l.prog) (w := w) (base := base) F T F_anew_5 (by decide)) (fun _ _ _ _ _ _ us hl => match us, hl with | [_], _ => rfl)
  have F_anew_7 : Fn l.prog w K mg base "anew" 8 (C_of mg (f_anew 7)) := T_anew.fn (base := base) (ps := ["value"]) X G (fun f fd F => by rw [f_anew_eq]; exact ok_anew (P := l.prog) (w := w) (base := base) F T F_anew_6 (by decide)) (fun _ _ _ _ _ _ us hl => match us, hl with | [_], _ => rfl)
  have F_anew_8 : Fn l.prog w K mg base "anew" 9 (C_of mg (f_anew 8)) := T_anew.fn (base := base) (ps := ["value"]) X G (fun f fd F => by rw [f_anew_eq]; exact ok_anew (P := l.prog) (w := w) (base := base) F T F_anew_7 (by decide)) (fun _ _ _ _ _ _ us hl => match us, hl with | [_], _ => rfl)
  have F_anew := F_anew_8
  have F_is_shelf := T_is_shelf.fn (base := base) X G (fun f fd F => ok_is_shelf (P := l.prog) (w := w) (base := base) F T c_MOST_LETTERS) (fun _ _ _ _ _ _ us hl => match us, hl with | [_], _ => rfl)
  have F_are_shades := T_are_shades.fn (base := base) X G (fun f fd F => ok_are_shades (P := l.prog) (w := w) (base := base) F T) (fun _ _ _ _ _ _ us hl => match us, hl with | [_], _ => rfl)
  have F_are_blocks := T_are_blocks.fn (base := base) X G (fun f fd F => ok_are_blocks (P := l.prog) (w := w) (base := base) F T) (fun _ _ _ _ _ _ us hl => match us, hl with | [_, _], _ => rfl)
  have F_is_int := T_is_int.fn (base := base) X G (fun f fd F => ok_is_int (P := l.prog) (w := w) (base := base) F T) (fun _ _ _ _ _ _ us hl => match us, hl with | [_], _ => rfl)
  have F_is_picture := T_is_picture.fn (base := base) X G (fun f fd F => ok_is_picture (P := l.prog) (w := w) (base := base) F T F_are_blocks F_are_shades F_is_int F_is_shelf) (fun _ _ _ _ _ _ us hl => match us, hl with | [_], _ => rfl)
  have F_check_picture := T_check_picture.fn (base := base) X G (fun f fd F => ok_check_picture (P := l.prog) (w := w) (base := base) F F_anew F_is_picture X_InvalidPicture) (fun _ _ _ _ _ _ us hl => match us, hl with | [_], _ => rfl)
  have F_check_depth := T_check_depth.fn (base := base) X G (fun f fd F => ok_check_depth (P := l.prog) (w := w) (base := base) F X_InvalidDepth) (fun _ _ _ _ _ _ us hl => match us, hl with | [_], _ => rfl)
  have F_side_of := T_side_of.fn (base := base) X G (fun f fd F => ok_side_of (P := l.prog) (w := w) (base := base) F ) (fun _ _ _ _ _ _ us hl => match us, hl with | [_, _], _ => rfl)
  have F_check_place := T_check_place.fn (base := base) X G (fun f fd F => ok_check_place (P := l.prog) (w := w) (base := base) F F_side_of X_InvalidPlace) (fun _ _ _ _ _ _ us hl => match us, hl with | [_, _, _, _], _ => rfl)
  have F_figures_of := T_figures_of.fn (base := base) X G (fun f fd F => ok_figures_of (P := l.prog) (w := w) (base := base) F T) (fun _ _ _ _ _ _ us hl => match us, hl with | [_, _, _], _ => rfl)
  have F_found_letter := T_found_letter.fn (base := base) X G (fun f fd F => ok_found_letter (P := l.prog) (w := w) (base := base) F T F_figures_of) (fun _ _ _ _ _ _ us hl => match us, hl with | [_, _, _, _], _ => rfl)
  have F_letter_at := T_letter_at.fn (base := base) X G (fun f fd F => ok_letter_at (P := l.prog) (w := w) (base := base) F F_check_depth F_check_picture F_check_place F_found_letter) (fun _ _ _ _ _ _ us hl => match us, hl with | [_, _, _, _], _ => rfl)
  have K_letter_at := T_letter_at.kw (base := base) X G (fun f fd F => ok_letter_at (P := l.prog) (w := w) (base := base) F F_check_depth F_check_picture F_check_place F_found_letter) (fun _ _ _ _ _ _ s us hl => match us, hl with | [_, _, _, _], _ => .of_eq rfl)
  have F_shade_at := T_shade_at.fn (base := base) X G (fun f fd F => ok_shade_at (P := l.prog) (w := w) (base := base) F F_letter_at) (fun _ _ _ _ _ _ us hl => match us, hl with | [_, _, _, _], _ => rfl)
  have K_shade_at := T_shade_at.kw (base := base) X G (fun f fd F => ok_shade_at (P := l.prog) (w := w) (base := base) F F_letter_at) (fun _ _ _ _ _ _ s us hl => match us, hl with | [_, _, _, _], _ => .of_eq rfl)
  have F_part := T_part.fn (base := base) X G (fun f fd F => ok_part (P := l.prog) (w := w) (base := base) F F_letter_at) (fun _ _ _ _ _ _ us hl => match us, hl with | [_, _, _, _], _ => rfl)
  have K_part := T_part.kw (base := base) X G (fun f fd F => ok_part (P := l.prog) (w := w) (base := base) F F_letter_at) (fun _ _ _ _ _ _ s us hl => match us, hl with | [_, _, _, _], _ => .of_eq rfl)
  have F_ink_l := T_ink_l.fn (base := base) X G (fun f fd F => ok_ink_l (P := l.prog) (w := w) (base := base) F T) (fun _ _ _ _ _ _ us hl => match us, hl with | [_, _], _ => rfl)
  have F_drip_l := T_drip_l.fn (base := base) X G (fun f fd F => ok_drip_l (P := l.prog) (w := w) (base := base) F T) (fun _ _ _ _ _ _ us hl => match us, hl with | [_, _], _ => rfl)
  have F_same_l_0 : Fn l.prog w K mg base "_law_same" 1 (C_of mg (f_same_l 0)) := T_same_l.fn (base := base) (ps := ["_law_told", "_law_due"]) X G (fun f fd F => ok_bot) (fun _ _ _ _ _ _ us hl => match us, hl with | [_, _], _ => rfl)
  have F_same_l_1 : Fn l.prog w K mg base "_law_same" 2 (C_of mg (f_same_l 1)) := T_same_l.fn (base := base) (ps := ["_law_told", "_law_due"]) X G (fun f fd F => by rw [f_same_l_eq]; exact ok_same_l (P := l.prog) (w := w) (base := base) F T F_same_l_0 (by decide)) (fun _ _ _ _ _ _ us hl => match us, hl with | [_, _], _ => rfl)
  have F_same_l_2 : Fn l.prog w K mg base "_law_same" 3 (C_of mg (f_same_l 2)) := T_same_l.fn (base := base) (ps := ["_law_told", "_law_due"]) X G (fun f fd F => by rw [f_same_l_eq]; exact ok_same_l (P := l.prog) (w := w) (base := base) F T F_same_l_1 (by decide)) (fun _ _ _ _ _ _ us hl => match us, hl with | [_, _], _ => rfl)
  have F_same_l_3 : Fn l.prog w K mg base "_law_same" 4 (C_of mg (f_same_l 3)) := T_same_l.fn (base := base) (ps := ["_law_told", "_law_due"]) X G (fun f fd F => by rw [f_same_l_eq]; exact ok_same_l (P := l.prog) (w := w) (base := base) F T F_same_l_2 (by decide)) (fun _ _ _ _ _ _ us hl => match us, hl with | [_, _], _ => rfl)
  have F_same_l_4 : Fn l.prog w K mg base "_law_same" 5 (C_of mg (f_same_l 4)) := T_same_l.fn (base := base) (ps := ["_law_told", "_law_due"]) X G (fun f fd F => by rw [f_same_l_eq]; exact ok_same_l (P := l.prog) (w := w) (base := base) F T F_same_l_3 (by decide)) (fun _ _ _ _ _ _ us hl => match us, hl with | [_, _], _ => rfl)
  have F_same_l_5 : Fn l.prog w K mg base "_law_same" 6 (C_of mg (f_same_l 5)) := T_same_l.fn (base := base) (ps := ["_law_told", "_law_due"]) X G (fun f fd F => by rw [f_same_l_eq]; exact ok_same_l (P := l.prog) (w := w) (base := base) F T F_same_l_4 (by decide)) (fun _ _ _ _ _ _ us hl => match us, hl with | [_, _], _ => rfl)
  have F_same_l_6 : Fn l.prog w K mg base "_law_same" 7 (C_of mg (f_same_l 6)) := T_same_l.fn (base := base) (ps := ["_law_told", "_law_due"]) X G (fun f fd F => by rw [f_same_l_eq]; exact ok_same_l (P := l.prog) (w := w) (base := base) F T F_same_l_5 (by decide)) (fun _ _ _ _ _ _ us hl => match us, hl with | [_, _], _ => rfl)
  have F_same_l_7 : Fn l.prog w K mg base "_law_same" 8 (C_of mg (f_same_l 7)) := T_same_l.fn (base := base) (ps := ["_law_told", "_law_due"]) X G (fun f fd F => by rw [f_same_l_eq]; exact ok_same_l (P := l.prog) (w := w) (base := base) F T F_same_l_6 (by decide)) (fun _ _ _ _ _ _ us hl => match us, hl with | [_, _], _ => rfl)
  have F_same_l_8 : Fn l.prog w K mg base "_law_same" 9 (C_of mg (f_same_l 8)) := T_same_l.fn (base := base) (ps := ["_law_told", "_law_due"]) X G (fun f fd F => by rw [f_same_l_eq]; exact ok_same_l (P := l.prog) (w := w) (base := base) F T F_same_l_7 (by decide)) (fun _ _ _ _ _ _ us hl => match us, hl with | [_, _], _ => rfl)
  have F_same_l := F_same_l_8
  have F_order_l := T_order_l.fn (base := base) X G (fun f fd F => ok_order_l (P := l.prog) (w := w) (base := base) F T F_drip_l) (fun _ _ _ _ _ _ us hl => match us, hl with | [_, _], _ => rfl)
  have F_shades_l := T_shades_l.fn (base := base) X G (fun f fd F => ok_shades_l (P := l.prog) (w := w) (base := base) F T F_drip_l) (fun _ _ _ _ _ _ us hl => match us, hl with | [_, _], _ => rfl)
  have F_block_l := T_block_l.fn (base := base) X G (fun f fd F => ok_block_l (P := l.prog) (w := w) (base := base) F T F_drip_l) (fun _ _ _ _ _ _ us hl => match us, hl with | [_, _, _, _, _], _ => rfl)
  have F_renamed_l := T_renamed_l.fn (base := base) X G (fun f fd F => ok_renamed_l (P := l.prog) (w := w) (base := base) F T) (fun _ _ _ _ _ _ us hl => match us, hl with | [_, _], _ => rfl)
  have F_book_l := T_book_l.fn (base := base) X G (fun f fd F => ok_book_l (P := l.prog) (w := w) (base := base) F T F_block_l F_drip_l F_order_l F_renamed_l F_shades_l) (fun _ _ _ _ _ _ us hl => match us, hl with | [_, _, _], _ => rfl)
  have F_depth_l := T_depth_l.fn (base := base) X G (fun f fd F => ok_depth_l (P := l.prog) (w := w) (base := base) F F_drip_l) (fun _ _ _ _ _ _ us hl => match us, hl with | [_], _ => rfl)
  have F_line_l := T_line_l.fn (base := base) X G (fun f fd F => ok_line_l (P := l.prog) (w := w) (base := base) F T F_drip_l) (fun _ _ _ _ _ _ us hl => match us, hl with | [_, _, _], _ => rfl)
  have F_number_l := T_number_l.fn (base := base) X G (fun f fd F => ok_number_l (P := l.prog) (w := w) (base := base) F ) (fun _ _ _ _ _ _ us hl => match us, hl with | [_, _], _ => rfl)
  have F_led_l := T_led_l.fn (base := base) X G (fun f fd F => ok_led_l (P := l.prog) (w := w) (base := base) F T) (fun _ _ _ _ _ _ us hl => match us, hl with | [_, _, _, _], _ => rfl)
  have F_cell_right_l := T_cell_right_l.fn (base := base) X G (fun f fd F => ok_cell_right_l (P := l.prog) (w := w) (base := base) F T F_depth_l F_drip_l F_led_l F_line_l F_number_l F_same_l F_letter_at F_part F_shade_at K_letter_at K_part K_shade_at) (fun _ _ _ _ _ _ us hl => match us, hl with | [_, _], _ => rfl)
  have F_caught_l := T_caught_l.fn (base := base) X G (fun f fd F => ok_caught_l (P := l.prog) (w := w) (base := base) F F_letter_at F_part F_shade_at XS XMs0) (fun _ _ _ _ _ _ us hl => match us, hl with | [_, _, _, _, _], _ => rfl)
  have F_refused_l := T_refused_l.fn (base := base) X G (fun f fd F => ok_refused_l (P := l.prog) (w := w) (base := base) F T F_caught_l F_depth_l F_drip_l F_number_l F_same_l XKs XIs0 XKe0) (fun _ _ _ _ _ _ us hl => match us, hl with | [_, _], _ => rfl)
  have F_right_l := T_right_l.fn (base := base) X G (fun f fd F => ok_right_l (P := l.prog) (w := w) (base := base) F T F_book_l F_cell_right_l F_drip_l F_refused_l) (fun _ _ _ _ _ _ us hl => match us, hl with | [_], _ => rfl)
  exact FnOk.weak (fun _ _ _ _ => law_con) (ok_law F T F_ink_l F_right_l)
end Sy

open PySem PySem.W PyProof.Rows
set_option Elab.async false
set_option maxRecDepth 100000
theorem bits_lt {n : Int} (h : PySem.Builtin.Int.intBits n ≤ 1048576) : n.natAbs < 2 ^ Sy.scB := by
  unfold PySem.Builtin.Int.intBits at h
  show n.natAbs < 2 ^ 1048576
  by_cases e : n = 0
  · rw [e]; exact Nat.two_pow_pos 1048576
  · rw [if_neg (by simpa using e)] at h
    exact (Nat.log2_lt (by omega)).mp (by omega)
theorem law_spec {K : PySem.W.Frag} {H : L2.Hp} {a : Addr} {ns : List Int} (hl : ns.length ≤ 63) (hb : ∀ z ∈ ns, PySem.Builtin.Int.intBits z ≤ 1048576) (hO : L2.Only H) (hS : L2.SqL K H a (ns.map L2.V.int)) : Sy.SpC K Sy.C_law [.ref a] H (fun v _ => v = .bl true) fun _ _ _ => False := by
  have hf : Sy.FzL K H a (ns.map L2.V.int) := by
    rcases hS with (h | h) | h
    · rcases hO a with z | ⟨o, xs, z⟩
      · rw [z] at h; cases h
      · rw [z] at h; cases h
    · exact .inl h
    · exact .inr (.inr h)
  refine ⟨[.rdl (ns.map Sy.S.int)], fun _ => none, fun s _ => s = .bl true, fun _ _ _ => False, .cons (.rdl hf (Sy.RVs.ints ns)) .nil, (fun b o e => nomatch e), ⟨ns, rfl, hl, fun n hn => bits_lt (hb n hn), fun _ => rfl⟩, fun s M' v H' _ rv _ e => ?_, fun _ _ _ _ _ _ _ _ _ _ z => z.elim⟩
  subst e
  cases rv
  rfl
set_option maxHeartbeats 0 in
theorem PySem.Challenge.cw_everydepth_k01_cells_by_their_figures_holds : PySem.Challenge.rw_everydepth_k01_cells_by_their_figures.Holds := by
  w_on; o_law; k_head; (case hw => w_witness2)
  k_fill
  refine Sy.walk_g (l := PySem.Challenge.rw_everydepth_k01_cells_by_their_figures) (n := 63) (k := 16) (x := "_law_script") (sp := fun w => Sy.SpC _ Sy.C_law) rfl (by decide) rfl ⟨by decide, by decide, by decide⟩ (fun w h Y => PySem.W.kIn_of Y) ?F (fun _ _ a ns hl hb hO hS => law_spec hl hb hO hS)
  case F =>
    intro w mg fa h KX G hmg
    refine' Sy.all_mk KX G hmg ?eS ?e_1 ?e_4 ?e_7 ?i_1_1 ?i_1_4 ?i_1_7 ?i_4_1 ?i_4_4 ?i_4_7 ?i_7_1 ?i_7_4 ?i_7_7 ?T_anew ?T_is_shelf ?T_are_shades ?T_are_blocks ?T_is_int ?T_is_picture ?T_check_picture ?T_check_depth ?T_side_of ?T_check_place ?T_figures_of ?T_found_letter ?T_letter_at ?T_shade_at ?T_part ?T_ink_l ?T_drip_l ?T_same_l ?T_order_l ?T_shades_l ?T_block_l ?T_renamed_l ?T_book_l ?T_depth_l ?T_line_l ?T_number_l ?T_led_l ?T_cell_right_l ?T_caught_l ?T_refused_l ?T_right_l ?T_law ?z_abs ?z_all ?z_bool ?z_int ?z_isinstance ?z_len ?z_list ?z_max ?z_min ?z_range ?z_sum ?z_tuple ?z_zip ?zc_MOST_LETTERS
    (case eS => k_is)
    (case e_1 => (refine' Sy.exc_mk ?aC ?xL ?rf ?sa ?ga ?gg ?nb ?a1 ?t1 ?l1 ?c1 ?kC ?eC ?tC ?hC ?iC ?sC ?eS ?iS ?tS ?sS ?ac ?ds ?tk ?mr; (case aC => k_is); (case xL => k_is); (case rf => decide +kernel); (case sa => k_is); (case ga => k_is); (case gg => k_is); (case nb => k_is); (case a1 => k_is); (case t1 => k_is); (case l1 => k_is); (case c1 => k_is); (case kC => k_is); (case eC => k_is); (case tC => k_is); (case hC => k_is); (case iC => k_is); (case sC => first | rfl | k_is); (case eS => k_is); (case iS => k_is); (case tS => k_is); (case sS => k_is); (case ac => k_is); (case ds => k_is); (case tk => k_is); (case mr => k_is)))
    (case e_4 => (refine' Sy.exc_mk ?aC ?xL ?rf ?sa ?ga ?gg ?nb ?a1 ?t1 ?l1 ?c1 ?kC ?eC ?tC ?hC ?iC ?sC ?eS ?iS ?tS ?sS ?ac ?ds ?tk ?mr; (case aC => k_is); (case xL => k_is); (case rf => decide +kernel); (case sa => k_is); (case ga => k_is); (case gg => k_is); (case nb => k_is); (case a1 => k_is); (case t1 => k_is); (case l1 => k_is); (case c1 => k_is); (case kC => k_is); (case eC => k_is); (case tC => k_is); (case hC => k_is); (case iC => k_is); (case sC => first | rfl | k_is); (case eS => k_is); (case iS => k_is); (case tS => k_is); (case sS => k_is); (case ac => k_is); (case ds => k_is); (case tk => k_is); (case mr => k_is)))
    (case e_7 => (refine' Sy.exc_mk ?aC ?xL ?rf ?sa ?ga ?gg ?nb ?a1 ?t1 ?l1 ?c1 ?kC ?eC ?tC ?hC ?iC ?sC ?eS ?iS ?tS ?sS ?ac ?ds ?tk ?mr; (case aC => k_is); (case xL => k_is); (case rf => decide +kernel); (case sa => k_is); (case ga => k_is); (case gg => k_is); (case nb => k_is); (case a1 => k_is); (case t1 => k_is); (case l1 => k_is); (case c1 => k_is); (case kC => k_is); (case eC => k_is); (case tC => k_is); (case hC => k_is); (case iC => k_is); (case sC => first | rfl | k_is); (case eS => k_is); (case iS => k_is); (case tS => k_is); (case sS => k_is); (case ac => k_is); (case ds => k_is); (case tk => k_is); (case mr => k_is)))
    (case i_1_1 => first | rfl | k_is)
    (case i_1_4 => first | rfl | k_is)
    (case i_1_7 => first | rfl | k_is)
    (case i_4_1 => first | rfl | k_is)
    (case i_4_4 => first | rfl | k_is)
    (case i_4_7 => first | rfl | k_is)
    (case i_7_1 => first | rfl | k_is)
    (case i_7_4 => first | rfl | k_is)
    (case i_7_7 => first | rfl | k_is)
    (case T_anew => (refine' Sy.top_mk ?a ?l ?c ?k; (case a => k_is); (case l => k_is); (case c => k_is); (case k => k_is)))
    (case T_is_shelf => (refine' Sy.top_mk ?a ?l ?c ?k; (case a => k_is); (case l => k_is); (case c => k_is); (case k => k_is)))
    (case T_are_shades => (refine' Sy.top_mk ?a ?l ?c ?k; (case a => k_is); (case l => k_is); (case c => k_is); (case k => k_is)))
    (case T_are_blocks => (refine' Sy.top_mk ?a ?l ?c ?k; (case a => k_is); (case l => k_is); (case c => k_is); (case k => k_is)))
    (case T_is_int => (refine' Sy.top_mk ?a ?l ?c ?k; (case a => k_is); (case l => k_is); (case c => k_is); (case k => k_is)))
    (case T_is_picture => (refine' Sy.top_mk ?a ?l ?c ?k; (case a => k_is); (case l => k_is); (case c => k_is); (case k => k_is)))
    (case T_check_picture => (refine' Sy.top_mk ?a ?l ?c ?k; (case a => k_is); (case l => k_is); (case c => k_is); (case k => k_is)))
    (case T_check_depth => (refine' Sy.top_mk ?a ?l ?c ?k; (case a => k_is); (case l => k_is); (case c => k_is); (case k => k_is)))
    (case T_side_of => (refine' Sy.top_mk ?a ?l ?c ?k; (case a => k_is); (case l => k_is); (case c => k_is); (case k => k_is)))
    (case T_check_place => (refine' Sy.top_mk ?a ?l ?c ?k; (case a => k_is); (case l => k_is); (case c => k_is); (case k => k_is)))
    (case T_figures_of => (refine' Sy.top_mk ?a ?l ?c ?k; (case a => k_is); (case l => k_is); (case c => k_is); (case k => k_is)))
    (case T_found_letter => (refine' Sy.top_mk ?a ?l ?c ?k; (case a => k_is); (case l => k_is); (case c => k_is); (case k => k_is)))
    (case T_letter_at => (refine' Sy.top_mk ?a ?l ?c ?k; (case a => k_is); (case l => k_is); (case c => k_is); (case k => k_is)))
    (case T_shade_at => (refine' Sy.top_mk ?a ?l ?c ?k; (case a => k_is); (case l => k_is); (case c => k_is); (case k => k_is)))
    (case T_part => (refine' Sy.top_mk ?a ?l ?c ?k; (case a => k_is); (case l => k_is); (case c => k_is); (case k => k_is)))
    (case T_ink_l => (refine' Sy.top_mk ?a ?l ?c ?k; (case a => k_is); (case l => k_is); (case c => k_is); (case k => k_is)))
    (case T_drip_l => (refine' Sy.top_mk ?a ?l ?c ?k; (case a => k_is); (case l => k_is); (case c => k_is); (case k => k_is)))
    (case T_same_l => (refine' Sy.top_mk ?a ?l ?c ?k; (case a => k_is); (case l => k_is); (case c => k_is); (case k => k_is)))
    (case T_order_l => (refine' Sy.top_mk ?a ?l ?c ?k; (case a => k_is); (case l => k_is); (case c => k_is); (case k => k_is)))
    (case T_shades_l => (refine' Sy.top_mk ?a ?l ?c ?k; (case a => k_is); (case l => k_is); (case c => k_is); (case k => k_is)))
    (case T_block_l => (refine' Sy.top_mk ?a ?l ?c ?k; (case a => k_is); (case l => k_is); (case c => k_is); (case k => k_is)))
    (case T_renamed_l => (refine' Sy.top_mk ?a ?l ?c ?k; (case a => k_is); (case l => k_is); (case c => k_is); (case k => k_is)))
    (case T_book_l => (refine' Sy.top_mk ?a ?l ?c ?k; (case a => k_is); (case l => k_is); (case c => k_is); (case k => k_is)))
    (case T_depth_l => (refine' Sy.top_mk ?a ?l ?c ?k; (case a => k_is); (case l => k_is); (case c => k_is); (case k => k_is)))
    (case T_line_l => (refine' Sy.top_mk ?a ?l ?c ?k; (case a => k_is); (case l => k_is); (case c => k_is); (case k => k_is)))
    (case T_number_l => (refine' Sy.top_mk ?a ?l ?c ?k; (case a => k_is); (case l => k_is); (case c => k_is); (case k => k_is)))
    (case T_led_l => (refine' Sy.top_mk ?a ?l ?c ?k; (case a => k_is); (case l => k_is); (case c => k_is); (case k => k_is)))
    (case T_cell_right_l => (refine' Sy.top_mk ?a ?l ?c ?k; (case a => k_is); (case l => k_is); (case c => k_is); (case k => k_is)))
    (case T_caught_l => (refine' Sy.top_mk ?a ?l ?c ?k; (case a => k_is); (case l => k_is); (case c => k_is); (case k => k_is)))
    (case T_refused_l => (refine' Sy.top_mk ?a ?l ?c ?k; (case a => k_is); (case l => k_is); (case c => k_is); (case k => k_is)))
    (case T_right_l => (refine' Sy.top_mk ?a ?l ?c ?k; (case a => k_is); (case l => k_is); (case c => k_is); (case k => k_is)))
    (case T_law => (refine' Sy.top_mk ?a ?l ?c ?k; (case a => k_is); (case l => k_is); (case c => k_is); (case k => k_is)))
    (case z_abs => k_is)
    (case z_all => k_is)
    (case z_bool => k_is)
    (case z_int => k_is)
    (case z_isinstance => k_is)
    (case z_len => k_is)
    (case z_list => k_is)
    (case z_max => k_is)
    (case z_min => k_is)
    (case z_range => k_is)
    (case z_sum => k_is)
    (case z_tuple => k_is)
    (case z_zip => k_is)
    (case zc_MOST_LETTERS => k_is)
